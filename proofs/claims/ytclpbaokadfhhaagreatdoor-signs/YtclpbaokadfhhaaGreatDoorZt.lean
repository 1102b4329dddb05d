import Derived.Test.YtclpbaokadfhhaaGreatDoorZr
set_option maxRecDepth 100000
set_option maxHeartbeats 4000000
namespace Go.Proofs.YtclpbaokadfhhaaGreatDoor
open Go.RowKit
def Us(l:List Nat):Array Value:=(l.map fun n:Nat=>Value.int .i64 (n:Int)).toArray
theorem lm(l:List Nat):(Us l).size=l.length:=by simp[Us]
theorem Uz{l:List Nat}{n:Nat}(h:l.length=n):(Us l).size=n:=by rw[lm,h]
theorem tq(l:List Nat)(i:Nat)(h:i<l.length):(Us l)[i]? =some (.int .i64 ((l.getD i 0:Nat):Int)):=by
 simp[Us,List.getD,h]
theorem j4(l:List Nat)(i:Nat)(x:Nat):(Us l).setIfInBounds i (.int .i64 (x:Int))=Us (l.set i x):=by
 simp[Us,List.map_set]
theorem cj(l:List Nat):(Us l).all (·.oneCell')=true:=by
 rw[Array.all_eq_true_iff_forall_mem];intro v hv;simp only[Us,List.mem_toArray,List.mem_map]at hv;obtain⟨n,_,rfl⟩:=hv;rfl
namespace Po
def none17:List Nat:=List.replicate 17 0
def cStep(p:List Nat×Nat)(i:Nat):List Nat×Nat:=(p.1.set i ((p.1.getD i 0+p.2)%256),(p.1.getD i 0+p.2)/256)
def cTo(l:List Nat)(c:Nat):Nat→List Nat×Nat
 |0=>(l,c)
 |k+1=>cStep (cTo l c k) k
theorem xa(l:List Nat)(c:Nat): ∀k,(cTo l c k).1.length=l.length
 |0=>rfl
 |k+1=>by rw[cTo,cStep,List.length_set,xa l c k]
theorem xN(l:List Nat)(i x:Nat)(h:i<l.length):(l.set i x).getD i 0=x:=by simp[List.getD,h]
theorem At(l:List Nat)(i j x:Nat)(h:i≠j):(l.set i x).getD j 0=l.getD j 0:=by simp[List.getD,h]
theorem yE(l:List Nat)(c:Nat): ∀k j,k≤j→(cTo l c k).1.getD j 0=l.getD j 0
 |0,_,_=>rfl
 |k+1,j,h=>by rw[cTo,cStep,At _ _ _ _ (by omega),yE l c k j (by omega)]
theorem yD(l:List Nat)(c M:Nat)(hM: ∀i,l.getD i 0≤M)(hc:c≤M): ∀k,(cTo l c k).2≤M
 |0=>hc
 |k+1=>by
  have h1:=yE l c k k nR;have h2:=hM k;have h3:=yD l c M hM hc k;rw[cTo,cStep,h1];show(l.getD k 0+(cTo l c k).2)/256≤M
  omega
theorem cTo_bd(l:List Nat)(c M:Nat)(h0:255≤M)(hM: ∀i,l.getD i 0≤M): ∀k i,(cTo l c k).1.getD i 0≤M
 |0,i=>hM i
 |k+1,i=>by
  rw[cTo,cStep];by_cases e:k=i
  ·subst e;by_cases hk:k<(cTo l c k).1.length
   ·rw[xN _ _ _ hk];omega
   ·rw[List.set_eq_of_length_le (by omega)];exact cTo_bd l c M h0 hM k k
  ·rw[At _ _ _ _ e];exact cTo_bd l c M h0 hM k i
def mid(l:List Nat):Nat:=(cTo l 0 16).1.getD 16 0+(cTo l 0 16).2
def half(l:List Nat):List Nat:=(cTo l 0 16).1.set 16 (mid l%4)
def carried(l:List Nat):List Nat:=(cTo (half l) (mid l/4*5) 16).1.set 16 ((cTo (half l) (mid l/4*5) 16).1.getD 16 0+(cTo (half l) (mid l/4*5) 16).2)
theorem half_bd(l:List Nat)(M:Nat)(h0:255≤M)(hM: ∀i,l.getD i 0≤M)(i:Nat):(half l).getD i 0≤M:=by
 unfold half;by_cases e:16=i
 ·subst e;by_cases hk:16<(cTo l 0 16).1.length
  ·rw[xN _ _ _ hk];omega
  ·rw[List.set_eq_of_length_le (by omega)];exact cTo_bd l 0 M h0 hM 16 16
 ·rw[At _ _ _ _ e];exact cTo_bd l 0 M h0 hM 16 i
theorem mid_bd(l:List Nat)(M:Nat)(h0:255≤M)(hM: ∀i,l.getD i 0≤M):mid l≤2*M:=by
 unfold mid;have h1:=cTo_bd l 0 M h0 hM 16 16;have h2:=yD l 0 M hM (by omega) 16;omega
theorem AQ(l:List Nat):(half l).length=l.length:=by unfold half;rw[List.length_set,xa]
theorem carried_length(l:List Nat):(carried l).length=l.length:=by unfold carried;rw[List.length_set,xa,AQ]
end Po
theorem Tryz.info17:(Tryz.prog.info? 229).map (·.size)=some 17:=by kernel_rfl
theorem br:Ty 229 17:=⟨_,Tryz.underlying229,rfl,Tryz.info17⟩
theorem eg(w:World):Sem.run Tryz.prog (zeroValue 229) w= .ok (.agg (Us Po.none17)) w:=by kernel_rfl
theorem aA{w:World}{b t:Nat}{l:List Nat}(h:Blk w b (Us l) t)(i:Nat)(hi:i<l.length):w.cell? ⟨b,i,none⟩=some (.int .i64 ((l.getD i 0:Nat):Int)):=by
 have:=h.cell i;rw[tq l i hi]at this;exact this
theorem aM{w wr:World}{B t:Nat}{l:List Nat}(hb:Blk wr B (Us l) t)(hle:w.heap.size≤B)(BI:Below w.heap.size w wr)(i x:Nat)(v:Int)(hv:v=(x:Int)):
  Blk (wr.setCell ⟨B,i,none⟩ (.int .i64 v)) B (Us (l.set i x)) t∧(∀b' cs t',b'≠B→Blk wr b' cs t'→Blk (wr.setCell ⟨B,i,none⟩ (.int .i64 v)) b' cs t')∧Below w.heap.size w (wr.setCell ⟨B,i,none⟩ (.int .i64 v)):=by
 subst hv;refine⟨?_,?_,BI.setCell hle _⟩
 ·rw[hb.set,j4];exact hb.row _
 ·intro b' cs t' hne hb';rw[hb.set];exact hb'.other hne _
def pz(s:ByteArray)(k:Nat):ByteArray:=s++⟨(List.replicate k 0).toArray⟩
theorem fI(s:ByteArray)(k:Nat):(pz s k).data.toList=s.data.toList++List.replicate k 0:=by unfold pz;simp
theorem kV(s:ByteArray)(k:Nat):(pz s k).size=s.size+k:=by
 have:=congrArg List.length (fI s k);simpa using this
theorem ix{a b:ByteArray}(h:a.data.toList=b.data.toList):a=b:=by
 cases a;cases b
 simp only[Array.toList_inj]at h;rw[h]
theorem p8(s:ByteArray):pz s 0=s:=ix (by rw[fI];simp)
theorem qo(s:ByteArray)(k:Nat):pz s k++⟨#[0]⟩=pz s (k+1):=by
 refine ix ?_;rw[fI,ByteArray.data_append,Array.toList_append,fI,List.append_assoc,List.replicate_succ']
theorem j9(s:ByteArray)(w:World)(hs:s.size≤1000000):
  Calls Tryz.prog 198 #[.string s] w fun e w'=>e= .returned (.string (Cc.fill s))∧w'=w:=by
 have HF:Hid (Cc.fill s=pz s (Cc.t6 s.size)):=rfl;have hfs:Cc.t6 s.size=(16 - s.size%16)%16:=rfl;generalize Cc.fill s=R at HF⊢;generalize Cc.t6 s.size=f at HF hfs;go_enter Tryz.func198,Tryz.ntmps198;go_wp2_with fail;go_loopw [0] (fun v wr=> ∃k:Nat,k≤f∧v= .string (pz s k)∧wr=w) (fun v _=>match v with| .string z=>f+s.size - z.size|_=>0)
 case atStart=>exact⟨0,by omega,by rw[p8],rfl⟩
 case round=>
  obtain⟨k,hk,rfl,rfl⟩:=hrel;have hz:=kV s k;have hsu:=qo s k;have hz2:=kV s (k+1);by_cases hlt:k<f
  ·have HK:Hid (pz s (k+1)=pz s (k+1)):=rfl;generalize hp:pz s (k+1)=Z2 at hsu hz2;generalize pz s k=Z at hz hsu;have hm:((Z.size:Int)%16==0)=false:=by rw[beq_eq_false_iff_ne];omega
   have hm2: ¬((Z.size:Int)%16=0):=by omega
   have Cs:Op.stringOp .add Z ⟨#[0]⟩=pure (.string Z2):=by
    rw[aH _ _ (by show Z.size+1≤_;omega),hsu]
   clear hsu;replace hp:Hid (pz s (k+1)=Z2):=hp;go_wp2;go_roundw
   case rel=>exact⟨k+1,by omega,by rw[hp.out],trivial⟩
   case measure=>dsimp only;omega
  ·obtain rfl:k=f:=by omega
   rw[←HF.out]at hz⊢;have hm:((R.size:Int)%16==0)=true:=by rw[beq_iff_eq];omega
   have hm2:((R.size:Int)%16=0):=by omega
   go_wp2;go_ret;exact⟨rfl,rfl⟩
theorem fv(l:List Nat)(w:World)(hl:l.length=17)(hbd: ∀i,l.getD i 0≤100000000000000):
  Rw 261 #[.agg (Us l)] w (.agg (Us (Po.carried l))):=by
 have hns:=Uz hl;have hz:=eg;have hb1:Blk ((w.alloc (.cells (Us l) 229)).alloc (.cells (Us Po.none17) 229)) w.heap.size (Us l) 229:=heap_alloc2_old w _ _;have hb2:Blk ((w.alloc (.cells (Us l) 229)).alloc (.cells (Us Po.none17) 229)) (w.heap.size+1) (Us Po.none17) 229:=heap_alloc2_new w _ _;have BI:Below w.heap.size w ((w.alloc (.cells (Us l) 229)).alloc (.cells (Us Po.none17) 229)):=(bR.alloc nR _).alloc (by simp) _;have HBD:Hid (∀i,l.getD i 0≤100000000000000):=hbd;clear hbd;have HR:Hid (Po.carried l=(Po.cTo (Po.half l) (Po.mid l/4*5) 16).1.set 16 ((Po.cTo (Po.half l) (Po.mid l/4*5) 16).1.getD 16 0+(Po.cTo (Po.half l) (Po.mid l/4*5) 16).2)):=rfl;generalize Po.carried l=R at HR⊢;go_enter Tryz.func261,Tryz.ntmps261;go_wp2_with fail;generalize (w.alloc (.cells (Us l) 229)).alloc (.cells (Us Po.none17) 229)=w1 at hb1 hb2 BI⊢;go_loopw [3,4] (fun c i wr=> ∃k:Nat,k≤16∧i= .int .i64 k∧c= .int .i64 ((Po.cTo l 0 k).2:Nat)∧Blk wr w.heap.size (Us (Po.cTo l 0 k).1) 229∧Blk wr (w.heap.size+1) (Us Po.none17) 229∧Below w.heap.size w wr) (fun _ i _=>16 - (intOf i).toNat)
 case atStart=>exact⟨0,by omega,rfl,rfl,hb1,hb2,BI⟩
 case round=>
  clear hb1 hb2 BI;obtain⟨k,hk,rfl,rfl,hb1,hb2,BI⟩:=hrel;by_cases hlt:k<16
  ·have k0:(k:Int)<16:=by omega
   have hC:=Po.yD l 0 100000000000000 HBD.out (by omega) k;have hA:=Po.yE l 0 k k nR;have hB:=HBD.out k;have hln:(Po.cTo l 0 k).1.length=17:=by rw[Po.xa,hl]
   have HS:Hid (Po.cTo l 0 (k+1)=((Po.cTo l 0 k).1.set k (((Po.cTo l 0 k).1.getD k 0+(Po.cTo l 0 k).2)%256),((Po.cTo l 0 k).1.getD k 0+(Po.cTo l 0 k).2)/256)):=rfl;rw[hA]at HS;have g1:=aA hb1 k (by omega);rw[hA]at g1;generalize (Po.cTo l 0 k).1=r at hb1 hln HS g1;generalize (Po.cTo l 0 k).2=cc at hC HS⊢;generalize l.getD k 0=x at hB HS g1;clear hA;have f1:=hb1.frozen k;have R1:=aM (w:=w) hb1 nR BI k (x+cc) ((x:Int)+(cc:Int)) (by omega);have g2:=aA R1.1 k (by rw[List.length_set];omega);rw[Po.xN _ _ _ (by omega)]at g2;have f2:=R1.1.frozen k;have R2:=aM (w:=w) R1.1 nR R1.2.2 k ((x+cc)%256) (((x:Int)+(cc:Int))%256) (by omega);rw[List.set_set]at R2;go_wp2;go_roundw
   case rel=>
    refine⟨k+1,by omega,by go_num,?_,?_,R2.2.1 _ _ _ (by omega) (R1.2.1 _ _ _ (by omega) hb2),R2.2.2⟩
    ·rw[HS.out];exact aP (by omega)
    ·rw[HS.out];exact R2.1
   case measure=>simp[intOf];omega
  ·have BZ:k=16:=by omega
   subst BZ;rw[show ((16:Nat):Int)=16 from rfl];have hln:(Po.cTo l 0 16).1.length=17:=by rw[Po.xa,hl]
   have hM:=Po.mid_bd l 100000000000000 (by omega) HBD.out;have HHB:Hid (∀i,(Po.half l).getD i 0≤300000000000000):=fun i=>by have:=Po.half_bd l 100000000000000 (by omega) HBD.out i;omega
   have hlh:(Po.half l).length=17:=by rw[Po.AQ,hl]
   have HH:Hid (Po.half l=(Po.cTo l 0 16).1.set 16 (Po.mid l%4)):=rfl;have hmid:Po.mid l=(Po.cTo l 0 16).1.getD 16 0+(Po.cTo l 0 16).2:=rfl;have g1:=aA hb1 16 (by omega);generalize Po.half l=h at HR HHB hlh HH;generalize Po.mid l=m at HR HH hM hmid;generalize (Po.cTo l 0 16).1=r at hb1 hln g1 HH hmid;generalize (Po.cTo l 0 16).2=cc at hmid⊢;generalize r.getD 16 0=x at g1 hmid;have f1:=hb1.frozen 16;have R1:=aM (w:=w) hb1 nR BI 16 m (m:Int) rfl;have g2:=aA R1.1 16 (by rw[List.length_set];omega);rw[Po.xN _ _ _ (by omega)]at g2;have f2:=R1.1.frozen 16;have R2:=aM (w:=w) R1.1 nR R1.2.2 16 (m%4) ((m:Int)%4) (by omega);rw[List.set_set,←HH.out]at R2;have hb3:=R2.2.1 _ _ _ (show w.heap.size+1≠w.heap.size by omega) (R1.2.1 _ _ _ (by omega) hb2);obtain⟨hb1',_,hbel'⟩:=R2;have em:IntKind.i64.wrap ((x:Int)+(cc:Int))=(m:Int):=by rw[IntKind.wrap_i64];omega
   replace hmid:Hid (m=x+cc):=hmid;clear hb1 hb2 BI R1;go_wp2;clear g1 g2 f1 f2 em;generalize (wr.setCell ⟨w.heap.size,16,none⟩ (.int .i64 (m:Int))).setCell ⟨w.heap.size,16,none⟩ (.int .i64 ((m:Int)%4))=w2 at hb1' hb3 hbel'⊢;have hcz:(m:Int)/4*5=((m/4*5:Nat):Int):=by omega
   rw[hcz];have hcb:m/4*5≤300000000000000:=by omega
   generalize m/4*5=cz at HR hcb⊢;clear hcz hM hmid HH;go_loopw [3,5] (fun c i wr=> ∃k:Nat,k≤16∧i= .int .i64 k∧c= .int .i64 ((Po.cTo h cz k).2:Nat)∧Blk wr w.heap.size (Us (Po.cTo h cz k).1) 229∧Blk wr (w.heap.size+1) (Us Po.none17) 229∧Below w.heap.size w wr) (fun _ i _=>16 - (intOf i).toNat)
   case atStart=>exact⟨0,by omega,rfl,rfl,hb1',hb3,hbel'⟩
   case round=>
    clear hb1' hb3 hbel';obtain⟨k,hk,rfl,rfl,hb1,hb2,BI⟩:=hrel;by_cases hlt:k<16
    ·have k0:(k:Int)<16:=by omega
     have hC:=Po.yD h cz 300000000000000 HHB.out hcb k;have hA:=Po.yE h cz k k nR;have hB:=HHB.out k;have hln2:(Po.cTo h cz k).1.length=17:=by rw[Po.xa,hlh]
     have HS:Hid (Po.cTo h cz (k+1)=((Po.cTo h cz k).1.set k (((Po.cTo h cz k).1.getD k 0+(Po.cTo h cz k).2)%256),((Po.cTo h cz k).1.getD k 0+(Po.cTo h cz k).2)/256)):=rfl;rw[hA]at HS;have g1:=aA hb1 k (by omega);rw[hA]at g1;generalize (Po.cTo h cz k).1=r2 at hb1 hln2 HS g1;generalize (Po.cTo h cz k).2=cc2 at hC HS⊢;generalize h.getD k 0=x2 at hB HS g1;clear hA;have f1:=hb1.frozen k;have R1:=aM (w:=w) hb1 nR BI k (x2+cc2) ((x2:Int)+(cc2:Int)) (by omega);have g2:=aA R1.1 k (by rw[List.length_set];omega);rw[Po.xN _ _ _ (by omega)]at g2;have f2:=R1.1.frozen k;have R2:=aM (w:=w) R1.1 nR R1.2.2 k ((x2+cc2)%256) (((x2:Int)+(cc2:Int))%256) (by omega);rw[List.set_set]at R2;go_wp2;go_roundw
     case rel=>
      refine⟨k+1,by omega,by go_num,?_,?_,R2.2.1 _ _ _ (by omega) (R1.2.1 _ _ _ (by omega) hb2),R2.2.2⟩
      ·rw[HS.out];exact aP (by omega)
      ·rw[HS.out];exact R2.1
     case measure=>simp[intOf];omega
    ·have BZ:k=16:=by omega
     subst BZ;rw[show ((16:Nat):Int)=16 from rfl];have hln2:(Po.cTo h cz 16).1.length=17:=by rw[Po.xa,hlh]
     have hC:=Po.yD h cz 300000000000000 HHB.out hcb 16;have hA:=Po.yE h cz 16 16 nR;have hB:=HHB.out 16;rw[←hA]at hB;have g1:=aA hb1 16 (by omega);replace HR:=HR.out;generalize (Po.cTo h cz 16).1=r2 at hb1 hln2 g1 HR hB hA;generalize (Po.cTo h cz 16).2=cc2 at hC HR⊢;clear hA;generalize r2.getD 16 0=x2 at hB HR g1;have f1:=hb1.frozen 16;have R1:=aM (w:=w) hb1 nR BI 16 (x2+cc2) ((x2:Int)+(cc2:Int)) (by omega);rw[←HR]at R1;have hlR:R.length=17:=by rw[HR,List.length_set,hln2]
     have e17:=Uz hlR;have hb3:=R1.2.1 _ _ _ (show w.heap.size+1≠w.heap.size by omega) hb2;have q0:=R1.1;have q1:=hb3;unfold Blk at q0 q1;clear HR;go_wp2_with (first
      |(refine ld br rfl rfl w.heap.size rfl q0 e17 ?_)
      |(refine st br rfl rfl (w.heap.size+1) rfl rfl q1 e17 rfl (cj _) ?_))
     refine bodyPost_ret (v:= .agg (Us R)) ?_ rfl ⟨rfl,below_setRow R1.2.2 (by omega) _⟩;exact rr br rfl rfl (hb3.row _) e17
namespace Po
def oStep(l:List Nat)(i:Nat):List Nat:=(l.set (i+1) (l.getD (i+1) 0+l.getD i 0/256)).set i (l.getD i 0%256)
def oTo(l:List Nat):Nat→List Nat
 |0=>l
 |k+1=>oStep (oTo l k) k
theorem xX(l:List Nat): ∀k,(oTo l k).length=l.length
 |0=>rfl
 |k+1=>by rw[oTo,oStep,List.length_set,List.length_set,xX l k]
theorem Bj(l:List Nat)(hM: ∀i,l.getD i 0≤1000): ∀k,(∀i,(oTo l k).getD i 0≤2000)∧ ∀i,k<i→(oTo l k).getD i 0≤1000
 |0=>⟨fun i=>by have:=hM i;show l.getD i 0≤2000;omega,fun i _=>hM i⟩
 |k+1=>by
  obtain⟨h1,h2⟩:=Bj l hM k;have a1:=h1 k;have a2:=h2 (k+1) (by omega);have key: ∀i,(oTo l (k+1)).getD i 0≤2000∧(k+1<i→(oTo l (k+1)).getD i 0≤1000):=fun i=>by
   rw[oTo,oStep];by_cases e:k=i
   ·subst e;by_cases hk:k<(oTo l k).length
    ·rw[xN _ _ _ (by rw[List.length_set];exact hk)];omega
    ·rw[List.set_eq_of_length_le (by rw[List.length_set];omega),List.set_eq_of_length_le (by omega)];omega
   ·rw[At _ _ _ _ e];by_cases e2:k+1=i
    ·subst e2;by_cases hk:k+1<(oTo l k).length
     ·rw[xN _ _ _ hk];omega
     ·rw[List.set_eq_of_length_le (by omega)];omega
    ·rw[At _ _ _ _ e2];exact⟨h1 i,fun hi=>h2 i (by omega)⟩
  exact⟨fun i=>(key i).1,fun i hi=>(key i).2 hi⟩
def AN(a b c:List Nat)(i k:Nat):List Nat:=if i+k<17 then c.set (i+k) (c.getD (i+k) 0+a.getD i 0*b.getD k 0)else c.set (i+k - 17) (c.getD (i+k - 17) 0+320*a.getD i 0*b.getD k 0)
def zT(a b c:List Nat)(i:Nat):Nat→List Nat
 |0=>c
 |k+1=>AN a b (zT a b c i k) i k
def wB(a b:List Nat):Nat→List Nat
 |0=>none17
 |i+1=>zT a b (wB a b i) i 17
theorem tStep_length(a b c:List Nat)(i k:Nat):(AN a b c i k).length=c.length:=by unfold AN;split<;>rw[List.length_set]
theorem AO(a b c:List Nat)(i:Nat): ∀k,(zT a b c i k).length=c.length
 |0=>rfl
 |k+1=>by rw[zT,tStep_length,AO a b c i k]
theorem vi(a b:List Nat): ∀i,(wB a b i).length=17
 |0=>rfl
 |i+1=>by rw[wB,AO,vi a b i]
theorem prod_bd{x y:Nat}(hx:x≤1023)(hy:y≤1023):x*y≤1046529:=Nat.mul_le_mul hx hy
theorem set_bd(c:List Nat)(j v M:Nat)(h: ∀i,c.getD i 0≤M)(hv:v≤M)(i:Nat):(c.set j v).getD i 0≤M:=by
 by_cases e:j=i
 ·subst e;by_cases hk:j<c.length
  ·rw[xN _ _ _ hk];exact hv
  ·rw[List.set_eq_of_length_le (by omega)];exact h j
 ·rw[At _ _ _ _ e];exact h i
theorem tRow_bd(a b c:List Nat)(i M:Nat)(ha: ∀i,a.getD i 0≤1023)(hb: ∀i,b.getD i 0≤1023)(hc: ∀j,c.getD j 0≤M): ∀k j,(zT a b c i k).getD j 0≤M+334889280*k
 |0,j=>hc j
 |k+1,j=>by
  have ih:=tRow_bd a b c i M ha hb hc k;have hp:=prod_bd (ha i) (hb k);rw[zT,AN];split
  ·exact set_bd _ _ _ _ (fun q=>by have:=ih q;omega) (by have:=ih (i+k);omega) j
  ·exact set_bd _ _ _ _ (fun q=>by have:=ih q;omega) (by have:=ih (i+k - 17);rw[Nat.mul_assoc];omega) j
theorem none_at17(i:Nat):none17.getD i 0=0:=by
 unfold none17;rw[List.getD_eq_getElem?_getD,List.getElem?_replicate];split<;>rfl
theorem yX(a b:List Nat)(ha: ∀i,a.getD i 0≤1023)(hb: ∀i,b.getD i 0≤1023): ∀i j,(wB a b i).getD j 0≤5693117760*i
 |0,j=>by rw[wB,none_at17];omega
 |i+1,j=>by
  have:=tRow_bd a b (wB a b i) i (5693117760*i) ha hb (yX a b ha hb i) 17 j;rw[wB];omega
theorem Bk(l:List Nat)(M:Nat)(h0:255≤M)(hM: ∀i,l.getD i 0≤M): ∀i,(carried l).getD i 0≤10*M:=fun i=>by
 have h1:=half_bd l M h0 hM;have h2:=mid_bd l M h0 hM;unfold carried;refine set_bd _ _ _ _ (fun q=> ?_) ?_ i
 ·have:=cTo_bd (half l) (mid l/4*5) M h0 h1 16 q;omega
 ·have a1:=cTo_bd (half l) (mid l/4*5) M h0 h1 16 16;have a2:=yD (half l) (mid l/4*5) (3*M) (fun q=>by have:=h1 q;omega) (by omega) 16;omega
def times(a b:List Nat):List Nat:=carried (carried (wB a b 17))
end Po
theorem jk(l:List Nat)(w:World)(hl:l.length=17)(hbd: ∀i,l.getD i 0≤1000):
  Rw 262 #[.agg (Us l)] w (.agg (Us (Po.oTo l 16))):=by
 have hns:=Uz hl;have hz:=eg;have hb1:Blk ((w.alloc (.cells (Us l) 229)).alloc (.cells (Us Po.none17) 229)) w.heap.size (Us l) 229:=heap_alloc2_old w _ _;have hb2:Blk ((w.alloc (.cells (Us l) 229)).alloc (.cells (Us Po.none17) 229)) (w.heap.size+1) (Us Po.none17) 229:=heap_alloc2_new w _ _;have BI:Below w.heap.size w ((w.alloc (.cells (Us l) 229)).alloc (.cells (Us Po.none17) 229)):=(bR.alloc nR _).alloc (by simp) _;have HBD:Hid (∀i,l.getD i 0≤1000):=hbd;clear hbd;have hlR:(Po.oTo l 16).length=17:=by rw[Po.xX,hl]
 generalize hR:Po.oTo l 16=R at hlR⊢;replace hR:Hid (Po.oTo l 16=R):=hR;go_enter Tryz.func262,Tryz.ntmps262;go_wp2_with fail;generalize (w.alloc (.cells (Us l) 229)).alloc (.cells (Us Po.none17) 229)=w1 at hb1 hb2 BI⊢;go_loopw [3] (fun i wr=> ∃k:Nat,k≤16∧i= .int .i64 k∧Blk wr w.heap.size (Us (Po.oTo l k)) 229∧Blk wr (w.heap.size+1) (Us Po.none17) 229∧Below w.heap.size w wr) (fun i _=>16 - (intOf i).toNat)
 case atStart=>exact⟨0,by omega,rfl,hb1,hb2,BI⟩
 case round=>
  clear hb1 hb2 BI;obtain⟨k,hk,rfl,hb1,hb2,BI⟩:=hrel;by_cases hlt:k<16
  ·have k0:(k:Int)<16:=by omega
   have hO:=Po.Bj l HBD.out k;have hx:=hO.1 k;have hy:=hO.1 (k+1);clear hO;have hln:(Po.oTo l k).length=17:=by rw[Po.xX,hl]
   have HS:Hid (Po.oTo l (k+1)=((Po.oTo l k).set (k+1) ((Po.oTo l k).getD (k+1) 0+(Po.oTo l k).getD k 0/256)).set k ((Po.oTo l k).getD k 0%256)):=rfl;generalize Po.oTo l k=r at hb1 hln HS hx hy;have g1:=aA hb1 k (by omega);have g2:=aA hb1 (k+1) (by omega);have f2:=hb1.frozen (k+1);generalize hxx:r.getD k 0=x at g1 hx HS;generalize r.getD (k+1) 0=y at g2 hy HS;have R1:=aM (w:=w) hb1 nR BI (k+1) (y+x/256) ((y:Int)+(x:Int)/256) (by omega);have g3:=aA R1.1 k (by rw[List.length_set];omega);rw[Po.At _ _ _ _ (by omega),hxx]at g3;have f3:=R1.1.frozen k;have R2:=aM (w:=w) R1.1 nR R1.2.2 k (x%256) ((x:Int)%256) (by omega);rw[←HS.out]at R2;replace hxx:Hid (r.getD k 0=x):=hxx;go_wp2_with fail;go_region
   all_goals
    go_wp2;go_roundw
    case rel=>exact⟨k+1,by omega,by go_num,R2.1.drew,(R2.2.1 _ _ _ (by omega) (R1.2.1 _ _ _ (by omega) hb2)).drew,R2.2.2.drew⟩
    case measure=>simp[intOf];omega
  ·have BZ:k=16:=by omega
   subst BZ;rw[show ((16:Nat):Int)=16 from rfl];rw[hR.out]at hb1;have e17:=Uz hlR;have q0:=hb1;have q1:=hb2;unfold Blk at q0 q1;go_wp2_with (first
    |(refine ld br rfl rfl w.heap.size rfl q0 e17 ?_)
    |(refine st br rfl rfl (w.heap.size+1) rfl rfl q1 e17 rfl (cj _) ?_))
   refine bodyPost_ret (v:= .agg (Us R)) ?_ rfl ⟨rfl,below_setRow BI (by omega) _⟩;exact rr br rfl rfl (hb2.row _) e17
theorem qS(a b:List Nat)(w:World)(ha:a.length=17)(hb:b.length=17)(hA: ∀i,a.getD i 0≤1023)(hB: ∀i,b.getD i 0≤1023):
  Rw 238 #[.agg (Us a),.agg (Us b)] w (.agg (Us (Po.times a b))):=by
 have hna:=Uz ha;have hnb:=Uz hb;have hz:=eg;have HA:Hid (∀i,a.getD i 0≤1023):=hA;have HB:Hid (∀i,b.getD i 0≤1023):=hB;have HC1:Hid (Rv 261 #[.agg (Us (Po.wB a b 17))] (.agg (Us (Po.carried (Po.wB a b 17))))):=fun wx=>fv _ wx (Po.vi a b 17) (fun i=>by have:=Po.yX a b hA hB 17 i;omega)
 have HC2:Hid (Rv 261 #[.agg (Us (Po.carried (Po.wB a b 17)))] (.agg (Us (Po.times a b)))):=fun wx=>fv _ wx (by rw[Po.carried_length,Po.vi]) (Po.Bk _ _ (by omega) (fun i=>by have:=Po.yX a b hA hB 17 i;omega: ∀i,(Po.wB a b 17).getD i 0≤10000000000000))
 clear hA hB;have hb1:=Blk.alloc (Blk.alloc (Blk.alloc (Blk.new w (Us a) 229) (.cells (Us b) 229)) (.cells (Us Po.none17) 229)) (.cells (Us Po.none17) 229);have hb2:=Blk.alloc (Blk.alloc (Blk.new (w.alloc (.cells (Us a) 229)) (Us b) 229) (.cells (Us Po.none17) 229)) (.cells (Us Po.none17) 229);have hb3:=Blk.alloc (Blk.new ((w.alloc (.cells (Us a) 229)).alloc (.cells (Us b) 229)) (Us Po.none17) 229) (.cells (Us Po.none17) 229);have hb4:=Blk.new (((w.alloc (.cells (Us a) 229)).alloc (.cells (Us b) 229)).alloc (.cells (Us Po.none17) 229)) (Us Po.none17) 229;have BI:Below w.heap.size w ((((w.alloc (.cells (Us a) 229)).alloc (.cells (Us b) 229)).alloc (.cells (Us Po.none17) 229)).alloc (.cells (Us Po.none17) 229)):=
  (((bR.alloc nR _).alloc (by simp) _).alloc (by simp;omega) _).alloc (by simp;omega) _
 rw[show (w.alloc (.cells (Us a) 229)).heap.size=w.heap.size+1 by simp]at hb2;rw[show ((w.alloc (.cells (Us a) 229)).alloc (.cells (Us b) 229)).heap.size=w.heap.size+1+1 by simp]at hb3;rw[show (((w.alloc (.cells (Us a) 229)).alloc (.cells (Us b) 229)).alloc (.cells (Us Po.none17) 229)).heap.size=w.heap.size+1+1+1 by simp]at hb4;have hlR:(Po.times a b).length=17:=by unfold Po.times;rw[Po.carried_length,Po.carried_length,Po.vi]
 generalize Po.times a b=R at HC2 hlR⊢;go_enter Tryz.func238,Tryz.ntmps238;go_wp2_with fail;generalize (((w.alloc (.cells (Us a) 229)).alloc (.cells (Us b) 229)).alloc (.cells (Us Po.none17) 229)).alloc (.cells (Us Po.none17) 229)=w1 at hb1 hb2 hb3 hb4 BI⊢;go_loopw [6] (fun i wr=> ∃k:Nat,k≤17∧i= .int .i64 k∧Blk wr (w.heap.size+1+1+1) (Us (Po.wB a b k)) 229∧Blk wr w.heap.size (Us a) 229∧Blk wr (w.heap.size+1) (Us b) 229∧Blk wr (w.heap.size+1+1) (Us Po.none17) 229∧Below w.heap.size w wr) (fun i _=>17 - (intOf i).toNat)
 case atStart=>exact⟨0,by omega,rfl,hb4,hb1,hb2,hb3,BI⟩
 case round=>
  clear hb1 hb2 hb3 hb4 BI;obtain⟨i,hi,rfl,hb4,hb1,hb2,hb3,BI⟩:=hrel;by_cases hlt:i<17
  ·have i0:(i:Int)<17:=by omega
   go_wp2_with fail;go_loopw [7] (fun q wr=> ∃k:Nat,k≤17∧q= .int .i64 k∧Blk wr (w.heap.size+1+1+1) (Us (Po.zT a b (Po.wB a b i) i k)) 229∧Blk wr w.heap.size (Us a) 229∧Blk wr (w.heap.size+1) (Us b) 229∧Blk wr (w.heap.size+1+1) (Us Po.none17) 229∧Below w.heap.size w wr) (fun q _=>17 - (intOf q).toNat)
   case atStart=>exact⟨0,by omega,rfl,hb4,hb1,hb2,hb3,BI⟩
   case round=>
    clear hb1 hb2 hb3 hb4 BI;obtain⟨k,hk,rfl,hb4,hb1,hb2,hb3,BI⟩:=hrel;by_cases hkt:k<17
    ·have k0:(k:Int)<17:=by omega
     have hlr:(Po.zT a b (Po.wB a b i) i k).length=17:=by rw[Po.AO,Po.vi]
     have hbd:=Po.tRow_bd a b (Po.wB a b i) i _ HA.out HB.out (Po.yX a b HA.out HB.out i) k;have HS:Hid (Po.zT a b (Po.wB a b i) i (k+1)=Po.AN a b (Po.zT a b (Po.wB a b i) i k) i k):=rfl;have hca:=aA hb1 i (by omega);have hcb:=aA hb2 k (by omega);have hm:=Po.prod_bd (HA.out i) (HB.out k);by_cases h17:i+k<17
     ·have hq:=hbd (i+k);generalize Po.zT a b (Po.wB a b i) i k=r at hb4 hlr hbd HS hq;have hct:=aA hb4 (i+k) (by omega);have hf:=hb4.frozen (i+k);unfold Po.AN at HS;rw[if_pos h17]at HS;generalize a.getD i 0=x at hca hm HS;generalize b.getD k 0=y at hcb hm HS;generalize r.getD (i+k) 0=z at hct hq HS;generalize hxy:x*y=xy at hm HS;have exy:(x:Int)*(y:Int)=(xy:Int):=by rw[←hxy];exact(Int.natCast_mul x y).symm
      have R1:=aM (w:=w) hb4 (by omega) BI (i+k) (z+xy) ((z:Int)+(xy:Int)) (by omega);rw[←HS.out]at R1;have w1':IntKind.i64.wrap ((x:Int)*(y:Int))=(xy:Int):=by rw[exy,IntKind.wrap_i64];omega
      have w3':IntKind.i64.wrap ((i:Int)+(k:Int))=(i:Int)+(k:Int):=by rw[IntKind.wrap_i64];omega
      have w4':((i:Int)+(k:Int)).toNat=i+k:=by omega
      have w5':(i:Int)+(k:Int)<17:=by omega
      have w6':(0:Int)≤(i:Int)+(k:Int):=by omega
      have d17:decide ((i:Int)+(k:Int)<17)=true:=decide_eq_true (by omega);clear hbd exy hxy HS;go_wp2_with fail;go_region
      all_goals
       go_wp2;go_roundw
       case rel=>exact⟨k+1,by omega,by go_num,R1.1.drew,(R1.2.1 _ _ _ (by omega) hb1).drew,(R1.2.1 _ _ _ (by omega) hb2).drew,(R1.2.1 _ _ _ (by omega) hb3).drew,R1.2.2.drew⟩
       case measure=>simp[intOf];omega
     ·have hq:=hbd (i+k - 17);generalize Po.zT a b (Po.wB a b i) i k=r at hb4 hlr hbd HS hq;unfold Po.AN at HS;rw[if_neg h17]at HS;generalize hj:i+k - 17=j at hq HS;have hct:=aA hb4 j (by omega);have hf:=hb4.frozen j;have hxb:=HA.out i;generalize a.getD i 0=x at hca hm HS hxb;generalize b.getD k 0=y at hcb hm HS;generalize r.getD j 0=z at hct hq HS;rw[Nat.mul_assoc]at HS;generalize hxy:x*y=xy at hm HS;have exy:(320*(x:Int))*(y:Int)=((320*xy:Nat):Int):=by rw[←hxy,Int.mul_assoc];simp
      have R1:=aM (w:=w) hb4 (by omega) BI j (z+320*xy) ((z:Int)+((320*xy:Nat):Int)) (by omega);rw[←HS.out]at R1;have w0':IntKind.i64.wrap (320*(x:Int))=320*(x:Int):=by rw[IntKind.wrap_i64];omega
      have w1':IntKind.i64.wrap (320*(x:Int)*(y:Int))=((320*xy:Nat):Int):=by rw[exy,IntKind.wrap_i64];omega
      have w3':IntKind.i64.wrap ((i:Int)+(k:Int))=(i:Int)+(k:Int):=by rw[IntKind.wrap_i64];omega
      have w4':IntKind.i64.wrap ((i:Int)+(k:Int) - 17)=(j:Int):=by rw[IntKind.wrap_i64];omega
      have w5':(j:Int)<17:=by omega
      have d17:decide ((i:Int)+(k:Int)<17)=false:=decide_eq_false (by omega);replace hj:Hid (i+k - 17=j):=hj;replace h17:Hid (¬i+k<17):=h17;clear hbd exy hxy HS;have hp3:320*xy≤334889280:=by omega
      generalize 320*xy=p3 at R1 w1' hp3⊢;go_wp2_with fail;go_region
      all_goals
       go_wp2;go_roundw
       case rel=>exact⟨k+1,by omega,by go_num,R1.1.drew,(R1.2.1 _ _ _ (by omega) hb1).drew,(R1.2.1 _ _ _ (by omega) hb2).drew,(R1.2.1 _ _ _ (by omega) hb3).drew,R1.2.2.drew⟩
       case measure=>simp[intOf];omega
    ·have hk17:k=17:=by omega
     subst hk17;rw[show ((17:Nat):Int)=17 from rfl];go_wp2_with fail;go_roundw
     case rel=>exact⟨i+1,by omega,by go_num,hb4,hb1,hb2,hb3,BI⟩
     case measure=>simp[intOf];omega
  ·have hi17:i=17:=by omega
   subst hi17;rw[show ((17:Nat):Int)=17 from rfl];have lT:=Po.vi a b 17;generalize Po.wB a b 17=T at hb4 lT HC1 HC2;have sT:=Uz lT;have q0:=hb4;unfold Blk at q0;go_wp2_with (refine ld br rfl rfl (w.heap.size+1+1+1) rfl q0 sT ?_);refine gv HC1 fun w2 k2=> ?_
   go_wp2_with fail;refine gv HC2 fun w3 k3=> ?_
   replace hb3:=(hb3.keep k2).keep k3;have BS:Below w.heap.size w w3:=(BI.trans (k2.mono BI.size)).trans (k3.mono (Nat.le_trans BI.size k2.size));have sR:=Uz hlR;have q1:=hb3;unfold Blk at q1;clear q0 k2 k3 BI hb1 hb2 hb4;go_wp2_with (refine st br rfl rfl (w.heap.size+1+1) rfl rfl q1 sR rfl (cj _) ?_);refine bodyPost_ret (v:= .agg (Us R)) ?_ rfl ⟨rfl,below_setRow BS (by omega) _⟩;exact rr br rfl rfl (hb3.row _) sR
namespace Po
theorem cTo_low(l:List Nat)(c:Nat)(hl:16<l.length): ∀k i,k≤16→i<k→(cTo l c k).1.getD i 0≤255
 |0,i,_,h=>by omega
 |k+1,i,hk,h=>by
  rw[cTo,cStep];by_cases e:k=i
  ·subst e;rw[xN _ _ _ (by rw[xa];omega)];omega
  ·rw[At _ _ _ _ e];exact cTo_low l c hl k i (by omega) (by omega)
theorem cTo_out(l:List Nat)(c:Nat)(h: ∀i,i<16→l.getD i 0≤255): ∀k,k≤16→(cTo l c k).2≤1+c/256^k
 |0,_=>by show c≤1+c/256^0;simp
 |k+1,hk=>by
  have h1:=yE l c k k nR;have h2:=h k (by omega);have h3:=cTo_out l c h k (by omega);rw[cTo,cStep,h1];show(l.getD k 0+(cTo l c k).2)/256≤1+c/256^(k+1)
  rw[Nat.pow_succ,←Nat.div_div_eq_div_mul];omega
theorem half_low(l:List Nat)(hl:l.length=17)(i:Nat)(hi:i<16):(half l).getD i 0≤255:=by
 unfold half;rw[At _ _ _ _ (by omega)];exact cTo_low l 0 (by omega) 16 i (by omega) hi
theorem half_top(l:List Nat)(hl:l.length=17):(half l).getD 16 0≤3:=by
 unfold half;rw[xN _ _ _ (by rw[xa];omega)];omega
def Byt(l:List Nat):Prop:=l.length=17∧(∀i,i<16→l.getD i 0≤255)∧l.getD 16 0≤4
theorem Byt.all{l:List Nat}(h:Byt l)(i:Nat):l.getD i 0≤255:=by
 by_cases h1:i<16
 ·exact h.2.1 i h1
 ·by_cases h2:i=16
  ·subst h2;have:=h.2.2;omega
  ·rw[List.getD_eq_getElem?_getD,List.getElem?_eq_none (by rw[h.1];omega)];simp
theorem AR(l:List Nat)(hl:l.length=17)(hM: ∀i,l.getD i 0≤100000000000000):Byt (carried l):=by
 have h2:=mid_bd l 100000000000000 (by omega) hM;have hh:(half l).length=17:=by rw[AQ,hl]
 refine⟨by rw[carried_length,hl],fun i hi=> ?_,?_⟩
 ·unfold carried;rw[At _ _ _ _ (by omega)];exact cTo_low (half l) _ (by omega) 16 i (by omega) hi
 ·unfold carried;rw[xN _ _ _ (by rw[xa];omega),yE _ _ 16 16 nR];have h3:=half_top l hl;have h4:=cTo_out (half l) (mid l/4*5) (half_low l hl) 16 (by omega);have h5:mid l/4*5/256^16=0:=Nat.div_eq_of_lt (by have:(256:Nat)^16=340282366920938463463374607431768211456:=(by decide);omega)
  omega
def zm(l:List Nat):List Nat:=(carried l).set 0 ((carried l).getD 0 0+5)
def xW(l:List Nat):List Nat:=oTo (zm l) 16
def wI(l:List Nat):List Nat:=if 4≤(xW l).getD 16 0 then(xW l).set 16 ((xW l).getD 16 0 - 4)else carried l
theorem As(l:List Nat)(h:Byt (carried l))(i:Nat):(zm l).getD i 0≤1000:=by
 unfold zm;exact set_bd _ _ _ _ (fun q=>by have:=h.all q;omega) (by have:=h.all 0;omega) i
end Po
theorem qT(l:List Nat)(w:World)(hl:l.length=17)(hM: ∀i,l.getD i 0≤100000000000000):
  Rw 239 #[.agg (Us l)] w (.agg (Us (Po.wI l))):=by
 have hns:=Uz hl;have hz:=eg;have hB:=Po.AR l hl hM;have HC:Hid (Rv 261 #[.agg (Us l)] (.agg (Us (Po.carried l)))):=fun wx=>fv l wx hl hM
 have HO:Hid (Rv 262 #[.agg (Us (Po.zm l))] (.agg (Us (Po.xW l)))):=fun wx=>jk _ wx (by unfold Po.zm;rw[List.length_set,hB.1]) (Po.As l hB)
 have HL:Hid (Po.wI l=if 4≤(Po.xW l).getD 16 0 then(Po.xW l).set 16 ((Po.xW l).getD 16 0 - 4)else Po.carried l):=rfl;have hlO:(Po.xW l).length=17:=by unfold Po.xW Po.zm;rw[Po.xX,List.length_set,hB.1]
 have HD:Hid (Po.zm l=(Po.carried l).set 0 ((Po.carried l).getD 0 0+5)):=rfl;have hx0:=hB.all 0;have sD:(Us (Po.zm l)).size=17:=by rw[lm];unfold Po.zm;rw[List.length_set,hB.1]
 have hxo:=(Po.Bj (Po.zm l) (Po.As l hB) 16).1 16;replace hxo:(Po.xW l).getD 16 0≤2000:=hxo;have hlC:=hB.1;generalize Po.wI l=R at HL⊢;generalize Po.xW l=O at HO HL hlO hxo;generalize Po.zm l=D at HO HD sD;generalize Po.carried l=C at HC HL HD hx0 hlC hB;clear hB hM;have sC:=Uz hlC;have sO:=Uz hlO;have hb1:Blk ((w.alloc (.cells (Us l) 229)).alloc (.cells (Us Po.none17) 229)) w.heap.size (Us l) 229:=heap_alloc2_old w _ _;have hb2:Blk ((w.alloc (.cells (Us l) 229)).alloc (.cells (Us Po.none17) 229)) (w.heap.size+1) (Us Po.none17) 229:=heap_alloc2_new w _ _;have BI:Below w.heap.size w ((w.alloc (.cells (Us l) 229)).alloc (.cells (Us Po.none17) 229)):=(bR.alloc nR _).alloc (by simp) _;have q0:=hb1;unfold Blk at q0;go_enter Tryz.func239,Tryz.ntmps239;go_wp2_with (refine ld br rfl rfl w.heap.size rfl q0 hns ?_);clear q0;generalize (w.alloc (.cells (Us l) 229)).alloc (.cells (Us Po.none17) 229)=w1 at hb1 hb2 BI⊢;refine gv HC fun w2 k2=> ?_
 replace hb1:=hb1.keep k2;replace hb2:=hb2.keep k2;replace BI:=BI.trans (k2.mono BI.size);clear k2;have q0:=hb1;unfold Blk at q0;have c1:=hb1.row (Us C);have c2:=hb2.other (show w.heap.size+1≠w.heap.size by omega) (Us C);have cb:=below_setRow BI nR (Us C);have hsz:w.heap.size+1<w2.heap.size:=hb2.lt;go_wp2_with (first
  |(refine st br rfl rfl w.heap.size rfl rfl q0 sC hns (cj _) ?_;clear q0 hb1 hb2 BI;have hz2:=size_setRow w2 w.heap.size (Us C);generalize w2.setRow w.heap.size (Us C)=w3 at c1 c2 cb hz2⊢;rw[←hz2]at hsz;clear hz2;have q1:=c1;unfold Blk at q1;have hN:=Blk.new w3 (Us Po.none17) 229;have q2:=hN;unfold Blk at q2)
  |(refine ld br rfl rfl w.heap.size rfl q1 sC ?_)
  |(refine st br rfl rfl w3.heap.size rfl rfl q2 sC rfl (cj _) ?_;have d1:=hN.row (Us C);have d2:=(c1.alloc (.cells (Us Po.none17) 229)).other (show w.heap.size≠w3.heap.size by omega) (Us C);have d3:=(c2.alloc (.cells (Us Po.none17) 229)).other (show w.heap.size+1≠w3.heap.size by omega) (Us C);have db:=below_setRow (cb.alloc cb.size (.cells (Us Po.none17) 229)) cb.size (Us C);have hq:w.heap.size+1<w3.heap.size:=hsz;clear q1 q2 hN c1 c2 cb hsz;generalize (w3.alloc (.cells (Us Po.none17) 229)).setRow w3.heap.size (Us C)=w4 at d1 d2 d3 db⊢;generalize w3.heap.size=q at d1 hq⊢;have g1:=aA d1 0 (by omega);generalize C.getD 0 0=x0 at g1 hx0 HD;have f1:=d1.frozen 0;have R1:=aM (w:=w) d1 (by omega) db 0 (x0+5) ((x0:Int)+5) (by omega);have d2':=R1.2.1 _ _ _ (show w.heap.size≠q by omega) d2;have d3':=R1.2.1 _ _ _ (show w.heap.size+1≠q by omega) d3;rw[←HD.out]at R1;have q5:=R1.1;unfold Blk at q5)
  |(refine ld br rfl rfl q rfl q5 sD ?_))
 clear q5 g1 f1 d1 d2 d3 db;obtain⟨r1,_,rb⟩:=R1;generalize w4.setCell ⟨q,0,none⟩ (.int .i64 ((x0:Int)+5))=w5 at r1 rb d2' d3'⊢;refine gv HO fun w6 k6=> ?_
 replace r1:=r1.keep k6;replace d2':=d2'.keep k6;replace d3':=d3'.keep k6;replace rb:=rb.trans (k6.mono rb.size);clear k6;have q6:=r1;unfold Blk at q6;have s1:=r1.row (Us O);have s2:=d2'.other (show w.heap.size≠q by omega) (Us O);have s3:=d3'.other (show w.heap.size+1≠q by omega) (Us O);have sb:=below_setRow (g:=q) rb (by omega) (Us O);have g2:=aA s1 16 (by omega);have f2:=s1.frozen 16;generalize O.getD 16 0=y at g2 hxo HL;by_cases h4:4≤y
 ·have y4:decide ((y:Int)≥4)=true:=decide_eq_true (by omega);have y4':decide ((4:Int)≤(y:Int))=true:=decide_eq_true (by omega);replace HL:=HL.out;rw[if_pos h4]at HL;have R2:=aM (w:=w) s1 (by omega) sb 16 (y - 4) ((y:Int) - 4) (by omega);rw[←HL]at R2;have hlR:R.length=17:=by rw[HL,List.length_set,hlO]
  have sR:=Uz hlR;have s3':=R2.2.1 _ _ _ (show w.heap.size+1≠q by omega) s3;have q7:=R2.1;have q8:=s3';unfold Blk at q7 q8;clear HL;have h4n:(4:Int)≤(y:Int):=by omega
  go_wp2_with (first
   |(refine st br rfl rfl q rfl rfl q6 sO sD (cj _) ?_)
   |(refine ld br rfl rfl q rfl q7 sR ?_)
   |(refine st br rfl rfl (w.heap.size+1) rfl rfl q8 sR rfl (cj _) ?_))
  refine bodyPost_ret (v:= .agg (Us R)) ?_ rfl ⟨rfl,below_setRow R2.2.2 (by omega) _⟩;exact rr br rfl rfl (s3'.row _) sR
 ·have y4:decide ((y:Int)≥4)=false:=decide_eq_false (by omega);have y4':decide ((4:Int)≤(y:Int))=false:=decide_eq_false (by omega);replace HL:=HL.out;rw[if_neg h4]at HL;subst HL;have q7:=s2;have q8:=s3;unfold Blk at q7 q8;have h4n: ¬(4:Int)≤(y:Int):=by omega
  go_wp2_with (first
   |(refine st br rfl rfl q rfl rfl q6 sO sD (cj _) ?_)
   |(refine ld br rfl rfl w.heap.size rfl q7 sC ?_)
   |(refine st br rfl rfl (w.heap.size+1) rfl rfl q8 sC rfl (cj _) ?_))
  refine bodyPost_ret (v:= .agg (Us R)) ?_ rfl ⟨rfl,below_setRow sb (by omega) _⟩;exact rr br rfl rfl (s3.row _) sC
namespace Po
def rAt(f:Nat→Nat)(i:Nat):Nat:=if i%4=3 then f i%16 else if i%4=0∧0<i then f i - f i%4 else f i
def yZ(f:Nat→Nat):Nat→List Nat
 |0=>none17
 |k+1=>(yZ f k).set k (f k)
theorem yY(f:Nat→Nat): ∀k,(yZ f k).length=17
 |0=>rfl
 |k+1=>by rw[yZ,List.length_set,yY f k]
theorem Aq(f:Nat→Nat)(M:Nat)(h: ∀i,f i≤M): ∀k i,(yZ f k).getD i 0≤M
 |0,i=>by rw[yZ,none_at17];omega
 |k+1,i=>by rw[yZ];exact set_bd _ _ _ _ (Aq f M h k) (h k) i
theorem Bi(f:Nat→Nat)(h: ∀i,f i≤255)(i:Nat):rAt f i≤255:=by
 have:=h i;unfold rAt;split
 ·omega
 ·split<;>omega
def aTo(d:Nat→Nat)(h:List Nat):Nat→List Nat
 |0=>h
 |k+1=>(aTo d h k).set k ((aTo d h k).getD k 0+d k)
theorem zn(d:Nat→Nat)(h:List Nat): ∀k,(aTo d h k).length=h.length
 |0=>rfl
 |k+1=>by rw[aTo,List.length_set,zn d h k]
theorem aTo_above(d:Nat→Nat)(h:List Nat): ∀k i,k≤i→(aTo d h k).getD i 0=h.getD i 0
 |0,_,_=>rfl
 |k+1,i,hi=>by rw[aTo,At _ _ _ _ (by omega),aTo_above d h k i (by omega)]
theorem aTo_bd(d:Nat→Nat)(h:List Nat)(hd: ∀i,d i≤255)(hh: ∀i,h.getD i 0≤255): ∀k i,(aTo d h k).getD i 0≤510
 |0,i=>by have:=hh i;show h.getD i 0≤510;omega
 |k+1,i=>by
  rw[aTo];refine set_bd _ _ _ _ (aTo_bd d h hd hh k) ?_ i;rw[aTo_above d h k k nR];have:=hd k;have:=hh k;omega
def wn(d:Nat→Nat)(h:List Nat):List Nat:=(aTo d h 16).set 16 ((aTo d h 16).getD 16 0+1)
def hTo(r:List Nat)(D:Nat→Nat→Nat):Nat→List Nat
 |0=>none17
 |j+1=>times (wn (D j) (hTo r D j)) r
theorem Bl(d:Nat→Nat)(h:List Nat)(hd: ∀i,d i≤255)(hh: ∀i,h.getD i 0≤255)(i:Nat):(wn d h).getD i 0≤1023:=by
 unfold wn;refine set_bd _ _ _ _ (fun q=> ?_) ?_ i
 ·have:=aTo_bd d h hd hh 16 q;omega
 ·have:=aTo_bd d h hd hh 16 16;omega
theorem zU(d:Nat→Nat)(h:List Nat):(wn d h).length=h.length:=by unfold wn;rw[List.length_set,zn]
theorem times_byt(a b:List Nat)(hA: ∀i,a.getD i 0≤1023)(hB: ∀i,b.getD i 0≤1023):Byt (times a b):=by
 unfold times;have h1:=AR (wB a b 17) (vi a b 17) (fun i=>by have:=yX a b hA hB 17 i;omega);exact AR _ h1.1 (fun i=>by have:=h1.all i;omega)
theorem zw(r:List Nat)(D:Nat→Nat→Nat)(hr: ∀i,r.getD i 0≤1023)(hD: ∀j i,D j i≤255): ∀j,Byt (hTo r D j)
 |0=>⟨rfl,fun i _=>by rw[hTo,none_at17];omega,by rw[hTo,none_at17];omega⟩
 |j+1=>times_byt _ _ (Bl _ _ (hD j) (zw r D hr hD j).all) hr
def eTo(h:List Nat)(s:Nat→Nat):Nat→List UInt8×Nat
 |0=>([],0)
 |k+1=>((eTo h s k).1++ [UInt8.ofNat (((eTo h s k).2+h.getD k 0+s k)%256)],((eTo h s k).2+h.getD k 0+s k)/256)
theorem xY(h:List Nat)(s:Nat→Nat): ∀k,(eTo h s k).1.length=k
 |0=>rfl
 |k+1=>by rw[eTo,List.length_append,xY h s k];rfl
theorem eTo_bd(h:List Nat)(s:Nat→Nat)(hh: ∀i,h.getD i 0≤2000)(hs: ∀i,s i≤255): ∀k,(eTo h s k).2≤2000
 |0=>by show 0≤2000;omega
 |k+1=>by
  have:=eTo_bd h s hh hs k;have:=hh k;have:=hs k;show((eTo h s k).2+h.getD k 0+s k)/256≤2000
  omega
theorem least_bd(l:List Nat)(hl:l.length=17)(hM: ∀i,l.getD i 0≤100000000000000)(i:Nat):(wI l).getD i 0≤2000:=by
 have hB:=AR l hl hM;have hO:=(Bj (zm l) (As l hB) 16).1;unfold wI;split
 ·exact set_bd _ _ _ _ (fun q=>hO q) (by have:=hO 16;show(oTo (zm l) 16).getD 16 0 - 4≤2000;omega) i
 ·have:=hB.all i;omega
theorem Ar(l:List Nat)(hl:l.length=17)(hM: ∀i,l.getD i 0≤100000000000000):(wI l).length=17:=by
 have hB:=AR l hl hM;unfold wI xW zm;split
 ·rw[List.length_set,xX,List.length_set,hB.1]
 ·exact hB.1
def xm(f:Nat→Nat):List Nat:=yZ (rAt f) 16
def tagged(f:Nat→Nat)(D:Nat→Nat→Nat)(n:Nat):List UInt8:=(eTo (wI (hTo (xm f) D n)) (fun i=>f (16+i)) 16).1
end Po
def byN(s:ByteArray)(i:Nat):Nat:=(s.data.toList.getD i 0).toNat
theorem cr(s:ByteArray)(i:Nat):byN s i≤255:=by unfold byN;have:=(s.data.toList.getD i 0).toNat_lt;omega
theorem rU(n:Nat):Fd.lo (n%256) 1= [UInt8.ofNat (n%256)]:=by
 show []++ [UInt8.ofNat (n%256/256^0%256)]=_
 simp
theorem fj(s:ByteArray)(i:Int)(n:Nat)(h0:0≤i)(hi:i.toNat=n)(h:n<s.size)(w:World):
  (Instr.index 9 (.string s) (.int .i64 i)).run Tryz.prog w= .ok (.int .u8 ((byN s n:Nat):Int)) w:=bl s i n h0 hi h w
theorem pl(key data:ByteArray)(n:Nat)(w:World)(hk:key.size=32)(hd:data.size=16*n)(hn:n≤60000):
  Rw 197 #[.string key,.string data] w (.string ⟨(Po.tagged (byN key) (fun j i=>byN data (16*j+i)) n).toArray⟩):=by
 have HD:Hid (∀j i,(fun j i=>byN data (16*j+i)) j i≤255):=fun j i=>cr _ _
 have HF:Hid (∀i,byN key i≤255):=cr key;have HRb:Hid (∀i,(Po.xm (byN key)).getD i 0≤1023):=fun i=>by have:=Po.Aq (Po.rAt (byN key)) 255 (Po.Bi _ (cr key)) 16 i;show(Po.yZ (Po.rAt (byN key)) 16).getD i 0≤1023;omega
 have HT:Hid (Po.tagged (byN key) (fun j i=>byN data (16*j+i)) n=(Po.eTo (Po.wI (Po.hTo (Po.xm (byN key)) (fun j i=>byN data (16*j+i)) n)) (fun i=>byN key (16+i)) 16).1):=rfl;have HRR:Hid (Po.yZ (Po.rAt (byN key)) 16=Po.xm (byN key)):=rfl;generalize Po.tagged (byN key) (fun j i=>byN data (16*j+i)) n=R at HT⊢;have hz:=eg;have hb:=Blk.new w (Us Po.none17) 229;have bel:Below w.heap.size w (w.alloc (.cells (Us Po.none17) 229)):=bR.alloc nR _;go_enter Tryz.func197,Tryz.ntmps197;go_wp2_with fail;generalize w.alloc (.cells (Us Po.none17) 229)=w1 at hb bel⊢;go_loopw [6] (fun i wr=> ∃k:Nat,k≤16∧i= .int .i64 k∧Blk wr w.heap.size (Us (Po.yZ (Po.rAt (byN key)) k)) 229∧Below w.heap.size w wr) (fun i _=>16 - (intOf i).toNat)
 case atStart=>exact⟨0,by omega,rfl,hb,bel⟩
 case round=>
  clear hb bel;obtain⟨k,BZ,rfl,hb,bel⟩:=hrel;by_cases hlt:k<16
  ·have k0:(k:Int)<16:=by omega
   have k1:(0:Int)≤(k:Int):=by omega
   have hix:=fj key (k:Int) k (by omega) (by omega) (by omega);have hlr:=Po.yY (Po.rAt (byN key)) k;have HS:Hid (Po.yZ (Po.rAt (byN key)) (k+1)=(Po.yZ (Po.rAt (byN key)) k).set k (Po.rAt (byN key) k)):=rfl;have HA:Hid (Po.rAt (byN key) k=if k%4=3 then byN key k%16 else if k%4=0∧0<k then byN key k - byN key k%4 else byN key k):=rfl;have hx:=HF.out k;generalize Po.rAt (byN key) k=ra at HS HA;generalize byN key k=x at hix HA hx;generalize Po.yZ (Po.rAt (byN key)) k=r at hb hlr HS;have f1:=hb.frozen k;have g1:=aA hb k (by omega);have R1:=aM (w:=w) hb nR bel k x (x:Int) rfl;have g2:=aA R1.1 k (by rw[List.length_set];omega);rw[Po.xN _ _ _ (by omega)]at g2;have f2:=R1.1.frozen k;by_cases h3:k%4=3
   ·have d3:((k:Int)%4==3)=true:=by rw[beq_iff_eq];omega
    have d0:((k:Int)%4==0)=false:=by rw[beq_eq_false_iff_ne];omega
    replace HA:=HA.out;rw[if_pos h3]at HA;have R2:=aM (w:=w) R1.1 nR R1.2.2 k (x%16) ((x:Int)%16) (by omega);rw[List.set_set,←HA,←HS.out]at R2;clear HA;replace h3:Hid (k%4=3):=h3;go_wp2;go_roundw
    case rel=>exact⟨k+1,by omega,by go_num,R2.1,R2.2.2⟩
    case measure=>simp[intOf];omega
   ·have d3:((k:Int)%4==3)=false:=by rw[beq_eq_false_iff_ne];omega
    by_cases h0:k%4=0∧0<k
    ·have d0:((k:Int)%4==0)=true:=by rw[beq_iff_eq];omega
     have dp:decide ((k:Int)>0)=true:=decide_eq_true (by omega);have dp':decide ((0:Int)<(k:Int))=true:=decide_eq_true (by omega);have dp2:(0:Int)<(k:Int):=by omega
     have dp3:decide (0<k)=true:=decide_eq_true h0.2;replace HA:=HA.out;rw[if_neg h3,if_pos h0]at HA;have R2:=aM (w:=w) R1.1 nR R1.2.2 k (x - x%4) ((x:Int) - (x:Int)%4) (by omega);rw[List.set_set,←HA,←HS.out]at R2;clear HA;replace h3:Hid (¬k%4=3):=h3;replace h0:Hid (k%4=0∧0<k):=h0;go_wp2_with fail;go_region
     all_goals
      go_wp2;go_roundw
      case rel=>exact⟨k+1,by omega,by go_num,R2.1.drew,R2.2.2.drew⟩
      case measure=>simp[intOf];omega
    ·replace HA:=HA.out;rw[if_neg h3,if_neg h0]at HA;replace HS:=HS.out;rw[HA]at HS;rw[←HS]at R1;clear HA HS g2 f2;replace h3:Hid (¬k%4=3):=h3;by_cases hk0:k=0
     ·have d0:((k:Int)%4==0)=true:=by rw[beq_iff_eq];omega
      have dp:decide ((k:Int)>0)=false:=decide_eq_false (by omega);have dp':decide ((0:Int)<(k:Int))=false:=decide_eq_false (by omega);have dp2: ¬(0:Int)<(k:Int):=by omega
      have dp3:decide (0<k)=false:=decide_eq_false (by omega);have dp4: ¬0<k:=by omega
      replace hk0:Hid (k=0):=hk0;replace h0:Hid (¬(k%4=0∧0<k)):=h0;go_wp2;go_roundw
      case rel=>exact⟨k+1,by omega,by go_num,R1.1,R1.2.2⟩
      case measure=>simp[intOf];omega
     ·have d0:((k:Int)%4==0)=false:=by rw[beq_eq_false_iff_ne];omega
      replace h0:Hid (¬(k%4=0∧0<k)):=h0;go_wp2;go_roundw
      case rel=>exact⟨k+1,by omega,by go_num,R1.1,R1.2.2⟩
      case measure=>simp[intOf];omega
  ·have hk16':k=16:=by omega
   subst hk16';rw[show ((16:Nat):Int)=16 from rfl];rw[HRR.out]at hb;clear HRR HF;have lr:(Po.xm (byN key)).length=17:=Po.yY _ _;generalize Po.xm (byN key)=r at hb HRb HT lr;have sr:=Uz lr;have hbn:=Blk.new wr (Us Po.none17) 229;have hbr:=hb.alloc (.cells (Us Po.none17) 229);have BS:Below w.heap.size w (wr.alloc (.cells (Us Po.none17) 229)):=bel.alloc bel.size _;have hq:=hb.lt;clear hb bel;go_wp2_with fail;generalize wr.alloc (.cells (Us Po.none17) 229)=w2 at hbn hbr BS⊢;generalize wr.heap.size=q at hbn hq⊢;have HBY:Hid (∀j,Po.Byt (Po.hTo r (fun j i=>byN data (16*j+i)) j)):=Po.zw _ _ HRb.out HD.out;have HTM:Hid (∀(a:List Nat) (wx:World),a.length=17→(∀i,a.getD i 0≤1023)→Rw 238 #[.agg (Us a),.agg (Us r)] wx (.agg (Us (Po.times a r)))):=fun a wx h1 h2=>qS a r wx h1 lr h2 HRb.out
   have HH:Hid (∀j,Po.hTo r (fun j i=>byN data (16*j+i)) (j+1)=Po.times (Po.wn (fun i=>byN data (16*j+i)) (Po.hTo r (fun j i=>byN data (16*j+i)) j)) r):=fun _=>rfl
   have H0:Hid (Po.hTo r (fun j i=>byN data (16*j+i)) 0=Po.none17):=rfl;generalize Po.hTo r (fun j i=>byN data (16*j+i))=HX at HBY HH H0 HT;clear HRb;go_loopw [8] (fun i wr=> ∃j:Nat,j≤n∧i= .int .i64 (16*j:Nat)∧Blk wr q (Us (HX j)) 229∧Blk wr w.heap.size (Us r) 229∧Below w.heap.size w wr) (fun i _=>16*n - (intOf i).toNat)
   case atStart=>exact⟨0,by omega,rfl,by rw[H0.out];exact hbn,hbr,BS⟩
   case round=>
    clear hbn hbr BS;obtain⟨j,hj,rfl,hbh,hbr,bel⟩:=hrel;by_cases hlt:j<n
    ·have hBy:=HBY.out j;have HN:=HH.out j;generalize HX j=h at hbh hBy HN;have lh:=hBy.1;have HAB:Hid (∀k i,(Po.aTo (fun i=>byN data (16*j+i)) h k).getD i 0≤510):=Po.aTo_bd _ _ (fun i=>cr _ _) hBy.all;have HBB:Hid (∀i,(Po.wn (fun i=>byN data (16*j+i)) h).getD i 0≤1023):=Po.Bl _ _ (fun i=>cr _ _) hBy.all;have lbi:(Po.wn (fun i=>byN data (16*j+i)) h).length=17:=by rw[Po.zU,lh]
     have HBI:Hid (Po.wn (fun i=>byN data (16*j+i)) h=(Po.aTo (fun i=>byN data (16*j+i)) h 16).set 16 ((Po.aTo (fun i=>byN data (16*j+i)) h 16).getD 16 0+1)):=rfl;replace HN:Hid (HX (j+1)=Po.times (Po.wn (fun i=>byN data (16*j+i)) h) r):=HN;generalize Po.wn (fun i=>byN data (16*j+i)) h=bi at HN HBB lbi HBI;replace hBy:Hid (Po.Byt h):=hBy;have dl:decide ((((16*j:Nat):Int))<(data.size:Int))=true:=decide_eq_true (by omega);have dm:decide ((data.size:Int) - ((16*j:Nat):Int)<16)=false:=decide_eq_false (by omega);have hsz:(data.size:Int) - ((16*j:Nat):Int)≥16:=by omega
     generalize hat:16*j=at0 at dl dm hsz;have a0:at0+16≤data.size:=by omega
     replace hat:Hid (16*j=at0):=hat;have ab:at0≤1000000:=by have:=hat.out;omega
     go_wp2_with fail;go_loopw [10] (fun i wr=> ∃k:Nat,k≤16∧i= .int .i64 k∧Blk wr q (Us (Po.aTo (fun i=>byN data (16*j+i)) h k)) 229∧Blk wr w.heap.size (Us r) 229∧Below w.heap.size w wr) (fun i _=>16 - (intOf i).toNat)
     case atStart=>exact⟨0,by omega,rfl,hbh,hbr,bel⟩
     case round=>
      clear hbh hbr bel;obtain⟨k,BZ,rfl,hbh,hbr,bel⟩:=hrel;by_cases hkt:k<16
      ·have k0:(k:Int)<16:=by omega
       have k1:(0:Int)≤(k:Int):=by omega
       have hix:=fj data ((at0:Int)+(k:Int)) (at0+k) (by omega) (by omega) (by omega);have HS:Hid (Po.aTo (fun i=>byN data (16*j+i)) h (k+1)=(Po.aTo (fun i=>byN data (16*j+i)) h k).set k ((Po.aTo (fun i=>byN data (16*j+i)) h k).getD k 0+byN data (16*j+k))):=rfl;rw[show 16*j+k=at0+k by have:=hat.out;omega]at HS;have hyb:=cr data (at0+k);have hxb:=HAB.out k k;have lA:(Po.aTo (fun i=>byN data (16*j+i)) h k).length=17:=by rw[Po.zn,lh]
       generalize byN data (at0+k)=y at hix hyb HS;generalize Po.aTo (fun i=>byN data (16*j+i)) h k=A at hbh hxb HS lA;have g1:=aA hbh k (by omega);have f1:=hbh.frozen k;generalize A.getD k 0=x at g1 hxb HS;have R1:=aM (w:=w) hbh (by omega) bel k (x+y) ((x:Int)+(y:Int)) (by omega);rw[←HS.out]at R1;have hbr':=R1.2.1 _ _ _ (show w.heap.size≠q by omega) hbr;have ei:IntKind.i64.wrap ((at0:Int)+(k:Int))=(at0:Int)+(k:Int):=by rw[IntKind.wrap_i64];omega
       go_wp2_with fail;go_region
       all_goals
        go_wp2;go_roundw
        case rel=>exact⟨k+1,by omega,by go_num,R1.1.drew,hbr'.drew,R1.2.2.drew⟩
        case measure=>simp[intOf];omega
      ·have hk16':k=16:=by omega
       subst hk16';rw[show ((16:Nat):Int)=16 from rfl];have lA:(Po.aTo (fun i=>byN data (16*j+i)) h 16).length=17:=by rw[Po.zn,lh]
       have hxb:=HAB.out 16 16;generalize Po.aTo (fun i=>byN data (16*j+i)) h 16=A at hbh hxb lA HBI;have g1:=aA hbh 16 (by omega);have f1:=hbh.frozen 16;generalize A.getD 16 0=x at g1 hxb HBI;have R1:=aM (w:=w) hbh (by omega) bel 16 (x+1) ((x:Int)+1) (by omega);rw[←HBI.out]at R1;have sb:=Uz lbi;have hbr':=R1.2.1 _ _ _ (show w.heap.size≠q by omega) hbr;obtain⟨p1,_,pb⟩:=R1;have q1:=p1;have q2:=hbr';unfold Blk at q1 q2;have HX2:Hid (Rv 238 #[.agg (Us bi),.agg (Us r)] (.agg (Us (Po.times bi r)))):=fun wx=>HTM.out bi wx lbi HBB.out
       rw[←HN.out]at HX2;have lN:(HX (j+1)).length=17:=(HBY.out (j+1)).1;generalize hNx:HX (j+1)=Nx at HX2 lN HN;have sN:=Uz lN;clear HBI HN hbh hbr bel;go_wp2_with (first
        |(refine ld br rfl rfl q rfl q1 sb ?_)
        |(refine ld br rfl rfl w.heap.size rfl q2 sr ?_))
       clear q1 q2 g1 f1;generalize wr.setCell ⟨q,16,none⟩ (.int .i64 ((x:Int)+1))=w5 at p1 hbr' pb⊢;refine gv HX2 fun w6 k6=> ?_
       replace p1:=p1.keep k6;replace hbr':=hbr'.keep k6;replace pb:=pb.trans (k6.mono pb.size);have q3:=p1;unfold Blk at q3;replace hNx:Hid (HX (j+1)=Nx):=hNx;go_wp2_with (refine st br rfl rfl q rfl rfl q3 sN sb (cj _) ?_);go_roundw
       case rel=>exact⟨j+1,by omega,aP (by have:=hat.out;omega),by rw[hNx.out];exact p1.row _,hbr'.other (show w.heap.size≠q by omega) _,below_setRow pb (by omega) _⟩
       case measure=>simp[intOf];have:=hat.out;omega
    ·have hjn:j=n:=by omega
     subst hjn;have dl:decide ((((16*j:Nat):Int))<(data.size:Int))=false:=decide_eq_false (by omega);have dl2: ¬16*j<data.size:=by omega
     have dl3:decide (16*j<data.size)=false:=decide_eq_false (by omega);have hBy:=HBY.out j;generalize HX j=h at hbh hBy HT;have hM: ∀i,h.getD i 0≤100000000000000:=fun i=>by have:=hBy.all i;omega
     have HLS:Hid (Rv 239 #[.agg (Us h)] (.agg (Us (Po.wI h)))):=fun wx=>qT h wx hBy.1 hM
     have HLB:Hid (∀i,(Po.wI h).getD i 0≤2000):=Po.least_bd h hBy.1 hM;have lL:=Po.Ar h hBy.1 hM;have lh:=hBy.1;clear hM hBy;generalize Po.wI h=L at HLS HLB lL HT;have sh:=Uz lh;have sL:=Uz lL;have q1:=hbh;unfold Blk at q1;replace hd:Hid (data.size=16*j):=hd;generalize 16*j=at0 at dl dl2 dl3⊢;clear HBY HTM HH H0;go_wp2_with (refine ld br rfl rfl q rfl q1 sh ?_);clear q1;refine gv HLS fun w6 k6=> ?_
     replace hbh:=hbh.keep k6;replace bel:=bel.trans (k6.mono bel.size);have q3:=hbh;unfold Blk at q3;have p1:=hbh.row (Us L);have pb:=below_setRow (g:=q) bel (by omega) (Us L);go_wp2_with (refine st br rfl rfl q rfl rfl q3 sL sh (cj _) ?_);clear q3 k6 hbh bel hbr;generalize w6.setRow q (Us L)=w7 at p1 pb⊢;go_loopw [11,12,13] (fun o c i wr=> ∃k:Nat,k≤16∧i= .int .i64 k∧o= .string ⟨(Po.eTo L (fun i=>byN key (16+i)) k).1.toArray⟩∧c= .int .i64 ((Po.eTo L (fun i=>byN key (16+i)) k).2:Nat)∧Blk wr q (Us L) 229∧Below w.heap.size w wr) (fun _ _ i _=>16 - (intOf i).toNat)
     case atStart=>exact⟨0,by omega,rfl,rfl,rfl,p1,pb⟩
     case round=>
      clear p1 pb;obtain⟨k,BZ,rfl,rfl,rfl,p1,pb⟩:=hrel;by_cases hkt:k<16
      ·have k0:(k:Int)<16:=by omega
       have k1:(0:Int)≤(k:Int):=by omega
       have hcb:=Po.eTo_bd L (fun i=>byN key (16+i)) HLB.out (fun i=>cr _ _) k;have HS:Hid (Po.eTo L (fun i=>byN key (16+i)) (k+1)=((Po.eTo L (fun i=>byN key (16+i)) k).1++ [UInt8.ofNat (((Po.eTo L (fun i=>byN key (16+i)) k).2+L.getD k 0+byN key (16+k))%256)],((Po.eTo L (fun i=>byN key (16+i)) k).2+L.getD k 0+byN key (16+k))/256)):=rfl;have lo:=Po.xY L (fun i=>byN key (16+i)) k;have hix:=fj key (16+(k:Int)) (16+k) (by omega) (by omega) (by omega);have hyb:=cr key (16+k);have hxb:=HLB.out k;have g1:=aA p1 k (by omega);generalize (Po.eTo L (fun i=>byN key (16+i)) k).1=o at HS lo⊢;generalize (Po.eTo L (fun i=>byN key (16+i)) k).2=cc at HS hcb⊢;generalize byN key (16+k)=y at hix hyb HS;generalize L.getD k 0=x at g1 hxb HS;have hBs:Hid (Rv 75 #[.int .i64 (((cc:Int)+(x:Int)+(y:Int))%256),.int .i64 1] (.string ⟨[UInt8.ofNat ((cc+x+y)%256)].toArray⟩)):=fun wx=>by
        have:=bP (((cc:Int)+(x:Int)+(y:Int))%256) 1 ((cc+x+y)%256) 1 (by omega) rfl (by omega) (by omega) wx;rw[rU]at this;exact this
       have Cs:Op.stringOp .add ⟨o.toArray⟩ ⟨[UInt8.ofNat ((cc+x+y)%256)].toArray⟩=pure (.string ⟨(o++ [UInt8.ofNat ((cc+x+y)%256)]).toArray⟩):=by
        rw[aH _ _ (by show o.toArray.size+1≤_;rw[List.size_toArray];omega)];exact congrArg (fun z=>pure (Value.string z)) (ByteArray.mk_append_mk _ _)
       generalize hb1: [UInt8.ofNat ((cc+x+y)%256)]=B1 at hBs Cs HS;have ez:IntKind.i64.wrap ((cc:Int)+(x:Int)+(y:Int))=(cc:Int)+(x:Int)+(y:Int):=by rw[IntKind.wrap_i64];omega
       replace hb1:Hid ([UInt8.ofNat ((cc+x+y)%256)]=B1):=hb1;go_wp2_with fail;go_region
       all_goals
        go_wp2_with fail;refine gv hBs fun w9 k9=> ?_
        have p9:=p1.drew.keep k9;have pb9:=pb.drew.trans (k9.mono pb.drew.size);go_wp2;go_roundw
        case rel=>
         refine⟨k+1,by omega,by go_num,?_,?_,p9,pb9⟩
         ·rw[HS.out]
         ·rw[HS.out];exact aP (by omega)
        case measure=>simp[intOf];omega
      ·have hk16':k=16:=by omega
       subst hk16';rw[←HT.out];go_wp2;go_ret;exact⟨rfl,pb⟩
end Go.Proofs.YtclpbaokadfhhaaGreatDoor
