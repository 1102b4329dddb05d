import Derived.Test.YtclpbaokadfhhaaGreatDoorZd
set_option maxRecDepth 100000
set_option maxHeartbeats 4000000
namespace Go.Proofs.YtclpbaokadfhhaaGreatDoor
open Go.RowKit
namespace Fd
def wW(a bits:List Int):Nat→List Int
 |0=>small 1
 |i+1=>if bits.getD i 0=1 then by_ (by_ (wW a bits i) (wW a bits i)) a else by_ (wW a bits i) (wW a bits i)
def pow(a bits:List Int):List Int:=wW a bits bits.length
theorem ye(a bits:List Int)(ha:Good a)(i:Nat):Good (wW a bits i):=by
 induction i with
 |zero=>exact vu 1 (by omega) (by omega)
 |succ i ih=>
  rw[wW];split
  ·exact tN _ _ (tN _ _ ih ih) ha
  ·exact tN _ _ ih ih
end Fd
theorem aL{w:World}{g t:Nat}{cs:Array Value}{l:List Int}(hb:Blk w g cs t)(hl:cs.size=l.length):
  (storeCells ⟨g,0,none⟩ (Ns l).toList).run Tryz.prog w= .ok () (w.setRow g (Ns l)):=by
 have h1:=aN l;have:=run_storeCells_from (P:=Tryz.prog) g t (Ns l).toList 0 cs w hb (by simp[aK,hl]) (fun v hv=>(Array.all_eq_true_iff_forall_mem.1 h1) v (by simpa using hv));rw[this];simp
theorem iU(a bits:List Int)(gb cb:Nat)(w:World)(ha:Fd.Good a)(hn:bits.length≤1000)(Ch: ∀i,i<bits.length→w.cell? ⟨gb,i,none⟩=some (.int .i64 (bits.getD i 0)))(hgb:gb<w.heap.size):
  Rw 145 #[.agg (Ns a),.slice (some ⟨gb,0,none⟩) bits.length cb] w (.agg (Ns (Fd.pow a bits))):=by
 have hna:=Nz ha.1;have hz:=bC;have HG:Hid (Fd.Good a):=ha;clear ha;have HBI:Hid (∀i,i<bits.length→w.cell? ⟨gb,i,none⟩=some (.int .i64 (bits.getD i 0))):=Ch;clear Ch;have HR:Hid (Fd.pow a bits=Fd.wW a bits bits.length):=rfl;generalize Fd.pow a bits=R at HR⊢;generalize hnl:bits.length=n at hn HBI HR⊢;clear hnl;have hb1:Blk ((w.alloc (.cells (Ns a) 59)).alloc (.cells (Ns Fd.zN) 59)) w.heap.size (Ns a) 59:=heap_alloc2_old w _ _;have hb2:Blk ((w.alloc (.cells (Ns a) 59)).alloc (.cells (Ns Fd.zN) 59)) (w.heap.size+1) (Ns Fd.zN) 59:=heap_alloc2_new w _ _;have BI:Below w.heap.size w ((w.alloc (.cells (Ns a) 59)).alloc (.cells (Ns Fd.zN) 59)):=(bR.alloc nR _).alloc (by simp) _;go_enter Tryz.func145,Tryz.ntmps145;go_wp2_with fail;generalize (w.alloc (.cells (Ns a) 59)).alloc (.cells (Ns Fd.zN) 59)=w1 at hb1 hb2 BI⊢;refine(bj 1 _).mono ?_;rintro e w2 ⟨rfl,hb3⟩;have hc1:=hb1.keep hb3;have hc2:=hb2.keep hb3;have BQ:=BI.trans (hb3.mono BI.size);have hst:=aL (l:=Fd.small 1) (Blk.new w2 (Ns Fd.zN) 59) rfl;rw[World.setRow_alloc_new]at hst;have hsz1:(Ns (Fd.small 1)).size=16:=rfl;have hd1:=hc1.alloc (.cells (Ns (Fd.small 1)) 59);have hd2:=hc2.alloc (.cells (Ns (Fd.small 1)) 59);have hd3:=Blk.new w2 (Ns (Fd.small 1)) 59;have BT:Below w.heap.size w (w2.alloc (.cells (Ns (Fd.small 1)) 59)):=BQ.alloc BQ.size _;have hC:=hc2.lt;clear hb1 hb2 BI hc1 hc2 BQ hb3;go_wp2_with fail;generalize w2.alloc (.cells (Ns (Fd.small 1)) 59)=w3 at hd1 hd2 hd3 BT⊢;generalize w2.heap.size=C0 at hd3 hC⊢;clear hst;go_loopw [6] (fun q wr=> ∃k:Nat,k≤n∧q= .int .i64 k∧Blk wr C0 (Ns (Fd.wW a bits k)) 59∧Blk wr w.heap.size (Ns a) 59∧Blk wr (w.heap.size+1) (Ns Fd.zN) 59∧Below w.heap.size w wr) (fun q _=>n - (intOf q).toNat)
 case atStart=>exact⟨0,by omega,rfl,hd3,hd1,hd2,BT⟩
 case round=>
  clear hd1 hd2 hd3 BT;obtain⟨k,hk,rfl,hcC,hb1,hb2,BI⟩:=hrel;by_cases hlt:k<n
  ·have i0:(k:Int)<n:=by omega
   have Cp:=Fd.ye a bits HG.out k;have hg2:=Fd.tN _ _ Cp Cp;have HS:Hid (Fd.wW a bits (k+1)=if bits.getD k 0=1 then Fd.by_ (Fd.by_ (Fd.wW a bits k) (Fd.wW a bits k)) a else Fd.by_ (Fd.wW a bits k) (Fd.wW a bits k)):=rfl;have BX:=HBI.out k hlt;have hbitr: ∀wx,Below w.heap.size w wx→wx.cell? ⟨gb,k,none⟩=some (.int .i64 (bits.getD k 0)):=fun wx hx=>(hx.cell (p:=⟨gb,k,none⟩) hgb).trans BX
   clear BX;have HBR:Hid (∀wx,Below w.heap.size w wx→wx.cell? ⟨gb,k,none⟩=some (.int .i64 (bits.getD k 0))):=hbitr;clear hbitr;generalize Fd.wW a bits k=c at Cp hg2 HS hcC;generalize hcc:Fd.by_ c c=d at hg2 HS;have HCC:Hid (Fd.by_ c c=d):=hcc;clear hcc;have HGC:Hid (Fd.Good c):=Cp;have HGD:Hid (Fd.Good d):=hg2;have ec:=Nz Cp.1;have ed:=Nz hg2.1;clear Cp hg2;have gC:=hcC;unfold Blk at gC;generalize bits.getD k 0=bt at HBR HS;by_cases hbt:bt=1
   ·have db:(bt==1)=true:=by rw[beq_iff_eq];exact hbt
    rw[if_pos hbt]at HS;have HN:Hid _:=hbt;clear hbt;have hg3:=Fd.tN _ _ HGD.out HG.out;have ee:=Nz hg3.1;clear hg3;generalize hdd:Fd.by_ d a=f at HS ee;have HDD:Hid (Fd.by_ d a=f):=hdd;clear hdd;have tok1:True:=trivial;go_wp2_with (first
     |(refine ld t59 rfl rfl C0 rfl gC ec ?_)
     |(go_at_call 84;have _t:=tok1;refine(iv c c _ HGC.out.1 HGC.out.1 HGC.out.bd HGC.out.bd).mono ?_;rw[show Fd.by_ c c=d from HCC.out];rintro e w4 ⟨rfl,hb4⟩;clear tok1 gC;have hC4:Blk w4 _ _ _:=hcC.keep hb4;have h14:Blk w4 _ _ _:=hb1.keep hb4;have h24:Blk w4 _ _ _:=hb2.keep hb4;have CD:=BI.trans (hb4.mono BI.size);have g4:w4.heap[C0]? =_:=hC4;have hbt4:=HBR.out _ (below_setRow CD (by omega:w.heap.size≤C0) (Ns d));have hC5:=hC4.row (Ns d);have h15:=h14.other (by omega) (b':=C0) (Ns d);have h25:=h24.other (by omega) (b':=C0) (Ns d);have B6:=below_setRow CD (by omega:w.heap.size≤C0) (Ns d);have g5:(w4.setRow C0 (Ns d)).heap[C0]? =_:=hC5;have g6:(w4.setRow C0 (Ns d)).heap[w.heap.size]? =_:=h15)
     |(refine stN rfl rfl C0 rfl rfl g4 ed ec ?_;clear g4)
     |(refine ld t59 rfl rfl C0 rfl g5 ed ?_)
     |(refine ld t59 rfl rfl w.heap.size rfl g6 hna ?_)
     |(go_at_call 84;refine(iv d a _ HGD.out.1 HG.out.1 HGD.out.bd HG.out.bd).mono ?_;rw[show Fd.by_ d a=f from HDD.out];rintro e w6 ⟨rfl,hb6⟩;clear g5 g6;have hC6:Blk w6 _ _ _:=hC5.keep hb6;have h16:Blk w6 _ _ _:=h15.keep hb6;have h26:Blk w6 _ _ _:=h25.keep hb6;have hbel6:=B6.trans (hb6.mono B6.size);have g7:w6.heap[C0]? =_:=hC6)
     |(refine stN rfl rfl C0 rfl rfl g7 ee ed ?_))
    go_roundw
    case rel=>
     refine⟨k+1,by omega,by go_num,?_,h16.other (by omega) _,h26.other (by omega) _,below_setRow hbel6 (by omega) _⟩;rw[show Fd.wW a bits (k+1)=f from HS.out];exact hC6.row _
    case measure=>simp[intOf];omega
   ·have db:(bt==1)=false:=by rw[beq_eq_false_iff_ne];exact hbt
    rw[if_neg hbt]at HS;have HN:Hid _:=hbt;clear hbt;go_wp2_with (first
     |(refine ld t59 rfl rfl C0 rfl gC ec ?_)
     |(go_at_call 84;refine(iv c c _ HGC.out.1 HGC.out.1 HGC.out.bd HGC.out.bd).mono ?_;rw[show Fd.by_ c c=d from HCC.out];rintro e w4 ⟨rfl,hb4⟩;have hC4:Blk w4 _ _ _:=hcC.keep hb4;have h14:Blk w4 _ _ _:=hb1.keep hb4;have h24:Blk w4 _ _ _:=hb2.keep hb4;have CD:=BI.trans (hb4.mono BI.size);have g4:w4.heap[C0]? =_:=hC4;have hbt4:=HBR.out _ (below_setRow CD (by omega:w.heap.size≤C0) (Ns d)))
     |(refine stN rfl rfl C0 rfl rfl g4 ed ec ?_))
    go_roundw
    case rel=>
     refine⟨k+1,by omega,by go_num,?_,h14.other (by omega) _,h24.other (by omega) _,below_setRow CD (by omega) _⟩;rw[show Fd.wW a bits (k+1)=d from HS.out];exact hC4.row _
    case measure=>simp[intOf];omega
  ·have hkn:k=n:=by omega
   subst hkn;have Cp:=Fd.ye a bits HG.out k;rw[←show R=Fd.wW a bits k from HR.out]at hcC Cp;have g0:=hcC;have g1:=hb2;unfold Blk at g0 g1;have e16:=Nz Cp.1;clear Cp;go_wp2_with (first
    |(refine ld t59 rfl rfl C0 rfl g0 e16 ?_)
    |(refine stN rfl rfl (w.heap.size+1) rfl rfl g1 e16 rfl ?_))
   refine bodyPost_ret (v:= .agg (Ns R)) ?_ rfl ⟨rfl,below_setRow BI (by omega) _⟩;exact rr t59 rfl rfl (hb2.row _) e16
def Fd.inv(a:List Int):List Int:=Fd.pow a (Fd.ones [0,1,0,1,1] 255)
theorem Fd.xu(a bits:List Int)(ha:Fd.Good a):Fd.Good (Fd.pow a bits):=Fd.ye a bits ha _
theorem Fd.uv(a:List Int)(ha:Fd.Good a):Fd.Good (Fd.inv a):=Fd.xu _ _ ha
theorem Fd.ones_length(last:List Int)(many:Nat)(h:last.length≤many):(Fd.ones last many).length=many:=by simp[Fd.ones];omega
theorem np(a bits:List Int)(g n cap base:Nat)(w:World)(ha:Fd.Good a)(hn:bits.length≤1000)(hnl:n=bits.length)(h0:0<n)(ho:OwnI w base (.slice (some ⟨g,0,none⟩) n cap) bits):
  Rw 145 #[.agg (Ns a),.slice (some ⟨g,0,none⟩) n cap] w (.agg (Ns (Fd.pow a bits))):=by
 subst hnl;exact iU a bits g cap w ha hn (fun i hi=>ho.cell i hi) (block_lt_of_cell (ho.cell 0 h0))
theorem cq(a:List Int)(w:World)(ha:Fd.Good a):
  Rw 85 #[.agg (Ns a)] w (.agg (Ns (Fd.inv a))):=by
 have hna:=Nz ha.1;have hz:=bC;have hgR:=Fd.uv a ha;have HG:Hid (Fd.Good a):=ha;clear ha;have eR:=Nz hgR.1;clear hgR;have HR:Hid (Fd.pow a (Fd.ones [0,1,0,1,1] 255)=Fd.inv a):=rfl;generalize Fd.inv a=R at HR eR⊢;have hb1:Blk ((w.alloc (.cells (Ns a) 59)).alloc (.cells (Ns Fd.zN) 59)) w.heap.size (Ns a) 59:=heap_alloc2_old w _ _;have hb2:Blk ((w.alloc (.cells (Ns a) 59)).alloc (.cells (Ns Fd.zN) 59)) (w.heap.size+1) (Ns Fd.zN) 59:=heap_alloc2_new w _ _;have BI:Below w.heap.size w ((w.alloc (.cells (Ns a) 59)).alloc (.cells (Ns Fd.zN) 59)):=(bR.alloc nR _).alloc (by simp) _;have hsz:((w.alloc (.cells (Ns a) 59)).alloc (.cells (Ns Fd.zN) 59)).heap.size=w.heap.size+1+1:=by simp
 have hl5:=Blk.new ((w.alloc (.cells (Ns a) 59)).alloc (.cells (Ns Fd.zN) 59)) (Ns [0,1,0,1,1]) 3;have hc1:=hb1.alloc (.cells (Ns [0,1,0,1,1]) 3);have hc2:=hb2.alloc (.cells (Ns [0,1,0,1,1]) 3);have BQ:Below w.heap.size w (((w.alloc (.cells (Ns a) 59)).alloc (.cells (Ns Fd.zN) 59)).alloc (.cells (Ns [0,1,0,1,1]) 3)):=BI.alloc (by rw[hsz];omega) _;rw[hsz]at hl5;clear hb1 hb2 BI hsz;go_enter Tryz.func85,Tryz.ntmps85;go_wp2_with fail;rw[show (#[Value.int .i64 0,Value.int .i64 1,Value.int .i64 0,Value.int .i64 1,Value.int .i64 1]:Array Value)=Ns [0,1,0,1,1]from rfl];generalize ((w.alloc (.cells (Ns a) 59)).alloc (.cells (Ns Fd.zN) 59)).alloc (.cells (Ns [0,1,0,1,1]) 3)=w1 at hl5 hc1 hc2 BQ⊢;refine(jH [0,1,0,1,1] _ 255 _ _ _ rfl (by omega) (by decide) (by decide) (fun i hi=>by rw[hl5.cell i];exact bf _ i hi)).mono ?_;rintro e w2 ⟨g,cap,rfl,BV,hb2⟩;have hd1:=hc1.keep hb2;have hd2:=hc2.keep hb2;have BT:=BQ.trans (hb2.mono BQ.size);have g1:=hd1;unfold Blk at g1;go_wp2_with (first
  |(refine ld t59 rfl rfl w.heap.size rfl g1 hna ?_)
  |(go_at_call 145;refine(np a _ g _ cap _ _ HG.out ?_ ?_ ?_ BV).mono ?_;(rw[Fd.ones_length _ _ (by decide)];omega);(rw[Fd.ones_length _ _ (by decide)]);decide;rw[show Fd.pow a _=R from HR.out];rintro e w3 ⟨rfl,hb3⟩;have g3:w3.heap[w.heap.size+1]? =_:=hd2.keep hb3)
  |(refine stN rfl rfl (w.heap.size+1) rfl rfl g3 eR rfl ?_))
 have hd2':Blk w3 (w.heap.size+1) _ 59:=hd2.keep hb3;refine bodyPost_ret (v:= .agg (Ns R)) ?_ rfl ⟨rfl,below_setRow (BT.trans (hb3.mono BT.size)) (by omega) _⟩;exact rr t59 rfl rfl (hd2'.row _) eR
def Fd.lo(n:Nat):Nat→List UInt8
 |0=> []
 |k+1=>Fd.lo n k++ [UInt8.ofNat (n/256^k%256)]
theorem Fd.tV(n k:Nat):(Fd.lo n k).length=k:=by
 induction k with
 |zero=>rfl
 |succ k ih=>simp[Fd.lo,ih]
theorem bP(m q:Int)(n k:Nat)(hm:m=(n:Int))(hq:q=(k:Int))(hn:n≤4503599627370496)(hk:k≤1000)(w:World):
  Rw 75 #[.int .i64 m,.int .i64 q] w (.string ⟨(Fd.lo n k).toArray⟩):=by
 subst hm hq;go_enter Tryz.func75,Tryz.ntmps75;go_wp2;go_loopw [0,5,6] (fun a s i wr=> ∃j:Nat,j≤k∧i= .int .i64 j∧a= .int .i64 ((n/256^j:Nat):Int)∧s= .string ⟨(Fd.lo n j).toArray⟩∧Below w.heap.size w wr) (fun _ _ i _=>k - (intOf i).toNat)
 case atStart=>exact⟨0,by omega,rfl,by simp,rfl,Below.refl _ _⟩
 case round=>
  obtain⟨j,hj,rfl,rfl,rfl,BI⟩:=hrel;by_cases hlt:j<k
  ·have i0:(j:Int)<k:=by omega
   have hle:n/256^j≤4503599627370496:=Nat.le_trans (Nat.div_le_self _ _) hn;have e2:n/256^(j+1)=n/256^j/256:=by rw[Nat.pow_succ,Nat.div_div_eq_div_mul]
   have hL:Hid (Fd.lo n (j+1)=Fd.lo n j++ [UInt8.ofNat (n/256^j%256)]):=rfl;have hl:=Fd.tV n j;generalize n/256^j=x at hle e2 hL⊢;have E2:Hid _:=e2;clear e2;have hcv:=aQ (cap:=1) (Blk.new wr (Bs [UInt8.ofNat (x%256)]) 5) 1 rfl;have hbt:(#[Value.int .u8 ((x:Int)%256)]:Array Value)=Bs [UInt8.ofNat (x%256)]:=by simp[Bs]
   rw[←hbt]at hcv;clear hbt;generalize hbk:Fd.lo n j=L at hl hL;have HBK:Hid _:=hbk;clear hbk;generalize hcb:UInt8.ofNat (x%256)=cb at hcv hL;clear hcb;have w8:IntKind.u8.wrap ((x:Int)%256)=(x:Int)%256:=by rw[IntKind.wrap_u8'];omega
   go_wp2;go_roundw
   case rel=>
    refine⟨j+1,by omega,by go_num,aP (by rw[show n/256^(j+1)=x/256 from E2.out];omega),?_,BI.alloc BI.size _⟩;rw[show Fd.lo n (j+1)=L++ [cb]from hL.out];exact congrArg Value.string (ByteArray.mk_append_mk L [cb])
   case measure=>simp[intOf];omega
  ·have hjk:j=k:=by omega
   subst hjk;go_wp2;go_ret;exact⟨rfl,BI⟩
namespace Fd
def Fine(l:List Int):Prop:=l.length=16∧(-38≤l.getD 0 0∧l.getD 0 0≤65573)∧ ∀i,1≤i→0≤l.getD i 0∧l.getD i 0≤65535
def Norm(l:List Int):Prop:=l.length=16∧ ∀i,0≤l.getD i 0∧l.getD i 0≤65535
theorem Fine.bd{l:List Int}(h:Fine l):Bd 1125899906842624 l:=fun i=>by
 by_cases e:i=0
 ·subst e;have:=h.2.1;omega
 ·have:=h.2.2 i (by omega);omega
theorem Bu(l:List Int)(hl:l.length=16)(h:Bd 1125899906842624 l):Fine (carry l):=by
 have hg:=carry_good l hl h;refine⟨hg.1,hg.2 0,fun i hi=> ?_⟩;have e:carry l=zL (zL l 16) 16:=rfl;rw[e];by_cases h16:i<16
 ·rw[pass_end _ (by rw[AX,hl]) i h16,if_neg (by omega)];omega
 ·rw[getD_ge _ _ (by rw[AX,AX];omega)];omega
theorem pass_norm(l:List Int)(h:Fine l):Norm (zL l 16):=by
 obtain⟨hl,h0,hi⟩:=h;refine⟨by rw[AX,hl],fun i=> ?_⟩;by_cases h16:i<16
 ·rw[pass_end l hl i h16];have key: ∀d,d≤15→(-1≤cy l (1+d)∧cy l (1+d)≤1)∧(cy l (1+d)=1→65536≤l.getD 0 0)∧(cy l (1+d)= -1→l.getD 0 0<0):=fun d=>by
   induction d with
   |zero=>intro _;simp only[cy];omega
   |succ d ih=>
    intro hd;have h1:=ih (by omega);have h2:=hi (1+d) (by omega);have e:cy l (1+(d+1))=(l.getD (1+d) 0+cy l (1+d))/65536:=rfl;rw[e];refine⟨by omega,fun h=>h1.2.1 (by omega),fun h=>h1.2.2 (by omega)⟩
  have k16:=key 15 (by omega);have e16:cy l (1+15)=cy l 16:=rfl;rw[e16]at k16;split
  ·obtain⟨⟨k1,k2⟩,k3,k4⟩:=k16;by_cases c1:cy l 16=1
   ·have:=k3 c1;omega
   ·by_cases c2:cy l 16= -1
    ·have:=k4 c2;omega
    ·omega
  ·omega
 ·rw[getD_ge _ _ (by rw[AX];omega)];omega
theorem Norm.fine{l:List Int}(h:Norm l):Fine l:=⟨h.1,by have:=h.2 0;omega,fun i _=>h.2 i⟩
theorem Bt(l:List Int)(h:Fine l):Norm (carry l):=by
 have h2:=pass_norm l h;have h3:=pass_norm _ h2.fine;have e:carry l=zL (zL l 16) 16:=rfl;rw[e];exact h3
def yf(i:Nat):Int:=if i=0 then 65517 else if i=15 then 32767 else 65535
def bw(a:List Int):Nat→Int
 |0=>0
 |i+1=>(a.getD i 0 - yf i+bw a i)/65536
def wN(a:List Int):Nat→List Int
 |0=>zN
 |i+1=>(wN a i).set i ((a.getD i 0 - yf i+bw a i)%65536)
theorem yu(a:List Int)(k:Nat):(wN a k).length=16:=by
 induction k with
 |zero=>rfl
 |succ k ih=>rw[wN,List.length_set,ih]
def less(a:List Int):List Int:=if bw a 16=0 then wN a 16 else a
theorem pPart_bd(i:Nat):0≤yf i∧yf i≤65535:=by unfold yf;split<;>(try split)<;>omega
theorem bw_bd(a:List Int)(h:Norm a)(i:Nat): -1≤bw a i∧bw a i≤0:=by
 induction i with
 |zero=>simp only[bw];omega
 |succ i ih=>have h1:=h.2 i;have h2:=pPart_bd i;simp only[bw];omega
theorem lessTo_bd(a:List Int)(k:Nat): ∀i,0≤(wN a k).getD i 0∧(wN a k).getD i 0≤65535:=by
 induction k with
 |zero=>intro i;show 0≤(List.replicate 16 (0:Int)).getD i 0∧(List.replicate 16 (0:Int)).getD i 0≤65535;rw[AA];omega
 |succ k ih=>
  intro i;rw[wN];by_cases e:k=i
  ·subst e;by_cases hk:k<16
   ·rw[aw _ _ _ (by rw[yu];omega)];omega
   ·rw[List.set_eq_of_length_le (by rw[yu];omega)];exact ih k
  ·rw[getD_set_ne _ _ _ _ e];exact ih i
theorem less_norm(a:List Int)(h:Norm a):Norm (less a):=by
 unfold less;split
 ·exact⟨yu _ _,lessTo_bd _ _⟩
 ·exact h
def yd(a:List Int):Nat→List UInt8
 |0=> []
 |k+1=>yd a k++lo (a.getD k 0).toNat 2
theorem Ah(a:List Int)(k:Nat):(yd a k).length=2*k:=by
 induction k with
 |zero=>rfl
 |succ k ih=>simp[yd,ih,tV];omega
def told(a:List Int):List UInt8:=yd (less (less (carry (carry a)))) 16
theorem us(a:List Int):(told a).length=32:=Ah _ _
end Fd
def Fd.wX(a:List Int):Nat→List Int
 |0=>a
 |k+1=>Fd.less (Fd.wX a k)
theorem Fd.yh(a:List Int)(h:Fd.Norm a)(k:Nat):Fd.Norm (Fd.wX a k):=by
 induction k with
 |zero=>exact h
 |succ k ih=>exact Fd.less_norm _ ih
theorem eE(a:List Int)(w:World)(ha:a.length=16)(hA:Fd.Bd 1125899906842624 a):
  Rw 87 #[.agg (Ns a)] w (.string ⟨(Fd.told a).toArray⟩):=by
 have hna:=Nz ha;have hz:=bC;have hf1:=Fd.Bu a ha hA;have hn2:=Fd.Bt _ hf1;have HA:Hid (Fd.Bd 1125899906842624 a):=hA;clear hA;have HR:Hid (Fd.told a=Fd.yd (Fd.wX (Fd.carry (Fd.carry a)) 2) 16):=rfl;generalize Fd.told a=R at HR⊢;generalize hr1:Fd.carry a=r1 at hf1 hn2 HR;generalize hr2:Fd.carry r1=r2 at hn2 HR;have HR1:Hid (Fd.carry a=r1):=hr1;have HR2:Hid (Fd.carry r1=r2):=hr2;clear hr1 hr2;have HF1:Hid (Fd.Fine r1):=hf1;have HN2:Hid (Fd.Norm r2):=hn2;have e1:=Nz hf1.1;have e2:=Nz hn2.1;clear hf1 hn2;have hb1:=Blk.new w (Ns a) 59;have g1:=hb1;unfold Blk at g1;have BI:Below w.heap.size w (w.alloc (.cells (Ns a) 59)):=bR.alloc nR _;have tok1:True:=trivial;go_enter Tryz.func87,Tryz.ntmps87;go_wp2_with (first
  |(refine ld t59 rfl rfl w.heap.size rfl g1 hna ?_)
  |(go_at_call 143;have _t:=tok1;refine(dq a _ ha HA.out).mono ?_;rw[show Fd.carry a=r1 from HR1.out];rintro e w2 ⟨rfl,hb2⟩;clear tok1 g1;have hc2:Blk w2 _ _ _:=hb1.keep hb2;have g2:w2.heap[w.heap.size]? =_:=hc2;have BQ:=BI.trans (hb2.mono BI.size);have hc3:=hc2.row (Ns r1);have BT:=below_setRow BQ nR (Ns r1);have g3:(w2.setRow w.heap.size (Ns r1)).heap[w.heap.size]? =_:=hc3)
  |(refine stN rfl rfl w.heap.size rfl rfl g2 e1 hna ?_;clear g2)
  |(refine ld t59 rfl rfl w.heap.size rfl g3 e1 ?_)
  |(go_at_call 143;refine(dq r1 _ HF1.out.1 HF1.out.bd).mono ?_;rw[show Fd.carry r1=r2 from HR2.out];rintro e w4 ⟨rfl,hb4⟩;clear g3;have hc4:Blk w4 _ _ _:=hc3.keep hb4;have g4:w4.heap[w.heap.size]? =_:=hc4;have CD:=BT.trans (hb4.mono BT.size);have hc5:=hc4.row (Ns r2);have B6:=below_setRow CD nR (Ns r2))
  |(refine stN rfl rfl w.heap.size rfl rfl g4 e2 e1 ?_;clear g4))
 generalize w4.setRow w.heap.size (Ns r2)=w5 at hc5 B6⊢;clear hc2 BQ hc3 BT hc4 CD hb1 BI hb2 hb4;go_loopw [3] (fun q wr=> ∃k:Nat,k≤2∧q= .int .i64 k∧Blk wr w.heap.size (Ns (Fd.wX r2 k)) 59∧Below w.heap.size w wr) (fun q _=>2 - (intOf q).toNat)
 case atStart=>exact⟨0,by omega,rfl,hc5,B6⟩
 case round=>
  clear hc5 B6;obtain⟨k,hk,rfl,hb1,BI⟩:=hrel;by_cases hlt:k<2
  ·have i0:(k:Int)<2:=by omega
   have hN:=Fd.yh r2 HN2.out k;have HS:Hid (Fd.wX r2 (k+1)=Fd.less (Fd.wX r2 k)):=rfl;generalize Fd.wX r2 k=m at hb1 hN HS;have HN:Hid (Fd.Norm m):=hN;have em:=Nz hN.1;have hml:=hN.1;clear hN;have hm0:=Blk.new wr (Ns Fd.zN) 59;have hc1:=hb1.alloc (.cells (Ns Fd.zN) 59);have BQ:Below w.heap.size w (wr.alloc (.cells (Ns Fd.zN) 59)):=BI.alloc BI.size _;have hM:=hb1.lt;clear hb1;go_wp2;generalize wr.alloc (.cells (Ns Fd.zN) 59)=w6 at hm0 hc1 BQ⊢;generalize wr.heap.size=M0 at hm0 hM⊢;clear BI;go_loopw [5,6] (fun c q wr=> ∃j:Nat,j≤16∧q= .int .i64 j∧c= .int .i64 (Fd.bw m j)∧Blk wr M0 (Ns (Fd.wN m j)) 59∧Blk wr w.heap.size (Ns m) 59∧Below w.heap.size w wr) (fun _ q _=>16 - (intOf q).toNat)
   case atStart=>exact⟨0,by omega,rfl,rfl,hm0,hc1,BQ⟩
   case round=>
    clear hm0 hc1 BQ;obtain⟨j,hj,rfl,rfl,hm0,hc1,BI⟩:=hrel;by_cases hjt:j<16
    ·have j0:(j:Int)<16:=by omega
     have hcm:=hc1.cell j;rw[bf _ _ (by omega)]at hcm;have Cn:=Fd.yu m j;have hcl:=hm0.cell j;rw[bf _ _ (by omega)]at hcl;have hfl:=hm0.frozen j;have hx:=HN.out.2 j;have hbw:=Fd.bw_bd m HN.out j;have HBW:Hid (Fd.bw m (j+1)=(m.getD j 0 - Fd.yf j+Fd.bw m j)/65536):=rfl;have HLS:Hid (Fd.wN m (j+1)=(Fd.wN m j).set j ((m.getD j 0 - Fd.yf j+Fd.bw m j)%65536)):=rfl;generalize Fd.wN m j=t at hm0 Cn hcl HLS;generalize m.getD j 0=x at hcm hx HBW HLS;generalize Fd.bw m j=c at hbw HBW HLS⊢;have R1:=cC (w:=w) (i:=j) (v:=x - Fd.yf j+c - (x - Fd.yf j+c)/65536*65536) hm0 (by omega) BI;have hpp:(j=0∧Fd.yf j=65517)∨(j=15∧Fd.yf j=32767)∨(j≠0∧j≠15∧Fd.yf j=65535):=by
      unfold Fd.yf;split
      ·left;omega
      ·split
       ·right;left;omega
       ·right;right;omega
     have hmod: ∀y:Int,y - y/65536*65536=y%65536:=fun y=>by omega
     have HMOD:Hid (∀y:Int,y - y/65536*65536=y%65536):=hmod;clear hmod;obtain⟨x1,x2⟩:=hx;obtain⟨c1,c2⟩:=hbw;rcases hpp with ⟨hj0,hp⟩|⟨hj15,hp⟩|⟨hja,hjb,hp⟩
     ·subst hj0;rw[hp]at R1 HBW HLS;clear hp;go_wp2;go_roundw
      case rel=>
       refine⟨1,by omega,by go_num,aP HBW.out.symm,?_,R1.2.1 _ _ _ (by omega) hc1,R1.2.2⟩;rw[show Fd.wN m 1=_ from HLS.out,←HMOD.out];exact R1.1
      case measure=>simp[intOf]
     ·subst hj15;rw[hp]at R1 HBW HLS;clear hp;rw[show ((15:Nat):Int)=15 from rfl];go_wp2;go_roundw
      case rel=>
       refine⟨16,by omega,by go_num,aP HBW.out.symm,?_,R1.2.1 _ _ _ (by omega) hc1,R1.2.2⟩;rw[show Fd.wN m 16=_ from HLS.out,←HMOD.out];exact R1.1
      case measure=>simp[intOf]
     ·rw[hp]at R1 HBW HLS;clear hp;have d1:((j:Int)==0)=false:=by rw[beq_eq_false_iff_ne];omega
      have d2:((j:Int)==15)=false:=by rw[beq_eq_false_iff_ne];omega
      go_wp2;go_roundw
      case rel=>
       refine⟨j+1,by omega,by go_num,aP HBW.out.symm,?_,R1.2.1 _ _ _ (by omega) hc1,R1.2.2⟩;rw[show Fd.wN m (j+1)=_ from HLS.out,←HMOD.out];exact R1.1
      case measure=>simp[intOf];omega
    ·have hj16:j=16:=by omega
     subst hj16;rw[show ((16:Nat):Int)=16 from rfl];have hl0:=Fd.yu m 16;have hbw:=Fd.bw_bd m HN.out 16;have HLE:Hid (Fd.less m=if Fd.bw m 16=0 then Fd.wN m 16 else m):=rfl;generalize Fd.wN m 16=t at hm0 hl0 HLE;generalize Fd.bw m 16=c at hbw HLE⊢;obtain⟨c1,c2⟩:=hbw;have et:=Nz hl0;by_cases hc:c=0
     ·have db:(c==0)=true:=by rw[beq_iff_eq];exact hc
      rw[if_pos hc]at HLE;have HC:Hid _:=hc;clear hc;have g0:=hm0;have g1:=hc1;unfold Blk at g0 g1;go_wp2_with (first
       |(refine ld t59 rfl rfl M0 rfl g0 et ?_)
       |(refine stN rfl rfl w.heap.size rfl rfl g1 et em ?_))
      go_roundw
      case rel=>
       refine⟨k+1,by omega,by go_num,?_,below_setRow BI nR _⟩;rw[show Fd.wX r2 (k+1)=_ from HS.out,show Fd.less m=t from HLE.out];exact hc1.row _
      case measure=>simp[intOf];omega
     ·have db:(c==0)=false:=by rw[beq_eq_false_iff_ne];exact hc
      rw[if_neg hc]at HLE;have HC:Hid _:=hc;clear hc;go_wp2;go_roundw
      case rel=>
       refine⟨k+1,by omega,by go_num,?_,BI⟩;rw[show Fd.wX r2 (k+1)=_ from HS.out,show Fd.less m=m from HLE.out];exact hc1
      case measure=>simp[intOf];omega
  ·have hk2:k=2:=by omega
   subst hk2;rw[show ((2:Nat):Int)=2 from rfl];have hN:=Fd.yh r2 HN2.out 2;generalize Fd.wX r2 2=m at hb1 hN HR;have HN:Hid (Fd.Norm m):=hN;have hml:=hN.1;clear hN;go_wp2;go_loopw [9,10] (fun s q wr=> ∃j:Nat,j≤16∧q= .int .i64 j∧s= .string ⟨(Fd.yd m j).toArray⟩∧Blk wr w.heap.size (Ns m) 59∧Below w.heap.size w wr) (fun _ q _=>16 - (intOf q).toNat)
   case atStart=>exact⟨0,by omega,rfl,rfl,hb1,BI⟩
   case round=>
    clear hb1 BI;obtain⟨j,hj,rfl,rfl,hb1,BI⟩:=hrel;by_cases hjt:j<16
    ·have j0:(j:Int)<16:=by omega
     have hcm:=hb1.cell j;rw[bf _ _ (by omega)]at hcm;have hx:=HN.out.2 j;have HT:Hid (Fd.yd m (j+1)=Fd.yd m j++Fd.lo (m.getD j 0).toNat 2):=rfl;have hl:=Fd.Ah m j;have hlo:=Fd.tV (m.getD j 0).toNat 2;generalize m.getD j 0=x at hcm hx HT hlo;obtain⟨n,rfl⟩:=Int.eq_ofNat_of_zero_le hx.1;rw[Int.toNat_natCast]at HT hlo;have hxn:n≤65535:=by omega
     clear hx;generalize hL:Fd.lo n 2=L at HT hlo;have HL:Hid (Fd.lo n 2=L):=hL;clear hL;generalize Fd.yd m j=o at hl HT⊢;go_wp2_with (go_at_call 75;refine(bP _ _ n 2 rfl rfl (by omega) (by omega) _).mono ?_;rw[show Fd.lo n 2=L from HL.out];rintro e w7 ⟨rfl,hb7⟩);go_roundw
     case rel=>
      refine⟨j+1,by omega,by go_num,?_,hb1.keep hb7,BI.trans (hb7.mono BI.size)⟩;rw[show Fd.yd m (j+1)=o++L from HT.out];exact congrArg Value.string (ByteArray.mk_append_mk o L)
     case measure=>simp[intOf];omega
    ·have hj16:j=16:=by omega
     subst hj16;go_wp2;go_ret;exact⟨by rw[show R=_ from HR.out];rfl,BI⟩
def byt(s:ByteArray)(i:Nat):Int:=((s.data.toList.getD i 0).toNat:Int)
theorem dL(s:ByteArray)(i:Nat):0≤byt s i∧byt s i≤255:=by
 unfold byt;have:=(s.data.toList.getD i 0).toNat_lt;omega
theorem r9(s:ByteArray)(i:Nat)(h:i<s.size):((s[i]).toNat:Int)=byt s i:=by
 unfold byt;have h2:i<s.data.toList.length:=by simpa using h
 simp[List.getD,List.getElem?_eq_getElem h2];rfl
theorem bl(s:ByteArray)(i:Int)(n:Nat)(h0:0≤i)(hi:i.toNat=n)(h:n<s.size)(w:World):
  (Instr.index 9 (.string s) (.int .i64 i)).run Tryz.prog w= .ok (.int .u8 (byt s n)) w:=by
 have h2:s[n]? =some s[n]:=by rw[getElem?_pos s n h]
 rw[←r9 s n h];simp[Instr.index,asIntOf,run_underlying Tryz.underlying9,h0,hi,h2]
namespace Fd
def yg(s:ByteArray):Nat→List Int
 |0=>zN
 |k+1=>(yg s k).set k (byt s (2*k)+256*byt s (2*k+1))
theorem yL(s:ByteArray)(k:Nat):(yg s k).length=16:=by
 induction k with
 |zero=>rfl
 |succ k ih=>rw[yg,List.length_set,ih]
def num(s:ByteArray):List Int:=(yg s 16).set 15 ((yg s 16).getD 15 0%32768)
theorem numTo_bd(s:ByteArray)(k:Nat): ∀i,0≤(yg s k).getD i 0∧(yg s k).getD i 0≤65535:=by
 induction k with
 |zero=>intro i;show 0≤(List.replicate 16 (0:Int)).getD i 0∧(List.replicate 16 (0:Int)).getD i 0≤65535;rw[AA];omega
 |succ k ih=>
  intro i;rw[yg];by_cases e:k=i
  ·subst e;by_cases hk:k<16
   ·rw[aw _ _ _ (by rw[yL];omega)];have h1:=dL s (2*k);have h2:=dL s (2*k+1);omega
   ·rw[List.set_eq_of_length_le (by rw[yL];omega)];exact ih k
  ·rw[getD_set_ne _ _ _ _ e];exact ih i
theorem zc(s:ByteArray):Norm (num s):=⟨by unfold num;rw[List.length_set,yL],fun i=>by
 unfold num;by_cases e:15=i
 ·subst e;rw[aw _ _ _ (by rw[yL];omega)];omega
 ·rw[getD_set_ne _ _ _ _ e];exact numTo_bd s 16 i⟩
theorem Norm.good{l:List Int}(h:Norm l):Good l:=⟨h.1,fun i=>by have:=h.2 i;omega⟩
end Fd
theorem gZ(s:ByteArray)(w:World)(hs:s.size=32):
  Rw 139 #[.string s] w (.agg (Ns (Fd.num s))):=by
 have hz:=bC;have hn:=Fd.zc s;have eR:=Nz hn.1;clear hn;have HR:Hid (Fd.num s=(Fd.yg s 16).set 15 ((Fd.yg s 16).getD 15 0%32768)):=rfl;generalize Fd.num s=R at HR eR⊢;have hb1:Blk ((w.alloc (.cells (Ns Fd.zN) 59)).alloc (.cells (Ns Fd.zN) 59)) w.heap.size (Ns Fd.zN) 59:=heap_alloc2_old w _ _;have hb2:Blk ((w.alloc (.cells (Ns Fd.zN) 59)).alloc (.cells (Ns Fd.zN) 59)) (w.heap.size+1) (Ns Fd.zN) 59:=heap_alloc2_new w _ _;have BI:Below w.heap.size w ((w.alloc (.cells (Ns Fd.zN) 59)).alloc (.cells (Ns Fd.zN) 59)):=(bR.alloc nR _).alloc (by simp) _;go_enter Tryz.func139,Tryz.ntmps139;go_wp2;generalize (w.alloc (.cells (Ns Fd.zN) 59)).alloc (.cells (Ns Fd.zN) 59)=w1 at hb1 hb2 BI⊢;go_loopw [4] (fun q wr=> ∃k:Nat,k≤16∧q= .int .i64 k∧Blk wr (w.heap.size+1) (Ns (Fd.yg s k)) 59∧Blk wr w.heap.size (Ns Fd.zN) 59∧Below w.heap.size w wr) (fun q _=>16 - (intOf q).toNat)
 case atStart=>exact⟨0,by omega,rfl,hb2,hb1,BI⟩
 case round=>
  clear hb1 hb2 BI;obtain⟨k,hk,rfl,hb2,hb1,BI⟩:=hrel;by_cases hlt:k<16
  ·have i0:(k:Int)<16:=by omega
   have hl:=Fd.yL s k;have hc:=hb2.cell k;rw[bf _ _ (by omega)]at hc;have hf:=hb2.frozen k;have HS:Hid (Fd.yg s (k+1)=(Fd.yg s k).set k (byt s (2*k)+256*byt s (2*k+1))):=rfl;generalize Fd.yg s k=t at hb2 hl hc HS;have hs1:2*k<s.size:=by omega
   have hs2:2*k+1<s.size:=by omega
   have w3':(2*(k:Int)).toNat=2*k:=by omega
   have w4':(2*(k:Int)+1).toNat=2*k+1:=by omega
   have hix1:=bl s (2*(k:Int)) (2*k) (by omega) w3' hs1;have hix2:=bl s (2*(k:Int)+1) (2*k+1) (by omega) w4' hs2;have y1:=dL s (2*k);have y2:=dL s (2*k+1);have R1:=cC (w:=w) (i:=k) (v:=byt s (2*k)+256*byt s (2*k+1)) hb2 (by omega) BI;generalize byt s (2*k)=x1 at hix1 y1 R1 HS;generalize byt s (2*k+1)=x2 at hix2 y2 R1 HS;obtain⟨y1a,y1b⟩:=y1;obtain⟨y2a,y2b⟩:=y2;have w1':IntKind.i64.wrap (2*(k:Int))=2*(k:Int):=by rw[IntKind.wrap_i64];omega
   have w2':IntKind.i64.wrap (2*(k:Int)+1)=2*(k:Int)+1:=by rw[IntKind.wrap_i64];omega
   have w5':IntKind.i64.wrap x1=x1:=by rw[IntKind.wrap_i64];omega
   have w6':IntKind.i64.wrap x2=x2:=by rw[IntKind.wrap_i64];omega
   have w7':IntKind.i64.wrap (256*x2)=256*x2:=by rw[IntKind.wrap_i64];omega
   have w8':IntKind.i64.wrap (x1+256*x2)=x1+256*x2:=by rw[IntKind.wrap_i64];omega
   go_wp2_with fail;go_region
   all_goals
    go_wp2;go_roundw
    case rel=>
     refine⟨k+1,by omega,by go_num,?_,R1.2.1 _ _ _ (by omega) hb1,R1.2.2.drew⟩;rw[show Fd.yg s (k+1)=_ from HS.out];exact R1.1
    case measure=>simp[intOf];omega
  ·have BZ:k=16:=by omega
   subst BZ;have hl:=Fd.yL s 16;have hc:=hb2.cell 15;rw[bf _ _ (by omega)]at hc;have hf:=hb2.frozen 15;have hbd:=Fd.numTo_bd s 16 15;generalize Fd.yg s 16=t at hb2 hl hc HR hbd;generalize t.getD 15 0=x at hc HR hbd;obtain⟨hx0,hx1⟩:=hbd;have R1:=cC (w:=w) (i:=15) (v:=x%32768) hb2 (by omega) BI;rw[←show R=_ from HR.out]at R1;have h1':=R1.2.1 _ _ _ (by omega) hb1;have g0:(wr.setCell ⟨w.heap.size+1,15,none⟩ (.int .i64 (x%32768))).heap[w.heap.size+1]? =_:=R1.1;have g1:(wr.setCell ⟨w.heap.size+1,15,none⟩ (.int .i64 (x%32768))).heap[w.heap.size]? =_:=h1';have RR:Hid _:=R1;clear R1;go_wp2_with (first
    |(refine ldN rfl rfl (w.heap.size+1) rfl g0 eR ?_)
    |(refine stN rfl rfl w.heap.size rfl rfl g1 eR rfl ?_))
   refine bodyPost_ret (v:= .agg (Ns R)) ?_ rfl ⟨rfl,below_setRow RR.out.2.2 nR _⟩;exact rr t59 rfl rfl (h1'.row _) eR
theorem qv(a:List Int)(w:World)(ha:a.length=16)(hA:Fd.Bd 1125899906842624 a):
  Calls Tryz.prog 88 #[.agg (Ns a)] w fun e w'=> ∃b:Bool,e= .returned (.bool b)∧b=((((Fd.told a).getD 0 0).toNat:Int)%2==1)∧Below w.heap.size w w':=by
 have hna:=Nz ha;have g1:(w.alloc (.cells (Ns a) 59)).heap[w.heap.size]? =_:=Blk.new w (Ns a) 59;have BI:Below w.heap.size w (w.alloc (.cells (Ns a) 59)):=bR.alloc nR _;have HA:Hid (Fd.Bd 1125899906842624 a):=hA;clear hA;have hl:=Fd.us a;have hix:=bl ⟨(Fd.told a).toArray⟩ 0 0 (by omega) rfl (by show 0<(Fd.told a).toArray.size;simp[hl]);have hy:=dL ⟨(Fd.told a).toArray⟩ 0;have HB:Hid (byt ⟨(Fd.told a).toArray⟩ 0=(((Fd.told a).getD 0 0).toNat:Int)):=rfl;generalize byt ⟨(Fd.told a).toArray⟩ 0=x at hix hy HB;obtain⟨y1,y2⟩:=hy;go_enter Tryz.func88,Tryz.ntmps88;go_wp2_with (first
  |(refine ld t59 rfl rfl w.heap.size rfl g1 hna ?_)
  |(go_at_call 87;refine(eE a _ ha HA.out).mono ?_;rintro e w2 ⟨rfl,hb2⟩))
 go_ret;exact⟨_,rfl,by rw[←show x=_ from HB.out],BI.trans (hb2.mono BI.size)⟩
theorem oC(a b:List Int)(w:World)(ha:a.length=16)(hA:Fd.Bd 1125899906842624 a)(hb:b.length=16)(hB:Fd.Bd 1125899906842624 b):
  Calls Tryz.prog 146 #[.agg (Ns a),.agg (Ns b)] w fun e w'=> ∃q:Bool,e= .returned (.bool q)∧(q=true↔Fd.told a=Fd.told b)∧Below w.heap.size w w':=by
 have hna:=Nz ha;have hnb:=Nz hb;have h1:Blk ((w.alloc (.cells (Ns a) 59)).alloc (.cells (Ns b) 59)) w.heap.size (Ns a) 59:=heap_alloc2_old w _ _;have h2:Blk ((w.alloc (.cells (Ns a) 59)).alloc (.cells (Ns b) 59)) (w.heap.size+1) (Ns b) 59:=heap_alloc2_new w _ _;have BI:Below w.heap.size w ((w.alloc (.cells (Ns a) 59)).alloc (.cells (Ns b) 59)):=(bR.alloc nR _).alloc (by simp) _;have g1:=h1;unfold Blk at g1;have HA:Hid (Fd.Bd 1125899906842624 a):=hA;have HB:Hid (Fd.Bd 1125899906842624 b):=hB;clear hA hB;have tok1:True:=trivial;go_enter Tryz.func146,Tryz.ntmps146;go_wp2_with (first
  |(refine ld t59 rfl rfl w.heap.size rfl g1 hna ?_)
  |(go_at_call 87;have _t:=tok1;refine(eE a _ ha HA.out).mono ?_;rintro e w2 ⟨rfl,hb2⟩;clear tok1 g1;have g2:w2.heap[w.heap.size+1]? =_:=h2.keep hb2;have BQ:=BI.trans (hb2.mono BI.size))
  |(refine ldN rfl rfl (w.heap.size+1) rfl g2 hnb ?_)
  |(go_at_call 87;refine(eE b _ hb HB.out).mono ?_;rintro e w3 ⟨rfl,hb3⟩))
 go_ret;refine⟨_,rfl,?_,BQ.trans (hb3.mono BQ.size)⟩;simp
theorem kI: ∀n:Fin 256,bits BinOp.and IntKind.i64 ((n.val:Nat):Int) 1=((n.val:Nat):Int)%2:=by decide+kernel
theorem kH(y:Int)(h0:0≤y)(h1:y≤255):bits BinOp.and IntKind.i64 y 1=y%2:=by
 obtain⟨n,rfl⟩:=Int.eq_ofNat_of_zero_le h0;exact kI ⟨n,by omega⟩
theorem fP(s:ByteArray)(i:Nat)(w:World)(hi:i<8*s.size)(hs:s.size≤1000000):
  Calls Tryz.prog 83 #[.string s,.int .i64 i] w fun e w'=>e= .returned (.int .i64 (byt s (i/8)/2^(i%8)%2))∧w'=w:=by
 have h1:i/8<s.size:=by omega
 have hix:=bl s ((i:Int)/8) (i/8) (by omega) (by omega) h1;have hy:=dL s (i/8);generalize byt s (i/8)=x at hix hy;obtain⟨y1,y2⟩:=hy;have w5':IntKind.i64.wrap x=x:=by rw[IntKind.wrap_i64];omega
 go_enter Tryz.func83,Tryz.ntmps83;go_wp2;go_ret;exact⟨bZ (kH _ (Int.ediv_nonneg y1 (Int.le_of_lt (Int.pow_pos (by decide)))) (Int.le_trans (Int.ediv_le_self _ y1) y2)),rfl⟩
end Go.Proofs.YtclpbaokadfhhaaGreatDoor
