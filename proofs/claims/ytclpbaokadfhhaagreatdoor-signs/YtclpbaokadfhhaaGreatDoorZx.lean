import Derived.Test.YtclpbaokadfhhaaGreatDoorXm
import Derived.Deep.AppendSrc
import Derived.Lib.AppendZeros
import Derived.Test.YtclpbaokadfhhaaGreatDoorZw
import Derived.Deep.DeepCutAuto
set_option maxRecDepth 100000
set_option maxHeartbeats 4000000
namespace Go.Proofs.YtclpbaokadfhhaaGreatDoor
open Go.RowKit
theorem iy{w:World}{base:Nat}{v:Value}{l:List UInt8}(h:OwnB w base v l)(x:UInt8)(g1:Nat)(hx:w.cell? ⟨g1,0,none⟩=some (.int .u8 (x.toNat:Int)))(hb:base≤w.heap.size)(hl:l.length<1000000000):
  ∃v' w',(Builtin.append_ #[55,55] 55 #[v,.slice (some ⟨g1,0,none⟩) 1 1]).run Tryz.prog w= .ok v' w'∧OwnB w' base v' (l++ [x])∧Below base w w':=by
 obtain⟨i,hi,hzz⟩:=Option.map_eq_some_iff.1 Tryz.infoByte;simp only[Prod.mk.injEq]at hzz;obtain⟨hz,hs,hby⟩:=hzz;obtain⟨g,cap,cur,fz,rfl,hg,hh,hfz,hcap,hlc,ht⟩:=h;have Cw: ∀u∈ [Value.int .u8 (x.toNat:Int)],u.oneCell'=true:=by intro u hu;simp at hu;subst hu;rfl
 have hsrc:Src Tryz.prog i.size 55 (.slice (some ⟨g1,0,none⟩) 1 1) 1 [Value.int .u8 (x.toNat:Int)] w:=by
  rw[hs];refine Src.ofSlice w Tryz.underlying55 _ 1 1 _ rfl ?_ Cw;intro j u hu;match j,hu with
  |0,hu=>simp at hu;subst hu;simpa [Addr.add]using hx
 by_cases hroom:l.length+1≤cap
 ·have hc:w.cell? ⟨g,l.length,none⟩=cur[l.length]? :=cell_of_row w g _ cur _ fz hh;have hlt:l.length<cur.size:=by omega
  have hf:w.frozen? ⟨g,l.length,none⟩=false:=by
   simp only[World.frozen?,hh];rcases hfz with rfl|hfz
   ·simp
   ·simp;omega
  have hr:=run_append_room_src (P:=Tryz.prog) w 55 55 55 5 i Tryz.underlying55 hi g 0 l.length cap _ 1 _ hsrc hroom
   (by intro j hj;match j,hj with|0,_=>rw[hs];simp[hc,hlt])
   (by intro j hj;match j,hj with|0,_=>rw[hs];simpa using hf)
  refine⟨_,_,hr,?_,?_⟩
  ·rw[hs];have he:w.setCells g (0+l.length*1) [Value.int .u8 (x.toNat:Int)]=w.setRow g (cur.setIfInBounds l.length (.int .u8 (x.toNat:Int))):=by
    simp only[World.setCells,Nat.zero_add,Nat.mul_one];exact setCell_eq_setRow w g _ cur _ fz _ hh
   rw[he];refine⟨g,cap,_,fz,by simp,hg,setRow_heap w g cur _ _ fz hh,by simpa using hfz,by simp[hcap],by simp;omega,?_⟩;apply List.ext_getElem?
   intro j;rw[List.length_append,List.length_singleton,List.getElem?_take];by_cases hj:j<l.length+1
   ·rw[if_pos hj];by_cases hj2:j=l.length
    ·subst hj2;simp[Bs,hlt]
    ·have hj3:j<l.length:=by omega
     have h2:(cur.toList.take l.length)[j]? =(Bs l)[j]? :=by rw[ht];simp
     rw[List.getElem?_take_of_lt hj3]at h2;have h3:(Bs (l++ [x]))[j]? =(Bs l)[j]? :=by rw[fF,fF,List.getElem?_append_left hj3]
     simp only[Array.toList_setIfInBounds,List.getElem?_set];rw[if_neg (by omega)];rw[show (Bs (l++ [x])).toList[j]? =(Bs (l++ [x]))[j]? by simp,h3,←h2]
   ·rw[if_neg hj];simp[Bs];omega
  ·rw[hs];simp only[World.setCells,Nat.zero_add,Nat.mul_one];exact bR.setCell hg _
 ·have hold:(Builtin.firstCells i.size l.length (.slice (some ⟨g,0,none⟩) l.length cap)).run Tryz.prog w.drew= .ok (Bs l).toList.toArray w.drew:=by
   rw[hs];refine run_firstCells_some w.drew 1 l.length _ l.length cap _ (by simp[Bs]) ?_;intro j u hu;have hj:j<l.length:=by
    have:=(List.getElem?_eq_some_iff.1 hu).1;simpa [Bs]using this
   have Cs:(⟨g,0,none⟩:Addr).add j=⟨g,j,none⟩:=by unfold Addr.add;split<;>simp_all
   rw[Cs];have h2:(cur.toList.take l.length)[j]? =(Bs l).toList[j]? :=by rw[ht]
   rw[List.getElem?_take_of_lt hj,hu]at h2;show w.cell? _=_
   rw[cell_of_row w g j cur _ fz hh];simpa using h2
  have hr:=run_append_grow_src (P:=Tryz.prog) w 55 55 55 5 i _ Tryz.underlying55 hi hz (some ⟨g,0,none⟩) l.length cap (Bs l).toList hold _ 1 _ hsrc (by omega) (by omega)
   (by rw[hby];exact growslice_fits (by omega) (by omega))
  refine⟨_,_,hr,?_,bR.drew.alloc hb _⟩;have hge:=grownCap_ge w (l.length+1) cap 5;refine⟨w.heap.size,grownCap w (l.length+1) cap 5,_,(0,0),by simp,hb,heap_alloc_new w.drew _,.inl rfl,?_,by simpa using hge,?_⟩
  ·simp[Bs,Builtin.zeroCells,Value.cells];omega
  ·have e1:(l++ [x]).length=l.length+1:=by simp
   have e2:((Bs l).toList++ [Value.int IntKind.u8 (x.toNat:Int)]).length=l.length+1:=by simp[Bs]
   rw[e1,Array.toList_append,List.take_append_of_le_length (Nat.le_of_eq e2.symm),List.take_of_length_le (Nat.le_of_eq e2)];simp[Bs]
theorem jF(l:List UInt8)(off:Nat)(x:BitVec 64)(k:Nat)(h:off+k≤l.length):Sha.put l off x k=l.take off++Sha.be x k++l.drop (off+k):=by
 induction k with
 |zero=>simp[Sha.put,Sha.be]
 |succ k ih=>
  have hl:(l.take off++Sha.be x k).length=off+k:=by simp[Sha.uM];omega
  rw[Sha.put,ih (by omega),List.set_append,if_neg (by omega),hl,Nat.sub_self,List.drop_eq_getElem_cons (by omega),List.set_cons_zero,Sha.be];simp[Nat.add_assoc]
def Ref.k0(n:Nat):Nat:=Sha.tW n - n - 17
theorem cW(a b:Nat):ag (a+b)=ag a++ag b:=by simp[ag]
theorem gS(a b:Nat):(ag b).drop a=ag (b - a):=by simp[ag]
theorem rL(l:List UInt8)(h:l.length<1000000000):Sha.pad l=l++ [128]++ag (Ref.k0 l.length)++Sha.be 0 8++Sha.be (BitVec.ofNat 64 (8*l.length)) 8:=by
 have hp:=Sha.uZ l.length;have e0:Sha.tW l.length=l.length+17+Ref.k0 l.length:=by unfold Ref.k0;omega
 have e1:Sha.zE l=(l++ [128]++ag (Ref.k0 l.length))++ag 16:=by
  unfold Sha.zE;rw[List.set_append,if_neg (by omega),Nat.sub_self,e0,show l.length+17+Ref.k0 l.length - l.length=1+(Ref.k0 l.length+16) by omega,cW 1,cW];simp[ag]
 have hL:(l++ [128]++ag (Ref.k0 l.length)).length=Sha.tW l.length - 16:=by simp[aG];omega
 have c1:BitVec.ofNat 64 l.length>>>61=0:=by
  apply BitVec.eq_of_toNat_eq
  rw[BitVec.toNat_ushiftRight,BitVec.toNat_ofNat,Nat.mod_eq_of_lt (by omega),Nat.shiftRight_eq_div_pow];simp;omega
 have c2:BitVec.ofNat 64 l.length<<<3=BitVec.ofNat 64 (8*l.length):=by
  apply BitVec.eq_of_toNat_eq
  rw[BitVec.toNat_shiftLeft,BitVec.toNat_ofNat,BitVec.toNat_ofNat,Nat.shiftLeft_eq];omega
 unfold Sha.pad;rw[c1,c2,e1];generalize l++ [128]++ag (Ref.k0 l.length)=L at hL;generalize BitVec.ofNat 64 (8*l.length)=X;have hz:(L++ag 16).length=Sha.tW l.length:=by simp[aG];omega
 rw[jF _ _ X 8 (by rw[Sha.put_length];omega),jF _ _ _ 8 (by omega)];have g1:List.take (Sha.tW l.length - 16) (L++ag 16)=L:=by rw[List.take_append_of_le_length (by omega),List.take_of_length_le (by omega)]
 have g2:List.drop (Sha.tW l.length - 16+8) (L++ag 16)=ag 8:=by
  rw[List.drop_append,List.drop_of_length_le (by omega),gS,hL,List.nil_append];congr 1;omega
 rw[g1,g2];have hLb:(L++Sha.be 0 8).length=Sha.tW l.length - 8:=by simp[Sha.uM];omega
 have g3:List.take (Sha.tW l.length - 8) (L++Sha.be 0 8++ag 8)=L++Sha.be 0 8:=by rw[List.take_append_of_le_length (by omega),List.take_of_length_le (by omega)]
 have g4:List.drop (Sha.tW l.length - 8+8) (L++Sha.be 0 8++ag 8)= []:=by
  apply List.drop_of_length_le;simp[Sha.uM,aG];omega
 rw[g3,g4,List.append_nil]
def Ref.tell(s:Sha.St):Nat→List UInt8
 |0=> []
 |k+1=>Ref.tell s k++Sha.be (s.list.getD k 0) 8
theorem Ref.tell_length(s:Sha.St)(k:Nat):(Ref.tell s k).length=8*k:=by
 induction k with
 |zero=>rfl
 |succ k ih=>simp only[Ref.tell,List.length_append,ih,Sha.uM];omega
theorem pT(s:Sha.St)(k:Nat)(hk:k≤8):Sha.tellTo s k=Ref.tell s k++ag (64 - 8*k):=by
 induction k with
 |zero=>rfl
 |succ k ih=>
  have hl:=Ref.tell_length s k;rw[Sha.tellTo,ih (by omega),jF _ _ _ 8 (by simp[hl,aG];omega),List.take_append_of_le_length (by omega),List.take_of_length_le (by omega),List.drop_append,List.drop_of_length_le (by omega),gS,hl,List.nil_append,Ref.tell];congr 2
  omega
theorem ou(s:Sha.St):Sha.tellTo s 8=Ref.tell s 8:=by rw[pT s 8 (by omega)];simp[ag]
theorem OwnB.string{w:World}{base g n cap:Nat}{l:List UInt8}(h:OwnB w base (.slice (some ⟨g,0,none⟩) n cap) l)(hn:n=l.length):
  (convert 55 9 (.slice (some ⟨g,0,none⟩) n cap)).run Tryz.prog w= .ok (.string ⟨l.toArray⟩) w:=by
 subst hn;refine run_convert_bytes_back w _ _ 5 _ cap l Tryz.underlying55 Tryz.underlying5 Tryz.underlying9 ?_;intro j hj;have:(⟨g,0,none⟩:Addr).add j=⟨g,j,none⟩:=by unfold Addr.add;split<;>simp_all
 rw[this,h.cell j hj];simp[List.getD,List.getElem?_eq_getElem hj]
theorem nM(L:List UInt8)(a b:List UInt8):((⟨L.toArray⟩++⟨a.toArray⟩++⟨b.toArray⟩:ByteArray)).data.toList=L++a++b:=by
 rw[ByteArray.mk_append_mk,ByteArray.mk_append_mk]
theorem nA(v:Int)(x:BitVec 64)(hv:v=U x)(w:World):
  Rw 76 #[.int .u64 v] w (.string ⟨(Sha.be x 8).toArray⟩):=by
 subst hv;exact kC x w
theorem fk(v:Int)(x:BitVec 64)(hv:v=U x)(l:List UInt8)(hl:Hid (Sha.be x 8=l))(w:World):
  Rw 76 #[.int .u64 v] w (.string ⟨l.toArray⟩):=by
 rw[←hl.out];exact nA v x hv w
theorem OwnB.keep{w w':World}{base:Nat}{v:Value}{l:List UInt8}(h:OwnB w base v l)(hb:Below w.heap.size w w'):OwnB w' base v l:=h.below hb nR
theorem ni(F G:Nat→BitVec 64)(h: ∀t,t<16→F t=G t)(t:Nat):Sha.sch F t=Sha.sch G t:=by
 induction t using Nat.strongRecOn with
 |_ t ih=>
  by_cases h16:t<16
  ·rw[Sha.yG _ _ h16,Sha.yG _ _ h16,h t h16]
  ·rw[Sha.yH F t (by omega),Sha.yH G t (by omega),ih (t - 2) (by omega),ih (t - 7) (by omega),ih (t - 15) (by omega),ih (t - 16) (by omega)]
theorem mj(K:Nat→BitVec 64)(s:Sha.St)(f g:Nat→UInt8)(h: ∀i,i<128→f i=g i):Sha.wZ K s f=Sha.wZ K s g:=by
 have e:(Sha.sch fun t=>Sha.wd (fun i=>f (8*t+i)) 8)=(Sha.sch fun t=>Sha.wd (fun i=>g (8*t+i)) 8):=by
  funext t
  exact ni _ _ (fun t ht=>jv _ _ _ (fun i hi=>h _ (by omega))) t
 unfold Sha.wZ;rw[e]
theorem qz(st:Sha.St)(s:ByteArray)(f:Nat→UInt8)(kb:Nat)(w:World)(hs:s.size=128)(hf:Hid (∀i,i<128→s.data.toList.getD i 0=f i))(hk:Blk w kb (Ws Sha.rootsW) 67):
  Calls Tryz.prog 78 #[.agg #[.int .u64 (U st.a),.int .u64 (U st.b),.int .u64 (U st.c),.int .u64 (U st.d),.int .u64 (U st.e),.int .u64 (U st.f),.int .u64 (U st.g),.int .u64 (U st.h)],.string s,.slice (some ⟨kb,0,none⟩) 80 80] w fun e w'=>
   e= .returned (.agg (Ws (Sha.wZ Sha.K st f).list))∧Below w.heap.size w w':=by
 rw[←mj Sha.K st _ f hf.out];exact nu st s kb w hs (fun i hi=>by rw[hk.cell i];exact Sha.zD i hi)
theorem aT(s:ByteArray)(w:World)(hs:s.size≤1000000):
  Rw 36 #[.string s] w (.string (Sha.OfB Sha.K s)):=by
 obtain⟨cap0,w1,hcv,BV,hb1⟩:=bytesOf s w.heap.size w nR;have hlen:s.data.toList.length=s.size:=by simp
 have hx1: ∀o,(w1.alloc (.cells #[.int .u8 128] o)).cell? ⟨w1.heap.size,0,none⟩=some (.int .u8 (((128:UInt8).toNat:Nat):Int)):=fun o=>by
  rw[(Blk.new w1 #[.int .u8 128] o).cell 0];rfl
 obtain⟨v2,w2,hap,hown2,hb2⟩:=iy (BV.below ((Below.refl w1.heap.size w1).alloc nR (.cells #[.int .u8 128] 5)) nR) 128 w1.heap.size (hx1 _) (by simp;have:=hb1.size;omega) (by omega);have BI:Below w.heap.size w w2:=(hb1.alloc hb1.size _).trans hb2;have HAP:Hid _:=hap;clear hap;have hk0:s.size+1+Ref.k0 s.size≤2000000∧(s.size+1+Ref.k0 s.size)%128=112∧Ref.k0 s.size<128:=by
  have:=Sha.uZ s.size;unfold Ref.k0;omega
 have HD:Hid (Sha.OfB Sha.K s=⟨(Ref.tell (Sha.wY Sha.K (s.data.toList++ [128]++ag (Ref.k0 s.size)++Sha.be 0 8++Sha.be (BitVec.ofNat 64 (8*s.size)) 8) ((s.size+17+Ref.k0 s.size)/128)) 8).toArray⟩):=by
  show _=_
  have hp:=rL s.data.toList (by omega);have hp2:=Sha.uZ s.size;rw[hlen]at hp;unfold Sha.OfB Sha.digest;rw[ou,←hp,Sha.xR,hlen,show Sha.tW s.size=s.size+17+Ref.k0 s.size by unfold Ref.k0;omega]
 generalize Sha.OfB Sha.K s=D at HD⊢;generalize Ref.k0 s.size=k0 at hk0 HD;obtain⟨hk1,hk2,hk3⟩:=hk0;have z0:s.data.toList++ [128]=s.data.toList++ [128]++ag 0:=by simp[ag]
 rw[z0]at hown2;clear z0 BV hx1;go_enter Tryz.func36,Tryz.ntmps36;go_wp2_with (at_builtin;refine Lib.wpList_append_run _ rfl _ _ _ _ rfl _ _ rfl rfl _ _ HAP.out ?_);clear hcv HAP;go_loopw [4] (fun v wr=> ∃k:Nat,k≤k0∧OwnB wr w.heap.size v (s.data.toList++ [128]++ag k)∧Below w.heap.size w wr) (fun v _=>s.size+1+k0 - bI v)
 case atStart=>exact⟨0,by omega,hown2,BI⟩
 case round=>
  clear hown2 BI hb1 hb2;obtain⟨k,hk,BV,BI⟩:=hrel;have hm:(s.data.toList++ [128]++ag k).length=s.size+1+k:=by simp[aG];omega
  have hown':=BV;obtain⟨g,cap,cur,fz,rfl,hg,hh,hfz,hcap,hlc,ht⟩:=hown';clear hh hfz hcap hlc ht;rw[hm]at BV⊢;by_cases hlt:k<k0
  ·have d1:(((s.size+1+k:Nat):Int)%128 !=112)=true:=by rw[bne_iff_ne];omega
   have hx2:(wr.alloc (.cells #[.int .u8 0] 5)).cell? ⟨wr.heap.size,0,none⟩=some (.int .u8 (((0:UInt8).toNat:Nat):Int)):=by
    rw[(Blk.new wr #[.int .u8 0] 5).cell 0];rfl
   obtain⟨v3,w3,hap,hown3,hb3⟩:=iy (BV.below ((Below.refl wr.heap.size wr).alloc nR (.cells #[.int .u8 0] 5)) nR) 0 wr.heap.size hx2 (by simp;have:=BI.size;omega) (by omega);have HAP:Hid _:=hap;clear hap;have hz:s.data.toList++ [128]++ag k++ [0]=s.data.toList++ [128]++ag (k+1):=by rw[cW k 1];simp[ag]
   rw[hz]at hown3;clear hz;have BT:Below w.heap.size w w3:=(BI.alloc BI.size _).trans hb3;have hl3:bI v3=s.size+1+(k+1):=by
    obtain⟨_,_,_,_,rfl,_⟩:=hown3;simp[bI,aG];omega
   generalize hmm:s.size+1+k=m at d1 HAP hm BV;have HMM:Hid _:=hmm;clear hmm;go_wp2_with (at_builtin;refine Lib.wpList_append_run _ rfl _ _ _ _ rfl _ _ rfl rfl _ _ HAP.out ?_);go_roundw
   case rel=>exact⟨k+1,by omega,hown3,BT⟩
   case measure=>rw[hl3];simp only[bI];have:=HMM.out;omega
  ·have hkk:k=k0:=by omega
   subst hkk;have d1:(((s.size+1+k:Nat):Int)%128 !=112)=false:=by rw[bne_eq_false_iff_eq];omega
   generalize s.data.toList++ [128]++ag k=L at hm BV HD;generalize hmm:s.size+1+k=m at d1 hm BV;have HMM:Hid _:=hmm;clear hmm;have h8:8*(s.size:Int)=U (BitVec.ofNat 64 (8*s.size)):=by rw[←dz (8*s.size) (by omega)];omega
   have H8:Hid _:=h8;clear h8;have HLA:Hid _:=nM L (Sha.be 0 8) (Sha.be (BitVec.ofNat 64 (8*s.size)) 8);generalize BitVec.ofNat 64 (8*s.size)=X at H8 HD HLA;have hcv0:(convert 55 9 (.slice (some ⟨g,0,none⟩) m cap)).run Tryz.prog wr.drew= .ok (.string ⟨L.toArray⟩) wr.drew:=OwnB.string (w:=wr.drew) BV hm.symm;have hB0:=Sha.uM 0 8;have hBX:=Sha.uM X 8;generalize he0:Sha.be 0 8=b0 at hB0 HLA HD;generalize heX:Sha.be X 8=bX at hBX HLA HD;have HE0:Hid (Sha.be 0 8=b0):=he0;have HEX:Hid (Sha.be X 8=bX):=heX;clear he0 heX;have hm2:m≤2000000:=by have:=HMM.out;omega
   have H8':Hid (IntKind.u64.wrap (8*IntKind.u64.wrap (s.size:Int))=U X):=by
    show _=_
    rw[IntKind.wrap_u64,IntKind.wrap_u64,←show 8*(s.size:Int)=U X from H8.out];omega
   go_wp2_with fail;go_cut [5] (fun v wc=>v= .string (⟨L.toArray⟩++⟨b0.toArray⟩++⟨bX.toArray⟩)∧Below w.heap.size w wc)
   case first=>
    go_region_with (first
     |(go_at_call_of 76 (Value.int IntKind.u64 0);refine(fk _ 0 rfl b0 HE0 _).mono ?_;rintro e w2 ⟨rfl,hb2⟩;have ho2:OwnB w2 _ _ _:=OwnB.keep (w:=wr.drew) BV hb2;have hcv2:=OwnB.string ho2 hm.symm)
     |(go_at_call 76;refine(fk _ X ?_ bX HEX _).mono ?_;(first|exact H8.out|exact H8'.out);rintro e w3 ⟨rfl,hb3⟩;have hcv3:=OwnB.string (OwnB.keep ho2 hb3) hm.symm))
    all_goals
     go_wp2_with fail;go_meet
     case rel=>
      refine⟨rfl,?_⟩;have hq:=Below.trans (Below.drew BI) (Below.mono hb2 (by have:=BI.size;exact this));exact hq.trans (hb3.mono (by have:=hq.size;exact this))
   case rest=>
    obtain⟨rfl,hbc⟩:=hcut;have hAs:(⟨L.toArray⟩++⟨b0.toArray⟩++⟨bX.toArray⟩:ByteArray).size=m+16:=by
     rw[ByteArray.size_append,ByteArray.size_append];show L.toArray.size+b0.toArray.size+bX.toArray.size=_
     simp[hm,hB0,hBX]
    generalize (⟨L.toArray⟩++⟨b0.toArray⟩++⟨bX.toArray⟩:ByteArray)=A at HLA hAs⊢;generalize hP:L++b0++bX=P at HLA HD;clear hP hcv0 BV;have hR:Blk ((wc.alloc (.cells (Ws Sha.rootsW) 67)).alloc (.cells (Ws Sha.first.list) 101)) wc.heap.size (Ws Sha.rootsW) 67:=heap_alloc2_old wc _ _;have hS:Blk ((wc.alloc (.cells (Ws Sha.rootsW) 67)).alloc (.cells (Ws Sha.first.list) 101)) (wc.heap.size+1) (Ws Sha.first.list) 101:=heap_alloc2_new wc _ _;have hbd:Below w.heap.size w ((wc.alloc (.cells (Ws Sha.rootsW) 67)).alloc (.cells (Ws Sha.first.list) 101)):=(hbc.alloc hbc.size _).alloc (by have:=hbc.size;simp;omega) _;have hw0:=hbc.size;go_wp2_with (go_at_call 77;refine(nn _).mono ?_;rintro e w' ⟨rfl,rfl⟩);rw[jN];generalize (wc.alloc (.cells (Ws Sha.rootsW) 67)).alloc (.cells (Ws Sha.first.list) 101)=w4 at hR hS hbd⊢;generalize wc.heap.size=R0 at hR hS hw0⊢;go_loopw [8] (fun i wr=> ∃j:Nat,128*j≤m+16∧i= .int .i64 (128*j:Nat)∧Blk wr (R0+1) (Ws (Sha.wY Sha.K P j).list) 101∧Blk wr R0 (Ws Sha.rootsW) 67∧Below w.heap.size w wr) (fun i _=>m+16 - (intOf i).toNat)
    case atStart=>exact⟨0,by omega,rfl,hS,hR,hbd⟩
    case round=>
     clear hR hS hbd hbc;obtain⟨j,hj,rfl,hb1,hb2,BI⟩:=hrel;have hmod:(m+16)%128=0:=by have:=HMM.out;omega
     by_cases hlt:128*j<m+16
     ·have hle:128*j+128≤m+16:=by omega
      obtain⟨f,hf⟩: ∃f:Nat→UInt8,f=fun i=>P.getD (128*j+i) 0:=⟨_,rfl⟩
      have HH:Hid (Sha.wY Sha.K P (j+1)=Sha.wZ Sha.K (Sha.wY Sha.K P j) f):=by rw[hf];rfl
      have HFF:Hid (∀i,i<128→(A.extract (128*j) (128*j+128)).data.toList.getD i 0=f i):=fun i hi=>by
       rw[fp A _ _ i (by omega) (by omega),hf,show A.data.toList=P from HLA.out]
      clear hf;generalize hst:Sha.wY Sha.K P j=st at hb1 HH;clear hst;generalize hat:128*j=at0 at hlt hle HH HFF;have HAT:Hid _:=hat;clear hat;obtain⟨c0,c1,c2,c3,c4,c5,c6,c7⟩:=iu hb1;have a0:(at0:Int)<(m:Int)+16:=by omega
      have a2:(at0:Int)+128≤(m:Int)+16:=by omega
      have a3:IntKind.i64.wrap ((at0:Int)+128)=(at0:Int)+128:=by rw[IntKind.wrap_i64];omega
      have hes:(A.extract at0 (at0+128)).size=128:=by simp;omega
      have hsz: ∀s:Sha.St,(Ws s.list).size=8:=fun s=>by rw[av];rfl
      go_wp2_with fail;go_region_with (go_at_call 78;refine(qz st _ f R0 _ ?_ ?_ ?_).mono ?_;exact hes;exact HFF;exact hb2.drew;rintro e w3 ⟨rfl,hb4⟩;have hs3:Blk w3 _ _ _:=Blk.keep (w:=wr.drew) hb1 hb4;have hp3:Blk w3 _ _ _:=Blk.keep (w:=wr.drew) hb2 hb4;have hst:=ao (l:=(Sha.wZ Sha.K st f).list) hs3 rfl)
      all_goals
       go_wp2;go_roundw
       case rel=>
        refine⟨j+1,by have:=HAT.out;omega,aP (by have:=HAT.out;omega),?_,?_,?_⟩
        ·rw[show Sha.wY Sha.K P (j+1)=Sha.wZ Sha.K st f from HH.out];exact hs3.row _
        ·exact hp3.other (by omega) _
        ·refine below_setRow ?_ (by omega) _;exact Below.trans (Below.drew BI) (Below.mono hb4 (by have:=BI.size;exact this))
       case measure=>simp[intOf];have:=HAT.out;omega
     ·have hjN:128*j=m+16:=by omega
      have hj':(s.size+17+k)/128=j:=by have:=HMM.out;omega
      rw[hj']at HD;rw[hjN,show ((m+16:Nat):Int)=(m:Int)+16 by omega];clear hj' hjN hb2;generalize Sha.wY Sha.K P j=st at hb1 HD;go_wp2;go_loopw [9,10] (fun o i wr=> ∃k:Nat,k≤8∧i= .int .i64 k∧o= .string ⟨(Ref.tell st k).toArray⟩∧Blk wr (R0+1) (Ws st.list) 101∧Below w.heap.size w wr) (fun _ i _=>8 - (intOf i).toNat)
      case atStart=>exact⟨0,by omega,rfl,rfl,hb1,BI⟩
      case round=>
       clear hb1 BI;obtain⟨q,hq,rfl,rfl,hb1,BI⟩:=hrel;by_cases hlt8:q<8
       ·have hc:=hb1.cell q;rw[au _ _ (by rw[nO];exact hlt8)]at hc;have hl:=Ref.tell_length st q;have hbe:=Sha.uM (st.list.getD q 0) 8;have HT:Hid (Ref.tell st (q+1)=Ref.tell st q++Sha.be (st.list.getD q 0) 8):=rfl;generalize st.list.getD q 0=x at hc hbe HT;generalize hbx:Sha.be x 8=bx at hbe HT;have HBX:Hid (Sha.be x 8=bx):=hbx;clear hbx;generalize Ref.tell st q=o at hl HT⊢;have i0:(q:Int)<8:=by omega
        go_wp2_with (go_at_call 76;refine(fk _ x rfl bx HBX _).mono ?_;rintro e w3 ⟨rfl,hb4⟩);go_roundw
        case rel=>
         refine⟨q+1,by omega,by go_num,?_,hb1.keep hb4,BI.trans (hb4.mono BI.size)⟩;rw[show Ref.tell st (q+1)=o++bx from HT.out];exact congrArg Value.string (ByteArray.mk_append_mk o bx)
        case measure=>simp[intOf];omega
       ·have hq8:q=8:=by omega
        subst hq8;go_wp2;go_ret;exact⟨by rw[show D=_ from HD.out];rfl,BI⟩
end Go.Proofs.YtclpbaokadfhhaaGreatDoor
