import Derived.Test.YtclpbaokadfhhaaGreatDoorZy
import Derived.Test.YtclpbaokadfhhaaGreatDoorZj
set_option maxRecDepth 100000
set_option maxHeartbeats 4000000
namespace Go.Proofs.YtclpbaokadfhhaaGreatDoor
open Go.RowKit
structure OpV where
 k:Int
 n:Int
 a:ByteArray
 b:ByteArray
 c:ByteArray
 d:ByteArray
 p:Option Addr
 ln:Nat
 cp:Nat
def OpV.row(o:OpV):List Value:= [.int .i64 o.k,.int .i64 o.n,.string o.a,.string o.b,.string o.c,.string o.d,.slice o.p o.ln o.cp]
def OpV.cs(o:OpV):Array Value:=o.row.toArray
structure OpV.Ok (o:OpV):Prop where
 k0: -9223372036854775808≤o.k
 k1:o.k≤9223372036854775807
 n0: -9223372036854775808≤o.n
 n1:o.n≤9223372036854775807
 a:o.a.size≤140737488351232
 b:o.b.size≤140737488351232
 c:o.c.size≤140737488351232
 d:o.d.size≤140737488351232
theorem OpV.size(o:OpV):o.cs.size=7:=rfl
theorem Tryz.infoOp:(Tryz.prog.info? 45).map (·.size)=some 7:=by kernel_rfl
theorem t45:Ty 45 7:=⟨_,Tryz.underlying45,rfl,Tryz.infoOp⟩
theorem OpV.at{w:World}{b t:Nat}{o:OpV}(h:Blk w b o.cs t):w.cell? ⟨b,0,none⟩=some (.int .i64 o.k)∧w.cell? ⟨b,1,none⟩=some (.int .i64 o.n)∧w.cell? ⟨b,2,none⟩=some (.string o.a)∧w.cell? ⟨b,3,none⟩=some (.string o.b)∧w.cell? ⟨b,4,none⟩=some (.string o.c)∧w.cell? ⟨b,5,none⟩=some (.string o.d):=
 ⟨h.cell 0,h.cell 1,h.cell 2,h.cell 3,h.cell 4,h.cell 5⟩
theorem n9(o:OpV)(w:World)(ho:o.Ok)(hK:Tab Sha.K w):
  Rw 41 #[.agg o.cs] w (.bool true):=by
 have H1:Hid (∀wx:World,Tab Sha.K wx→Rw 89 #[.string o.a] wx (.tuple #[.string (Sha.uj Sha.K o.a).1,.int .i64 (Sha.uj Sha.K o.a).2])):=fun wx h=>mQ Sha.K o.a wx ho.a h
 have H2:Hid (Rv 90 #[.string o.a] (.tuple #[.string (Sha.uj Sha.K o.a).1,.int .i64 (Sha.uj Sha.K o.a).2])):=fun wx=>kM o.a wx (by have:=ho.a;omega)
 have H3:Hid (∀wx:World,Tab Sha.K wx→Rw 91 #[.string o.a,.string o.b] wx (.tuple #[.string (Sha.vU Sha.K o.a o.b).1,.int .i64 (Sha.vU Sha.K o.a o.b).2])):=fun wx h=>qY Sha.K o.a o.b wx ho.a ho.b h
 have H4:Hid (Rv 92 #[.string o.a,.string o.b] (.tuple #[.string (Sha.vU Sha.K o.a o.b).1,.int .i64 (Sha.vU Sha.K o.a o.b).2])):=fun wx=>po o.a o.b wx (by have:=ho.a;omega) (by have:=ho.b;omega)
 have H5:Hid (∀wx:World,Tab Sha.K wx→Rw 30 #[.string o.a,.string o.b,.string o.c,.int .i64 o.n] wx (.tuple #[.string (Sha.ud Sha.K o.a o.b o.c o.n).1,.int .i64 (Sha.ud Sha.K o.a o.b o.c o.n).2])):=fun wx h=>mR Sha.K o.a o.b o.c o.n wx ho.a ho.b ho.c h
 have H6:Hid (Rv 93 #[.string o.a,.string o.b,.string o.c,.int .i64 o.n] (.tuple #[.string (Sha.ud Sha.K o.a o.b o.c o.n).1,.int .i64 (Sha.ud Sha.K o.a o.b o.c o.n).2])):=fun wx=>kN o.a o.b o.c o.n wx (by have:=ho.a;omega) (by have:=ho.b;omega) (by have:=ho.c;omega)
 generalize (Sha.uj Sha.K o.a).1=X1 at H1 H2;generalize (Sha.uj Sha.K o.a).2=Y1 at H1 H2;generalize (Sha.vU Sha.K o.a o.b).1=X2 at H3 H4;generalize (Sha.vU Sha.K o.a o.b).2=Y2 at H3 H4;generalize (Sha.ud Sha.K o.a o.b o.c o.n).1=X3 at H5 H6;generalize (Sha.ud Sha.K o.a o.b o.c o.n).2=Y3 at H5 H6;have hb:Blk (w.alloc (.cells o.cs 45)) w.heap.size o.cs 45:=Blk.new _ _ _;have bel:Below w.heap.size w (w.alloc (.cells o.cs 45)):=bR.alloc nR _;replace hK:Hid (Tab Sha.K (w.alloc (.cells o.cs 45))):=hK.below bel;have sO:=o.size;obtain⟨c0,c1,c2,c3,c4,c5⟩:=OpV.at hb;generalize hcs:o.cs=CS at hb bel hK sO c0 c1 c2 c3 c4 c5⊢;replace hcs:Hid (o.cs=CS):=hcs;by_cases hk1:o.k=1
 ·have d1:(o.k==1)=true:=by rw[beq_iff_eq];exact hk1
  replace hk1:Hid (o.k=1):=hk1;go_enter Tryz.func41,Tryz.ntmps41;go_wp2_with fail;generalize w.alloc (.cells CS 45)=w1 at hb bel hK c0 c1 c2 c3 c4 c5⊢;refine(H1.out _ hK.out).mono ?_;rintro e w2 ⟨rfl,k2⟩;clear c0 c1 c2 c3 c4 c5;replace hb:=hb.keep k2;replace bel:=bel.trans (k2.mono bel.size);rw[←hcs.out]at hb;obtain⟨c0,c1,c2,c3,c4,c5⟩:=OpV.at hb;go_wp2_with fail;refine gv H2 fun w3 k3=> ?_
  replace bel:=bel.trans (k3.mono bel.size);clear c0 c1 c2 c3 c4 c5;go_wp2;go_ret;exact⟨rfl,bel⟩
 ·have d1:(o.k==1)=false:=by rw[beq_eq_false_iff_ne];exact hk1
  replace hk1:Hid (¬o.k=1):=hk1;by_cases hk2:o.k=2
  ·have d2:(o.k==2)=true:=by rw[beq_iff_eq];exact hk2
   replace hk2:Hid (o.k=2):=hk2;go_enter Tryz.func41,Tryz.ntmps41;go_wp2_with fail;generalize w.alloc (.cells CS 45)=w1 at hb bel hK c0 c1 c2 c3 c4 c5⊢;refine(H3.out _ hK.out).mono ?_;rintro e w2 ⟨rfl,k2⟩;clear c0 c1 c2 c3 c4 c5;replace hb:=hb.keep k2;replace bel:=bel.trans (k2.mono bel.size);rw[←hcs.out]at hb;obtain⟨c0,c1,c2,c3,c4,c5⟩:=OpV.at hb;go_wp2_with fail;refine gv H4 fun w3 k3=> ?_
   replace bel:=bel.trans (k3.mono bel.size);clear c0 c1 c2 c3 c4 c5;go_wp2;go_ret;exact⟨rfl,bel⟩
  ·have d2:(o.k==2)=false:=by rw[beq_eq_false_iff_ne];exact hk2
   replace hk2:Hid (¬o.k=2):=hk2;go_enter Tryz.func41,Tryz.ntmps41;go_wp2_with fail;generalize w.alloc (.cells CS 45)=w1 at hb bel hK c0 c1 c2 c3 c4 c5⊢;refine(H5.out _ hK.out).mono ?_;rintro e w2 ⟨rfl,k2⟩;clear c0 c1 c2 c3 c4 c5;replace hb:=hb.keep k2;replace bel:=bel.trans (k2.mono bel.size);rw[←hcs.out]at hb;obtain⟨c0,c1,c2,c3,c4,c5⟩:=OpV.at hb;go_wp2_with fail;refine gv H6 fun w3 k3=> ?_
   replace bel:=bel.trans (k3.mono bel.size);clear c0 c1 c2 c3 c4 c5;go_wp2;go_ret;exact⟨rfl,bel⟩
theorem sy(c:Int)(n:Nat)(w:World)(h0: -9223372036854775808≤c)(h1:c≤9223372036854775807)(hn:0<n)(hn2:n≤140737488351232):
  Calls Tryz.prog 159 #[.int .i64 c,.int .i64 n] w fun e w'=> ∃k:Nat,e= .returned (.int .i64 k)∧k<n∧w'=w:=by
 have z0:((n:Int)==0)=false:=by rw[beq_eq_false_iff_ne];omega
 by_cases hc:c<0
 ·have d0:decide (c<0)=true:=decide_eq_true hc;have e1:IntKind.i64.wrap (c+1)=c+1:=by rw[IntKind.wrap_i64];omega
  have e2:IntKind.i64.wrap (-(c+1))= -(c+1):=by rw[IntKind.wrap_i64];omega
  have e3:Int.tmod (-(c+1)) n=(((-(c+1)).toNat%n:Nat):Int):=by
   rw[Int.tmod_eq_emod_of_nonneg (by omega)];have:(-(c+1))=((-(c+1)).toNat:Int):=by omega
   rw[Int.natCast_emod,←this]
  have hlt:(-(c+1)).toNat%n<n:=Nat.mod_lt _ hn;generalize (-(c+1)).toNat%n=k at e3 hlt;have e4:IntKind.i64.wrap (k:Int)=k:=by rw[IntKind.wrap_i64];omega
  go_enter Tryz.func159,Tryz.ntmps159;go_wp2;go_ret;exact⟨k,rfl,hlt,rfl⟩
 ·have d0:decide (c<0)=false:=decide_eq_false hc;have e3:Int.tmod c n=((c.toNat%n:Nat):Int):=by
   rw[Int.tmod_eq_emod_of_nonneg (by omega)];have:c=(c.toNat:Int):=by omega
   rw[Int.natCast_emod,←this]
  have hlt:c.toNat%n<n:=Nat.mod_lt _ hn;generalize c.toNat%n=k at e3 hlt;have e4:IntKind.i64.wrap (k:Int)=k:=by rw[IntKind.wrap_i64];omega
  go_enter Tryz.func159,Tryz.ntmps159;go_wp2;go_ret;exact⟨k,rfl,hlt,rfl⟩
theorem iT{s:ByteArray}(h:s.size=0):s=⟨#[]⟩:=by
 cases s with
 |mk d=>have:d= #[]:=Array.eq_empty_of_size_eq_zero h;rw[this]
theorem dI{s:ByteArray}(h: ¬s.size=0):s.toList.isEmpty=false:=by
 cases he:s.toList.isEmpty with
 |false=>rfl
 |true=>
  rw[List.isEmpty_iff,ByteArray.toList_eq]at he;have:s.data.toList.length=0:=by rw[he];rfl
  exact absurd (by simpa using this) h
theorem sJ(s t:ByteArray)(w:World):
  Calls Tryz.prog 96 #[.string s,.string t] w fun e w'=>e= .returned (.string (if s.size=0 then t else s))∧w'=w:=by
 by_cases hs:s.size=0
 ·rw[if_pos hs];obtain rfl:s=⟨#[]⟩:=by
   cases s with
   |mk d=>have:d= #[]:=Array.eq_empty_of_size_eq_zero hs;rw[this]
  go_enter Tryz.func96,Tryz.ntmps96;go_wp2;go_ret;exact⟨rfl,rfl⟩
 ·rw[if_neg hs];have hne:=dI hs;go_enter Tryz.func96,Tryz.ntmps96;go_wp2;go_ret;exact⟨rfl,rfl⟩
theorem ts(s:ByteArray)(c:Int)(t:ByteArray)(w:World)(h0: -9223372036854775808≤c)(h1:c≤9223372036854775807)(hs:s.size≤1000000)(ht:t.size≤140737488351232):
  Calls Tryz.prog 107 #[.string s,.int .i64 c,.string t] w fun e w'=> ∃r:ByteArray,e= .returned (.string r)∧r.size=s.size∧Below w.heap.size w w':=by
 by_cases hs0:s.size=0
 ·obtain rfl:=iT hs0;go_enter Tryz.func107,Tryz.ntmps107;go_wp2;go_ret;exact⟨_,rfl,rfl,Below.refl _ _⟩
 have hse:=dI hs0;by_cases ht0:t.size=0
 ·obtain rfl:=iT ht0;go_enter Tryz.func107,Tryz.ntmps107;go_wp2;go_ret;exact⟨_,rfl,rfl,Below.refl _ _⟩
 have hte:=dI ht0;obtain⟨cap,wb,hcv,ho,b3⟩:=bytesOf s w.heap.size w nR;replace ho:=ho.at;have hlen:s.data.toList.length=s.size:=by simp
 generalize s.data.toList=l0 at ho hlen;go_enter Tryz.func107,Tryz.ntmps107;go_wp2_with fail;refine(sy c s.size w h0 h1 (by omega) (by omega)).mono ?_;rintro e wz ⟨k,rfl,hk,hw⟩;rw[hw];clear hw wz;go_wp2_with fail;go_loopw [9] (fun q wr=> ∃(i:Nat) (l:List UInt8),q= .int .i64 i∧i≤t.size∧k+i≤s.size∧l.length=s.size∧OwnR wr w.heap.size cap l∧Below w.heap.size w wr) (fun q _=>t.size - (intOf q).toNat)
 case atStart=>exact⟨0,l0,rfl,by omega,by omega,hlen,ho,b3⟩
 case round=>
  clear ho b3 hlen;obtain⟨i,l,rfl,hi,hki,hl,ho,hb⟩:=hrel;have ew:IntKind.i64.wrap ((k:Int)+(i:Int))=((k+i:Nat):Int):=by
   rw[IntKind.wrap_i64];omega
  by_cases hlt:i<t.size
  ·have d1:decide ((i:Int)<(t.size:Int))=true:=decide_eq_true (by omega);by_cases hlt2:k+i<s.size
   ·have d2:decide (((k+i:Nat):Int)<(s.size:Int))=true:=decide_eq_true (by omega);have hix:=bl t (i:Int) i (by omega) (by omega) hlt;have hbd:=dL t i;have hby:byt t i=((t.data.toList.getD i 0).toNat:Int):=rfl;generalize t.data.toList.getD i 0=x at hby;rw[hby]at hix;clear hbd hby;have f1:=ho.frozen (k+i) (by omega);have c1:=ho.cell (k+i) (by omega);have o2:=ho.set (k+i) x;have b2:=hb.setCell (p:=⟨w.heap.size,k+i,none⟩) nR (.int .u8 (x.toNat:Int));generalize hki2:k+i=j at ew d2 f1 c1 o2 b2 hlt2;have j0:(0:Int)≤(j:Int):=by omega
    have j1:(j:Int)<(s.size:Int):=by omega
    clear ho hb;go_wp2_with fail;go_roundw
    case rel=>exact⟨i+1,_,by go_num,by omega,by omega,by rw[List.length_set,hl],o2,b2⟩
    case measure=>simp[intOf];omega
   ·rw[show k+i=s.size by omega]at ew;have hso:=aY (n:=s.size) ho hl.symm;go_wp2;go_ret;exact⟨_,rfl,by show l.toArray.size=_;rw[List.size_toArray,hl],hb⟩
  ·have d1:decide ((i:Int)<(t.size:Int))=false:=decide_eq_false (by omega);have hso:=aY (n:=s.size) ho hl.symm;go_wp2;go_ret;exact⟨_,rfl,by show l.toArray.size=_;rw[List.size_toArray,hl],hb⟩
structure But (q:Nat) (w w':World):Prop where
 below:Below q w w'
 other: ∀b,b<w.heap.size→b≠q→w'.heap[b]? =w.heap[b]?
theorem But.refl(q:Nat)(w:World):But q w w:=⟨Below.refl _ _,fun _ _ _=>rfl⟩
theorem But.trans{q:Nat}{a b c:World}(h:But q a b)(k:But q b c):But q a c:=
 ⟨h.below.trans k.below,fun i hi hq=>(k.other i (Nat.lt_of_lt_of_le hi h.below.size) hq).trans (h.other i hi hq)⟩
theorem But.of{q:Nat}{w w':World}(h:Below w.heap.size w w')(hq:q≤w.heap.size):But q w w':=⟨h.mono hq,fun b hb _=>h.block b hb⟩
theorem But.keep{q:Nat}{a b c:World}(h:But q a b)(k:Below b.heap.size b c)(hq:q≤b.heap.size):But q a c:=h.trans (But.of k hq)
theorem But.drew{q:Nat}{a w:World}(h:But q a w):But q a w.drew:=⟨h.below.drew,h.other⟩
theorem But.alloc{q:Nat}{a w:World}(h:But q a w)(hq:q≤w.heap.size)(o:Obj):But q a (w.alloc o):=h.keep (bR.alloc nR o) hq
theorem But.set{q:Nat}{a w:World}(h:But q a w)(i:Nat)(v:Value):But q a (w.setCell ⟨q,i,none⟩ v):=
 h.trans ⟨bR.setCell (p:=⟨q,i,none⟩) nR v,fun b _ hne=>Below.heap_setCell w _ v b hne⟩
theorem Tab.but{K:Nat→BitVec 64}{q:Nat}{w w':World}(h:Tab K w)(hb:Below q w w')(hq:0<q):Tab K w':=fun i hi=>by
 rw[hb.cell (p:=⟨0,i,none⟩) hq];exact h i hi
structure Wv where
 c:ByteArray
 s:ByteArray
 l:ByteArray
 t:ByteArray
 lp:Option Addr
 ln:Nat
 lc:Nat
 mp:Option Addr
 mn:Nat
 mc:Nat
def Wv.cs(v:Wv):Array Value:= #[.string v.c,.string v.s,.string v.l,.string v.t,.slice v.lp v.ln v.lc,.slice v.mp v.mn v.mc]
structure Wv.Ok (v:Wv):Prop where
 c:v.c.size≤1000000
 s:v.s.size≤1000000
 l:v.l.size≤1000000
 t:v.t.size≤1000000
structure Wv.Like (v v':Wv):Prop where
 c:v'.c.size=v.c.size
 s:v'.s.size=v.s.size
 l:v'.l.size=v.l.size
 t:v'.t.size=v.t.size
 lp:v'.lp=v.lp
 ln:v'.ln=v.ln
 lc:v'.lc=v.lc
 mp:v'.mp=v.mp
 mn:v'.mn=v.mn
 mc:v'.mc=v.mc
theorem Wv.at{w:World}{b t:Nat}{v:Wv}(h:Blk w b v.cs t):w.cell? ⟨b,0,none⟩=some (.string v.c)∧w.cell? ⟨b,1,none⟩=some (.string v.s)∧w.cell? ⟨b,2,none⟩=some (.string v.l)∧w.cell? ⟨b,3,none⟩=some (.string v.t)∧w.cell? ⟨b,4,none⟩=some (.slice v.lp v.ln v.lc)∧w.cell? ⟨b,5,none⟩=some (.slice v.mp v.mn v.mc):=
 ⟨h.cell 0,h.cell 1,h.cell 2,h.cell 3,h.cell 4,h.cell 5⟩
theorem Blk.setAt{w:World}{b t:Nat}{cs cs':Array Value}(h:Blk w b cs t)(i:Nat)(v:Value)(e:cs.setIfInBounds i v=cs'):Blk (w.setCell ⟨b,i,none⟩ v) b cs' t:=by
 rw[h.set i v,e];exact h.row _
theorem il{s:ByteArray}{l:List UInt8}(h: ¬s=⟨l.toArray⟩):(s.toList==(⟨l.toArray⟩:ByteArray).toList)=false:=by
 cases hc:s.toList==(⟨l.toArray⟩:ByteArray).toList with
 |false=>rfl
 |true=>
  have h1:=eq_of_beq hc;rw[ByteArray.toList_eq,ByteArray.toList_eq]at h1;exact absurd (by
   cases s with
   |mk d=>
    have:d=l.toArray:=Array.toList_inj.mp h1;rw[this]) h
theorem iL{s:ByteArray}{l:List UInt8}(h: ¬s=⟨l.toArray⟩):(s.toList==l)=false:=by
 have:=il h;rwa [ByteArray.toList_eq ⟨l.toArray⟩]at this
theorem pB(o:OpV)(v:Wv)(q:Nat)(w:World)(ho:o.Ok)(hv:v.Ok)(hq:Blk w q v.cs 43):
  Calls Tryz.prog 48 #[.pointer (some ⟨q,0,none⟩),.agg o.cs] w fun e w'=>e= .returned (.tuple #[])∧ ∃v',Wv.Like v v'∧Blk w' q v'.cs 43∧But q w w':=by
 have HP:Hid (∀(s:ByteArray) (wx:World),s.size≤1000000→Calls Tryz.prog 107 #[.string s,.int .i64 o.n,.string o.a] wx fun e w'=> ∃r:ByteArray,e= .returned (.string r)∧r.size=s.size∧Below wx.heap.size wx w'):=fun s wx h=>ts s o.n o.a wx ho.n0 ho.n1 h ho.a
 have hql:=hq.lt;have hS0:(fun wx=>Blk wx q v.cs 43∧Blk wx w.heap.size o.cs 45∧But q w wx) (w.alloc (.cells o.cs 45)):=⟨hq.alloc _,Blk.new _ _ _,(But.refl q w).alloc (by omega) _⟩;obtain⟨c0,c1,c2,c3,c4,c5⟩:=OpV.at hS0.2.1;have sO:=o.size;generalize hcs:o.cs=CS at hS0 c0 c1 c2 c3 c4 c5 sO⊢;replace hcs:Hid (o.cs=CS):=hcs;generalize hB:o.b=B at c3;have hqn:q≠w.heap.size:=by omega
 clear hB hq;by_cases hbc:B=⟨#[99]⟩
 ·subst hbc;go_enter Tryz.func48,Tryz.ntmps48;go_wp2_with fail;clear c0 c1 c2 c3 c4 c5;generalize w.alloc (.cells CS 45)=w1 at hS0⊢;rw[←hcs.out]at hS0;refine ai (S:=fun wx=>Blk wx q v.cs 43∧Blk wx w.heap.size o.cs 45∧But q w wx) (ls:= [12]) (by kernel_rfl) ?_;have hS:(fun wx=>Blk wx q v.cs 43∧Blk wx w.heap.size o.cs 45∧But q w wx) w1.drew:=⟨hS0.1.drew,hS0.2.1.drew,hS0.2.2.drew⟩;clear hS0;generalize w1.drew=wd at hS⊢;refine ac 0 20 hS ?_;try simp only[qQ]
  refine ac 1 21 hS ?_;try simp only[qQ]
  refine ac 2 22 hS ?_;try simp only[qQ]
  refine ac 3 23 hS ?_;try simp only[qQ]
  refine aa 4 24 (v:= .string v.c) hS ?_ ?_
  ·(intro wx BM;have cc:=BM.1.cell 0;rw[show v.cs[0]? =some (.string v.c)from rfl]at cc;clear BM;go_simp;try (with_reducible rfl))
  try simp only[qQ]
  refine ac 5 25 hS ?_;try simp only[qQ]
  refine aa 6 26 (v:= .int .i64 o.n) hS ?_ ?_
  ·(intro wx BM;obtain⟨c0,c1,c2,c3,c4,c5⟩:=OpV.at BM.2.1;clear BM;go_simp;try (with_reducible rfl))
  try simp only[qQ]
  refine ac 7 27 hS ?_;try simp only[qQ]
  refine aa 8 28 (v:= .string o.a) hS ?_ ?_
  ·(intro wx BM;obtain⟨c0,c1,c2,c3,c4,c5⟩:=OpV.at BM.2.1;clear BM;go_simp;try (with_reducible rfl))
  try simp only[qQ]
  refine aj 9 fun K hK=> ?_
  go_simp;go_wp2_with (go_at_call 107;refine(HP.out v.c _ hv.c).mono ?_;rintro e wf ⟨r,rfl,hr,k0⟩);have hT:(fun wx=>Blk wx q v.cs 43∧Blk wx w.heap.size o.cs 45∧But q w wx) wf:=⟨hS.1.keep k0,hS.2.1.keep k0,hS.2.2.keep k0 (Nat.le_of_lt hS.1.lt)⟩;refine hK.out _ _ hT ?_;try simp only[qQ]
  clear hK K k0 hS;refine ac 10 30 hT ?_;try simp only[qQ]
  refine ac 11 31 hT ?_;try simp only[qQ]
  refine am 12 fun K hK=> ?_
  have f0:=hT.1.frozen 0;have cc:=hT.1.cell 0;rw[show v.cs[0]? =some (.string v.c)from rfl]at cc;go_simp;refine hK.out _ _ ?_;clear hK K f0 cc;have h1:Blk (wf.setCell ⟨q,0,none⟩ (.string r)) q ({v with c:=r}:Wv).cs 43:=hT.1.setAt 0 _ rfl;have h2:=hT.2.2.set 0 (.string r);clear hT;refine ak ?_;go_wp2;refine bodyPost_end (results_none rfl _ _ _) rfl ⟨rfl,_,?_,h1,h2⟩;exact⟨hr,rfl,rfl,rfl,rfl,rfl,rfl,rfl,rfl,rfl⟩
 have ec:=il (l:= [99]) hbc;have fc:=iL (l:= [99]) hbc;replace hbc:Hid (¬B=⟨#[99]⟩):=hbc;by_cases hbs:B=⟨#[115]⟩
 ·subst hbs;go_enter Tryz.func48,Tryz.ntmps48;go_wp2_with fail;clear c0 c1 c2 c3 c4 c5;generalize w.alloc (.cells CS 45)=w1 at hS0⊢;rw[←hcs.out]at hS0;refine ai (S:=fun wx=>Blk wx q v.cs 43∧Blk wx w.heap.size o.cs 45∧But q w wx) (ls:= [12]) (by kernel_rfl) ?_;have hS:(fun wx=>Blk wx q v.cs 43∧Blk wx w.heap.size o.cs 45∧But q w wx) w1.drew:=⟨hS0.1.drew,hS0.2.1.drew,hS0.2.2.drew⟩;clear hS0;generalize w1.drew=wd at hS⊢;refine ac 0 34 hS ?_;try simp only[qQ]
  refine ac 1 35 hS ?_;try simp only[qQ]
  refine ac 2 36 hS ?_;try simp only[qQ]
  refine ac 3 37 hS ?_;try simp only[qQ]
  refine aa 4 38 (v:= .string v.s) hS ?_ ?_
  ·(intro wx BM;have cc:=BM.1.cell 1;rw[show v.cs[1]? =some (.string v.s)from rfl]at cc;clear BM;go_simp;try (with_reducible rfl))
  try simp only[qQ]
  refine ac 5 39 hS ?_;try simp only[qQ]
  refine aa 6 40 (v:= .int .i64 o.n) hS ?_ ?_
  ·(intro wx BM;obtain⟨c0,c1,c2,c3,c4,c5⟩:=OpV.at BM.2.1;clear BM;go_simp;try (with_reducible rfl))
  try simp only[qQ]
  refine ac 7 41 hS ?_;try simp only[qQ]
  refine aa 8 42 (v:= .string o.a) hS ?_ ?_
  ·(intro wx BM;obtain⟨c0,c1,c2,c3,c4,c5⟩:=OpV.at BM.2.1;clear BM;go_simp;try (with_reducible rfl))
  try simp only[qQ]
  refine aj 9 fun K hK=> ?_
  go_simp;go_wp2_with (go_at_call 107;refine(HP.out v.s _ hv.s).mono ?_;rintro e wf ⟨r,rfl,hr,k0⟩);have hT:(fun wx=>Blk wx q v.cs 43∧Blk wx w.heap.size o.cs 45∧But q w wx) wf:=⟨hS.1.keep k0,hS.2.1.keep k0,hS.2.2.keep k0 (Nat.le_of_lt hS.1.lt)⟩;refine hK.out _ _ hT ?_;try simp only[qQ]
  clear hK K k0 hS;refine ac 10 44 hT ?_;try simp only[qQ]
  refine ac 11 45 hT ?_;try simp only[qQ]
  refine am 12 fun K hK=> ?_
  have f0:=hT.1.frozen 1;have cc:=hT.1.cell 1;rw[show v.cs[1]? =some (.string v.s)from rfl]at cc;go_simp;refine hK.out _ _ ?_;clear hK K f0 cc;have h1:Blk (wf.setCell ⟨q,1,none⟩ (.string r)) q ({v with s:=r}:Wv).cs 43:=hT.1.setAt 1 _ rfl;have h2:=hT.2.2.set 1 (.string r);clear hT;refine ak ?_;go_wp2;refine bodyPost_end (results_none rfl _ _ _) rfl ⟨rfl,_,?_,h1,h2⟩;exact⟨rfl,hr,rfl,rfl,rfl,rfl,rfl,rfl,rfl,rfl⟩
 have es:=il (l:= [115]) hbs;have fs:=iL (l:= [115]) hbs;replace hbs:Hid (¬B=⟨#[115]⟩):=hbs;by_cases hbl:B=⟨#[108]⟩
 ·subst hbl;go_enter Tryz.func48,Tryz.ntmps48;go_wp2_with fail;clear c0 c1 c2 c3 c4 c5;generalize w.alloc (.cells CS 45)=w1 at hS0⊢;rw[←hcs.out]at hS0;refine ai (S:=fun wx=>Blk wx q v.cs 43∧Blk wx w.heap.size o.cs 45∧But q w wx) (ls:= [12]) (by kernel_rfl) ?_;have hS:(fun wx=>Blk wx q v.cs 43∧Blk wx w.heap.size o.cs 45∧But q w wx) w1.drew:=⟨hS0.1.drew,hS0.2.1.drew,hS0.2.2.drew⟩;clear hS0;generalize w1.drew=wd at hS⊢;refine ac 0 48 hS ?_;try simp only[qQ]
  refine ac 1 49 hS ?_;try simp only[qQ]
  refine ac 2 50 hS ?_;try simp only[qQ]
  refine ac 3 51 hS ?_;try simp only[qQ]
  refine aa 4 52 (v:= .string v.l) hS ?_ ?_
  ·(intro wx BM;have cc:=BM.1.cell 2;rw[show v.cs[2]? =some (.string v.l)from rfl]at cc;clear BM;go_simp;try (with_reducible rfl))
  try simp only[qQ]
  refine ac 5 53 hS ?_;try simp only[qQ]
  refine aa 6 54 (v:= .int .i64 o.n) hS ?_ ?_
  ·(intro wx BM;obtain⟨c0,c1,c2,c3,c4,c5⟩:=OpV.at BM.2.1;clear BM;go_simp;try (with_reducible rfl))
  try simp only[qQ]
  refine ac 7 55 hS ?_;try simp only[qQ]
  refine aa 8 56 (v:= .string o.a) hS ?_ ?_
  ·(intro wx BM;obtain⟨c0,c1,c2,c3,c4,c5⟩:=OpV.at BM.2.1;clear BM;go_simp;try (with_reducible rfl))
  try simp only[qQ]
  refine aj 9 fun K hK=> ?_
  go_simp;go_wp2_with (go_at_call 107;refine(HP.out v.l _ hv.l).mono ?_;rintro e wf ⟨r,rfl,hr,k0⟩);have hT:(fun wx=>Blk wx q v.cs 43∧Blk wx w.heap.size o.cs 45∧But q w wx) wf:=⟨hS.1.keep k0,hS.2.1.keep k0,hS.2.2.keep k0 (Nat.le_of_lt hS.1.lt)⟩;refine hK.out _ _ hT ?_;try simp only[qQ]
  clear hK K k0 hS;refine ac 10 58 hT ?_;try simp only[qQ]
  refine ac 11 59 hT ?_;try simp only[qQ]
  refine am 12 fun K hK=> ?_
  have f0:=hT.1.frozen 2;have cc:=hT.1.cell 2;rw[show v.cs[2]? =some (.string v.l)from rfl]at cc;go_simp;refine hK.out _ _ ?_;clear hK K f0 cc;have h1:Blk (wf.setCell ⟨q,2,none⟩ (.string r)) q ({v with l:=r}:Wv).cs 43:=hT.1.setAt 2 _ rfl;have h2:=hT.2.2.set 2 (.string r);clear hT;refine ak ?_;go_wp2;refine bodyPost_end (results_none rfl _ _ _) rfl ⟨rfl,_,?_,h1,h2⟩;exact⟨rfl,rfl,hr,rfl,rfl,rfl,rfl,rfl,rfl,rfl⟩
 have el:=il (l:= [108]) hbl;have fl:=iL (l:= [108]) hbl;replace hbl:Hid (¬B=⟨#[108]⟩):=hbl;go_enter Tryz.func48,Tryz.ntmps48;go_wp2_with fail;clear c0 c1 c2 c3 c4 c5;generalize w.alloc (.cells CS 45)=w1 at hS0⊢;rw[←hcs.out]at hS0;refine ai (S:=fun wx=>Blk wx q v.cs 43∧Blk wx w.heap.size o.cs 45∧But q w wx) (ls:= [12]) (by kernel_rfl) ?_;have hS:(fun wx=>Blk wx q v.cs 43∧Blk wx w.heap.size o.cs 45∧But q w wx) w1.drew:=⟨hS0.1.drew,hS0.2.1.drew,hS0.2.2.drew⟩;clear hS0;generalize w1.drew=wd at hS⊢;refine ac 0 6 hS ?_;try simp only[qQ]
 refine ac 1 7 hS ?_;try simp only[qQ]
 refine ac 2 8 hS ?_;try simp only[qQ]
 refine ac 3 9 hS ?_;try simp only[qQ]
 refine aa 4 10 (v:= .string v.t) hS ?_ ?_
 ·(intro wx BM;have cc:=BM.1.cell 3;rw[show v.cs[3]? =some (.string v.t)from rfl]at cc;clear BM;go_simp;try (with_reducible rfl))
 try simp only[qQ]
 refine ac 5 11 hS ?_;try simp only[qQ]
 refine aa 6 12 (v:= .int .i64 o.n) hS ?_ ?_
 ·(intro wx BM;obtain⟨c0,c1,c2,c3,c4,c5⟩:=OpV.at BM.2.1;clear BM;go_simp;try (with_reducible rfl))
 try simp only[qQ]
 refine ac 7 13 hS ?_;try simp only[qQ]
 refine aa 8 14 (v:= .string o.a) hS ?_ ?_
 ·(intro wx BM;obtain⟨c0,c1,c2,c3,c4,c5⟩:=OpV.at BM.2.1;clear BM;go_simp;try (with_reducible rfl))
 try simp only[qQ]
 refine aj 9 fun K hK=> ?_
 go_simp;go_wp2_with (go_at_call 107;refine(HP.out v.t _ hv.t).mono ?_;rintro e wf ⟨r,rfl,hr,k0⟩);have hT:(fun wx=>Blk wx q v.cs 43∧Blk wx w.heap.size o.cs 45∧But q w wx) wf:=⟨hS.1.keep k0,hS.2.1.keep k0,hS.2.2.keep k0 (Nat.le_of_lt hS.1.lt)⟩;refine hK.out _ _ hT ?_;try simp only[qQ]
 clear hK K k0 hS;refine ac 10 16 hT ?_;try simp only[qQ]
 refine ac 11 17 hT ?_;try simp only[qQ]
 refine am 12 fun K hK=> ?_
 have f0:=hT.1.frozen 3;have cc:=hT.1.cell 3;rw[show v.cs[3]? =some (.string v.t)from rfl]at cc;go_simp;refine hK.out _ _ ?_;clear hK K f0 cc;have h1:Blk (wf.setCell ⟨q,3,none⟩ (.string r)) q ({v with t:=r}:Wv).cs 43:=hT.1.setAt 3 _ rfl;have h2:=hT.2.2.set 3 (.string r);clear hT;refine ak ?_;go_wp2;refine bodyPost_end (results_none rfl _ _ _) rfl ⟨rfl,_,?_,h1,h2⟩;exact⟨rfl,rfl,rfl,hr,rfl,rfl,rfl,rfl,rfl,rfl⟩
end Go.Proofs.YtclpbaokadfhhaaGreatDoor
