import Derived.Test.YtclpbaokadfhhaaGreatDoorAg1
import Derived.Test.YtclpbaokadfhhaaGreatDoorXh
import Derived.Test.YtclpbaokadfhhaaGreatDoorZl
set_option maxRecDepth 100000
set_option maxHeartbeats 4000000
namespace Go.Proofs.YtclpbaokadfhhaaGreatDoor
open Go.RowKit
def nineB:ByteArray:=⟨(Fd.lo 9 32).toArray⟩
theorem ig:nineB.size=32:=by
 show(Fd.lo 9 32).toArray.size=32
 rw[List.size_toArray,Fd.tV]
theorem oL:Sc.num nineB.data.toList=9:=by decide+kernel
theorem qw:Fd.fr (Fd.num nineB)=Ff.fe nine:=by
 rw[Fd.z6 nineB ig,oL];rfl
theorem ky(s:ByteArray):Fd.told (Rl.xA s nineB)=aU s.data.toList:=gc s nineB nine l9 qw
theorem mC(s p:ByteArray)(hp:p.size=32):Fd.told (Rl.xA s p)=agreed s.data.toList p.data.toList:=by
 refine gc s p (Ff.of p.data.toList) (oJ _) ?_;rw[Fd.z6 p hp];unfold Ff.fe;rw[Ff.of_val p.data.toList (by simpa using hp)]
def aS(s:ByteArray):ByteArray×Int:=if s.size=32 then(⟨(aU s.data.toList).toArray⟩,0)else (⟨#[]⟩,1)
theorem pR:Fd.lo 0 32=ag 32:=by decide+kernel
theorem pu(s:ByteArray)(w:World)(hs:s.size≤140737488351232):
  Rw 12 #[.string s] w (.tuple #[.string (aS s).1,.int .i64 (aS s).2]):=by
 by_cases h:s.size=32
 ·have e1:aS s=(⟨(aU s.data.toList).toArray⟩,0):=by unfold aS;rw[if_pos h]
  rw[e1];exact mK s w h
 ·have e1:aS s=(⟨#[]⟩,1):=by unfold aS;rw[if_neg h]
  rw[e1];have BI:Below w.heap.size w (w.alloc (.cells (Ss [s]) 9)):=bR.alloc nR _;have HT:=bJ s w (by omega);have e2:decide (¬(s.size=32))=true:=decide_eq_true h;rw[e2]at HT;replace HT:Hid (Calls Tryz.prog 24 #[.slice (some ⟨w.heap.size,0,none⟩) 1 1] (w.alloc (.cells (Ss [s]) 9)) fun e w'=>e= .returned (.bool true)∧w'=w.alloc (.cells (Ss [s]) 9)):=HT;clear e1 e2 h;go_enter Tryz.func12,Tryz.ntmps12;go_wp2_with fail;refine HT.out.mono ?_;rintro e w' ⟨rfl,rfl⟩;go_wp2;go_ret2;exact⟨rfl,BI⟩
theorem pj(s:ByteArray)(w:World)(hs:s.size=32):
  Rw 35 #[.string s] w (.string ⟨(aU s.data.toList).toArray⟩):=by
 have H1:Hid (Rv 75 #[.int .i64 9,.int .i64 32] (.string nineB)):=fun wx=>bP 9 32 9 32 rfl rfl (by omega) (by omega) wx
 have H2:Hid (Rv 74 #[.string s,.string nineB] (.string ⟨(aU s.data.toList).toArray⟩)):=fun wx=>by
  have:=kh s nineB hs ig wx;rw[ky s]at this;exact this
 generalize nineB=NB at H1 H2;generalize aU s.data.toList=R at H2⊢;go_enter Tryz.func35,Tryz.ntmps35;go_wp2_with fail;refine gv H1 fun w1 k1=> ?_
 go_wp2_with fail;refine gv H2 fun w2 k2=> ?_
 go_wp2;go_ret;exact⟨rfl,k1.trans (k2.mono k1.size)⟩
theorem pn(s:ByteArray)(w:World):
  Rw 20 #[.string s] w (.tuple #[.string (aS s).1,.int .i64 (aS s).2]):=by
 by_cases h:s.size=32
 ·have e1:aS s=(⟨(aU s.data.toList).toArray⟩,0):=by unfold aS;rw[if_pos h]
  rw[e1];have H1:Hid (Rv 35 #[.string s] (.string ⟨(aU s.data.toList).toArray⟩)):=fun wx=>pj s wx h
  generalize aU s.data.toList=R at H1⊢;have hx:((s.size:Int)==32)=true:=by rw[beq_iff_eq];omega
  clear e1;replace h:Hid (s.size=32):=h;go_enter Tryz.func20,Tryz.ntmps20;go_wp2_with fail;refine gv H1 fun w1 k1=> ?_
  go_wp2;go_ret2;exact⟨rfl,k1⟩
 ·have e1:aS s=(⟨#[]⟩,1):=by unfold aS;rw[if_neg h]
  rw[e1];have hx:((s.size:Int)==32)=false:=by rw[beq_eq_false_iff_ne];omega
  clear e1;replace h:Hid (¬s.size=32):=h;go_enter Tryz.func20,Tryz.ntmps20;go_wp2;go_ret2;exact⟨rfl,Below.refl _ _⟩
theorem qV(s p:ByteArray)(w:World):
  Rw 98 #[.string s,.string p] w (.tuple #[.string (aX s p).1,.int .i64 (aX s p).2]):=by
 by_cases h:s.size=32
 ·have hx:((s.size:Int) !=32)=false:=by rw[bne_eq_false_iff_eq];omega
  have hx2:(s.size:Int)=32:=by omega
  by_cases h2:p.size=32
  ·have hy:((p.size:Int) !=32)=false:=by rw[bne_eq_false_iff_eq];omega
   have hy2:(p.size:Int)=32:=by omega
   have e1:aX s p=if agreed s.data.toList p.data.toList=ag 32 then(⟨#[]⟩,2)else (⟨(agreed s.data.toList p.data.toList).toArray⟩,0):=by unfold aX;rw[if_pos ⟨h,h2⟩]
   rw[e1];have H1:Hid (Rv 74 #[.string s,.string p] (.string ⟨(agreed s.data.toList p.data.toList).toArray⟩)):=fun wx=>by
    have:=kh s p h h2 wx;rw[mC s p h2]at this;exact this
   have H2:Hid (Rv 75 #[.int .i64 0,.int .i64 32] (.string ⟨(ag 32).toArray⟩)):=fun wx=>by
    have:=bP 0 32 0 32 rfl rfl (by omega) (by omega) wx;rw[pR]at this;exact this
   generalize agreed s.data.toList p.data.toList=R at H1⊢;generalize hZ:ag 32=Z at H2⊢;clear hZ e1;replace h:Hid (s.size=32):=h;replace h2:Hid (p.size=32):=h2;by_cases hR:R=Z
   ·subst hR;rw[if_pos rfl];go_enter Tryz.func98,Tryz.ntmps98;go_wp2_with fail;refine gv H1 fun w1 k1=> ?_
    go_wp2_with fail;refine gv H2 fun w2 k2=> ?_
    go_wp2;go_ret2;exact⟨rfl,k1.trans (k2.mono k1.size)⟩
   ·rw[if_neg hR];have hne:((⟨R.toArray⟩:ByteArray).toList==(⟨Z.toArray⟩:ByteArray).toList)=false:=by
     rw[beq_eq_false_iff_ne,ByteArray.toList_eq,ByteArray.toList_eq];simpa using hR
    have hne2:(R==Z)=false:=by rw[beq_eq_false_iff_ne];exact hR
    replace hR:Hid (¬R=Z):=hR;go_enter Tryz.func98,Tryz.ntmps98;go_wp2_with fail;refine gv H1 fun w1 k1=> ?_
    go_wp2_with fail;refine gv H2 fun w2 k2=> ?_
    go_wp2;go_ret2;exact⟨rfl,k1.trans (k2.mono k1.size)⟩
  ·have hy:((p.size:Int) !=32)=true:=by rw[bne_iff_ne];omega
   have hy2: ¬(p.size:Int)=32:=by omega
   have e1:aX s p=(⟨#[]⟩,1):=by unfold aX;rw[if_neg (fun hh=>h2 hh.2)]
   rw[e1];clear e1;replace h:Hid (s.size=32):=h;replace h2:Hid (¬p.size=32):=h2;go_enter Tryz.func98,Tryz.ntmps98;go_wp2;go_ret2;exact⟨rfl,Below.refl _ _⟩
 ·have hx:((s.size:Int) !=32)=true:=by rw[bne_iff_ne];omega
  have hx2: ¬(s.size:Int)=32:=by omega
  have e1:aX s p=(⟨#[]⟩,1):=by unfold aX;rw[if_neg (fun hh=>h hh.1)]
  rw[e1];clear e1;replace h:Hid (¬s.size=32):=h;go_enter Tryz.func98,Tryz.ntmps98;go_wp2;go_ret2;exact⟨rfl,Below.refl _ _⟩
theorem pD(o:OpV)(w:World)(ho:o.Ok):
  Rw 43 #[.agg o.cs] w (.bool true):=by
 have H1:Hid (Rv 12 #[.string o.a] (.tuple #[.string (aS o.a).1,.int .i64 (aS o.a).2])):=fun wx=>pu o.a wx ho.a
 have H2:Hid (Rv 20 #[.string o.a] (.tuple #[.string (aS o.a).1,.int .i64 (aS o.a).2])):=fun wx=>pn o.a wx
 have H3:Hid (Rv 15 #[.string o.a,.string o.b] (.tuple #[.string (aX o.a o.b).1,.int .i64 (aX o.a o.b).2])):=fun wx=>ol o.a o.b wx ho.a ho.b
 have H4:Hid (Rv 98 #[.string o.a,.string o.b] (.tuple #[.string (aX o.a o.b).1,.int .i64 (aX o.a o.b).2])):=fun wx=>qV o.a o.b wx
 generalize (aS o.a).1=X1 at H1 H2;generalize (aS o.a).2=Y1 at H1 H2;generalize (aX o.a o.b).1=X2 at H3 H4;generalize (aX o.a o.b).2=Y2 at H3 H4;have hb:Blk (w.alloc (.cells o.cs 45)) w.heap.size o.cs 45:=Blk.new _ _ _;have bel:Below w.heap.size w (w.alloc (.cells o.cs 45)):=bR.alloc nR _;have sO:=o.size;obtain⟨c0,c1,c2,c3,c4,c5⟩:=OpV.at hb;generalize hcs:o.cs=CS at hb bel sO c0 c1 c2 c3 c4 c5⊢;replace hcs:Hid (o.cs=CS):=hcs;by_cases hk1:o.k=6
 ·have d1:(o.k==6)=true:=by rw[beq_iff_eq];exact hk1
  replace hk1:Hid (o.k=6):=hk1;go_enter Tryz.func43,Tryz.ntmps43;go_wp2_with fail;generalize w.alloc (.cells CS 45)=w1 at hb bel c0 c1 c2 c3 c4 c5⊢;refine gv H1 fun w2 k2=> ?_
  clear c0 c1 c2 c3 c4 c5;replace hb:=hb.keep k2;replace bel:=bel.trans (k2.mono bel.size);rw[←hcs.out]at hb;obtain⟨c0,c1,c2,c3,c4,c5⟩:=OpV.at hb;go_wp2_with fail;refine gv H2 fun w3 k3=> ?_
  replace bel:=bel.trans (k3.mono bel.size);clear c0 c1 c2 c3 c4 c5;go_wp2;go_ret;exact⟨rfl,bel⟩
 ·have d1:(o.k==6)=false:=by rw[beq_eq_false_iff_ne];exact hk1
  replace hk1:Hid (¬o.k=6):=hk1;go_enter Tryz.func43,Tryz.ntmps43;go_wp2_with fail;generalize w.alloc (.cells CS 45)=w1 at hb bel c0 c1 c2 c3 c4 c5⊢;refine gv H3 fun w2 k2=> ?_
  clear c0 c1 c2 c3 c4 c5;replace hb:=hb.keep k2;replace bel:=bel.trans (k2.mono bel.size);rw[←hcs.out]at hb;obtain⟨c0,c1,c2,c3,c4,c5⟩:=OpV.at hb;go_wp2_with fail;refine gv H4 fun w3 k3=> ?_
  replace bel:=bel.trans (k3.mono bel.size);clear c0 c1 c2 c3 c4 c5;go_wp2;go_ret;exact⟨rfl,bel⟩
end Go.Proofs.YtclpbaokadfhhaaGreatDoor
