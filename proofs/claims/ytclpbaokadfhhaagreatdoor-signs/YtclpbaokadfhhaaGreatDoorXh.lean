import Derived.Test.YtclpbaokadfhhaaGreatDoorXg
set_option maxRecDepth 100000
set_option maxHeartbeats 2000000
namespace Go.Proofs.YtclpbaokadfhhaaGreatDoor.Mg
open Ed
open Gf (Fp ofN)
end Go.Proofs.YtclpbaokadfhhaaGreatDoor.Mg
namespace Go.Proofs.YtclpbaokadfhhaaGreatDoor
open Ff (W)
open Gf (Fp ofN)
open Ff (fe Small)
def nine:List (BitVec 64):= [9,0,0,0,0]
theorem l9:Small nine:=⟨rfl,by decide+kernel⟩
def aU(secret:List UInt8):List UInt8:=ci secret nine
end Go.Proofs.YtclpbaokadfhhaaGreatDoor
namespace Go.Proofs.YtclpbaokadfhhaaGreatDoor
open Go.RowKit
theorem nI(w:World):(Instr.build 69 #[(0,.int .u64 9)]).run Tryz.prog w= .ok (.agg (Ws nine)) w:=run_build w _ _ _ (by kernel_rfl)
theorem pI(s:ByteArray)(w:World)(hs:s.size=32):
  Rw 25 #[.string s] w (.string ⟨(aU s.data.toList).toArray⟩):=by
 have H2:Hid (Rv 50 #[.string s,.agg (Ws nine)] (.string ⟨(aU s.data.toList).toArray⟩)):=fun wx=>fG s _ wx hs rfl
 have HB:=nI;generalize aU s.data.toList=R at H2⊢;generalize nine=V at H2 HB;go_enter Tryz.func25,Tryz.ntmps25;go_wp2_with (refine cH rfl 69 _ rfl [(0,.int .u64 9)] rfl _ (HB _) ?_);refine gv H2 fun w2 b2=> ?_
 go_wp2;go_ret;exact⟨rfl,b2⟩
theorem mK(s:ByteArray)(w:World)(hs:s.size=32):
  Rw 12 #[.string s] w (.tuple #[.string ⟨(aU s.data.toList).toArray⟩,.int .i64 0]):=by
 have BI:Below w.heap.size w (w.alloc (.cells (Ss [s]) 9)):=bR.alloc nR _;have HT:=bJ s w (by omega);have e2:decide (¬(s.size=32))=false:=by simp[hs]
 rw[e2]at HT;replace HT:Hid (Calls Tryz.prog 24 #[.slice (some ⟨w.heap.size,0,none⟩) 1 1] (w.alloc (.cells (Ss [s]) 9)) fun e w'=>e= .returned (.bool false)∧w'=w.alloc (.cells (Ss [s]) 9)):=HT;have HU:Hid (Rv 25 #[.string s] (.string ⟨(aU s.data.toList).toArray⟩)):=fun wx=>pI s wx hs
 generalize aU s.data.toList=R at HU⊢;clear e2 hs;go_enter Tryz.func12,Tryz.ntmps12;go_wp2_with fail;refine HT.out.mono ?_;rintro e w' ⟨rfl,rfl⟩;go_wp2_with fail;refine gv HU fun w2 hb2=> ?_
 go_wp2;go_ret2;exact⟨rfl,BI.trans (hb2.mono BI.size)⟩
end Go.Proofs.YtclpbaokadfhhaaGreatDoor
