/- Several texts as one: Vb, Pub. -/
import Derived.Test.YtclpbaokadfhhaaGreatDoorXg
import Derived.Test.YtclpbaokadfhhaaGreatDoorMg
import Derived.Test.YtclpbaokadfhhaaGreatDoorXs
namespace Go.Proofs.YtclpbaokadfhhaaGreatDoor
open Ff (W)
open Gf (Fp ofN)
open Ff (fe Small)
def nine : List (BitVec 64) := [9, 0, 0, 0, 0]
theorem nine_small : Small nine := ⟨rfl, by decide +kernel⟩
def publicOf (secret : List UInt8) : List UInt8 := ladBytes secret nine
end Go.Proofs.YtclpbaokadfhhaaGreatDoor
namespace Go.Proofs.YtclpbaokadfhhaaGreatDoor
open Go.RowKit
theorem buildNine (w : World) : (Instr.build 69 #[(0, .int .u64 9)]).run Tryz.prog w = .ok (.agg (Ws nine)) w := run_build w _ _ _ (by kernel_rfl)
set_option maxRecDepth 100000 in
set_option maxHeartbeats 2000000 in
theorem A_public (s : ByteArray) (w : World) (hs : s.size = 32) :
    Calls Tryz.prog 25 #[.string s] w fun e w' => e = .returned (.string ⟨(publicOf s.data.toList).toArray⟩) ∧ Below w.heap.size w w' := by
  have H2 : Hid (Rv 50 #[.string s, .agg (Ws nine)] (.string ⟨(publicOf s.data.toList).toArray⟩)) := fun wx => A_withNumber s _ wx hs rfl
  have HB := buildNine
  generalize publicOf s.data.toList = R at H2 ⊢
  generalize nine = V at H2 HB
  go_enter Tryz.func25, Tryz.ntmps25
  go_wp2_with (refine wpList_build rfl 69 _ rfl [(0, .int .u64 9)] rfl _ (HB _) ?_)
  refine (H2.out _).mono ?_
  rintro e w2 ⟨rfl, b2⟩
  go_wp2
  go_ret
  exact ⟨rfl, b2⟩
set_option maxRecDepth 100000 in
set_option maxHeartbeats 2000000 in
theorem Public_any (s : ByteArray) (w : World) (hs : s.size = 32) :
    Calls Tryz.prog 12 #[.string s] w fun e w' => e = .returned (.tuple #[.string ⟨(publicOf s.data.toList).toArray⟩, .int .i64 0]) ∧ Below w.heap.size w w' := by
  have hbel : Below w.heap.size w (w.alloc (.cells (Ss [s]) 9)) := (Below.refl _ _).alloc (Nat.le_refl _) _
  have HT := notKeys_one s w (by omega)
  have e2 : decide (¬ (s.size = 32)) = false := by simp [hs]
  rw [e2] at HT
  replace HT : Hid (Calls Tryz.prog 24 #[.slice (some ⟨w.heap.size, 0, none⟩) 1 1] (w.alloc (.cells (Ss [s]) 9)) fun e w' => e = .returned (.bool false) ∧ w' = w.alloc (.cells (Ss [s]) 9)) := HT
  have HU : Hid (Rv 25 #[.string s] (.string ⟨(publicOf s.data.toList).toArray⟩)) := fun wx => A_public s wx hs
  generalize publicOf s.data.toList = R at HU ⊢
  clear e2 hs
  go_enter Tryz.func12, Tryz.ntmps12
  go_wp2_with fail
  refine HT.out.mono ?_
  rintro e w' ⟨rfl, rfl⟩
  go_wp2_with fail
  refine (HU.out _).mono ?_
  rintro e w2 ⟨rfl, hb2⟩
  go_wp2
  go_ret2
  exact ⟨rfl, hbel.trans (hb2.mono hbel.size)⟩
end Go.Proofs.YtclpbaokadfhhaaGreatDoor
