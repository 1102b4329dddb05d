/- Contracts of agree's Public and missive's Public. -/
import Derived.Test.YtclpbaokadfhhaaVb
namespace Go.Proofs.Ytclpbaokadfhhaa
open Go.RowKit

theorem buildNine (w : World) : (Instr.build 47 #[(0, .int .u64 9)]).run Try.prog w = .ok (.agg (Ws nine)) w := run_build w _ _ _ (by kernel_rfl)

set_option maxRecDepth 100000 in
set_option maxHeartbeats 2000000 in
theorem A_public (s : ByteArray) (w : World) (hs : s.size = 32) :
    Calls Try.prog 19 #[.string s] w fun e w' => e = .returned (.string ⟨(publicOf s.data.toList).toArray⟩) ∧ Below w.heap.size w w' := by
  have H2 : Hid (∀ wx : World, Calls Try.prog 24 #[.string s, .agg (Ws nine)] wx fun e w' => e = .returned (.string ⟨(publicOf s.data.toList).toArray⟩) ∧ Below wx.heap.size wx w') := fun wx => A_withNumber s _ wx hs rfl
  have HB := buildNine
  generalize publicOf s.data.toList = R at H2 ⊢
  generalize nine = V at H2 HB
  go_enter Try.func19, Try.ntmps19
  go_wp2_with (refine wpList_build rfl 47 _ rfl [(0, .int .u64 9)] rfl _ (HB _) ?_)
  refine (H2.out _).mono ?_
  rintro e w2 ⟨rfl, b2⟩
  go_wp2
  go_ret
  exact ⟨rfl, b2⟩

set_option maxRecDepth 100000 in
set_option maxHeartbeats 2000000 in
theorem Public_any (s : ByteArray) (w : World) (hs : s.size = 32) :
    Calls Try.prog 11 #[.string s] w fun e w' => e = .returned (.tuple #[.string ⟨(publicOf s.data.toList).toArray⟩, .int .i64 0]) ∧ Below w.heap.size w w' := by
  have hbel : Below w.heap.size w (w.alloc (.cells (Ss [s]) 9)) := (Below.refl _ _).alloc (Nat.le_refl _) _
  have HT := notKeys_one s w (by omega)
  have e2 : decide (¬ (s.size = 32)) = false := by simp [hs]
  rw [e2] at HT
  replace HT : Hid (Calls Try.prog 18 #[.slice (some ⟨w.heap.size, 0, none⟩) 1 1] (w.alloc (.cells (Ss [s]) 9)) fun e w' => e = .returned (.bool false) ∧ w' = w.alloc (.cells (Ss [s]) 9)) := HT
  have HU : Hid (∀ wx : World, Calls Try.prog 19 #[.string s] wx fun e w' => e = .returned (.string ⟨(publicOf s.data.toList).toArray⟩) ∧ Below wx.heap.size wx w') := fun wx => A_public s wx hs
  generalize publicOf s.data.toList = R at HU ⊢
  clear e2 hs
  go_enter Try.func11, Try.ntmps11
  go_wp2_with fail
  refine HT.out.mono ?_
  rintro e w' ⟨rfl, rfl⟩
  go_wp2_with fail
  refine (HU.out _).mono ?_
  rintro e w2 ⟨rfl, hb2⟩
  go_wp2
  go_ret2
  exact ⟨rfl, hbel.trans (hb2.mono hbel.size)⟩

end Go.Proofs.Ytclpbaokadfhhaa
