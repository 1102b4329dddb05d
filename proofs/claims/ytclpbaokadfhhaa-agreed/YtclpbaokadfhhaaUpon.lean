/- Contracts of agree's Upon and missive's Agree. -/
import Derived.Test.YtclpbaokadfhhaaWith
import Derived.Test.YtclpbaokadfhhaaNotKeys
namespace Go.Proofs.Ytclpbaokadfhhaa
open Go.RowKit

theorem of_length (s : List UInt8) : (Ff.of s).length = 5 := rfl
theorem bytes_zero : Ff.bytes [0, 0, 0, 0, 0] = zeros 32 := by decide +kernel
theorem buildZero (w : World) : (Instr.build 47 #[]).run Try.prog w = .ok (.agg (Ws [0, 0, 0, 0, 0])) w := run_build w _ _ _ (by kernel_rfl)
/-- what two agree upon -/
def agreed (secret point : List UInt8) : List UInt8 := ladBytes secret (Ff.of point)

set_option maxRecDepth 100000 in
set_option maxHeartbeats 2000000 in
theorem Upon_any (s p : ByteArray) (w : World) (hs : s.size = 32) (hp : p.size = 32) :
    Calls Try.prog 20 #[.string s, .string p] w fun e w' => e = .returned (.tuple #[.string ⟨(agreed s.data.toList p.data.toList).toArray⟩, .bool (!(agreed s.data.toList p.data.toList == zeros 32))]) ∧ Below w.heap.size w w' := by
  have H1 : Hid (∀ wx : World, Calls Try.prog 25 #[.string p] wx fun e w' => e = .returned (.agg (Ws (Ff.of p.data.toList))) ∧ Below wx.heap.size wx w') := fun wx => F_of p wx hp
  have H2 : Hid (∀ wx : World, Calls Try.prog 24 #[.string s, .agg (Ws (Ff.of p.data.toList))] wx fun e w' => e = .returned (.string ⟨(agreed s.data.toList p.data.toList).toArray⟩) ∧ Below wx.heap.size wx w') := fun wx => A_withNumber s _ wx hs (of_length _)
  have H3 : Hid (∀ wx : World, Calls Try.prog 26 #[.agg (Ws [0, 0, 0, 0, 0])] wx fun e w' => e = .returned (.string ⟨(zeros 32).toArray⟩) ∧ Below wx.heap.size wx w') := fun wx => by
    have := F_bytes [0, 0, 0, 0, 0] wx rfl
    rw [bytes_zero] at this
    exact this
  generalize agreed s.data.toList p.data.toList = R at H2 ⊢
  generalize Ff.of p.data.toList = V at H1 H2
  generalize hz : zeros 32 = Z at H3 ⊢
  replace hz : Hid (zeros 32 = Z) := hz
  go_enter Try.func20, Try.ntmps20
  go_wp2_with fail
  refine (H1.out _).mono ?_
  rintro e w1 ⟨rfl, b1⟩
  go_wp2_with fail
  refine (H2.out _).mono ?_
  rintro e w2 ⟨rfl, b2⟩
  have bel2 := b1.trans (b2.mono b1.size)
  clear b1 b2
  go_wp2_with (refine wpList_build rfl 47 _ rfl [] rfl _ (buildZero _) ?_)
  refine (H3.out _).mono ?_
  rintro e w3 ⟨rfl, b3⟩
  go_wp2
  go_ret2
  exact ⟨rfl, bel2.trans (b3.mono bel2.size)⟩

/-- what Agree answers -/
def AgreeR (s p : ByteArray) : ByteArray × Int :=
  if s.size = 32 ∧ p.size = 32 then (if agreed s.data.toList p.data.toList = zeros 32 then (⟨#[]⟩, 2) else (⟨(agreed s.data.toList p.data.toList).toArray⟩, 0)) else (⟨#[]⟩, 1)

set_option maxRecDepth 100000 in
set_option maxHeartbeats 2000000 in
theorem Agree_any (s p : ByteArray) (w : World) (hs : s.size ≤ 140737488351232) (hp : p.size ≤ 140737488351232) :
    Calls Try.prog 12 #[.string s, .string p] w fun e w' => e = .returned (.tuple #[.string (AgreeR s p).1, .int .i64 (AgreeR s p).2]) ∧ Below w.heap.size w w' := by
  have hbel : Below w.heap.size w (w.alloc (.cells (Ss [s, p]) 9)) := (Below.refl _ _).alloc (Nat.le_refl _) _
  have HT := notKeys_two s p w hs hp
  by_cases h : s.size = 32 ∧ p.size = 32
  · have e2 : decide (¬ (s.size = 32 ∧ p.size = 32)) = false := by simp [h.1, h.2]
    rw [e2] at HT
    replace HT : Hid (Calls Try.prog 18 #[.slice (some ⟨w.heap.size, 0, none⟩) 2 2] (w.alloc (.cells (Ss [s, p]) 9)) fun e w' => e = .returned (.bool false) ∧ w' = w.alloc (.cells (Ss [s, p]) 9)) := HT
    have HU : Hid (∀ wx : World, Calls Try.prog 20 #[.string s, .string p] wx fun e w' => e = .returned (.tuple #[.string ⟨(agreed s.data.toList p.data.toList).toArray⟩, .bool (!(agreed s.data.toList p.data.toList == zeros 32))]) ∧ Below wx.heap.size wx w') := fun wx => Upon_any s p wx h.1 h.2
    have e1 : AgreeR s p = if agreed s.data.toList p.data.toList = zeros 32 then (⟨#[]⟩, 2) else (⟨(agreed s.data.toList p.data.toList).toArray⟩, 0) := by unfold AgreeR; rw [if_pos h]
    rw [e1]
    generalize agreed s.data.toList p.data.toList = R at HU
    clear e1 e2
    by_cases hR : R = zeros 32
    · have hb : (!(R == zeros 32)) = false := by simp [hR]
      rw [hb] at HU
      rw [if_pos hR]
      clear hb hR
      go_enter Try.func12, Try.ntmps12
      go_wp2_with fail
      refine HT.out.mono ?_
      rintro e w' ⟨rfl, rfl⟩
      go_wp2_with fail
      refine (HU.out _).mono ?_
      rintro e w2 ⟨rfl, hb2⟩
      go_wp2
      go_ret2
      exact ⟨rfl, hbel.trans (hb2.mono hbel.size)⟩
    · have hb : (!(R == zeros 32)) = true := by simp [hR]
      rw [hb] at HU
      rw [if_neg hR]
      clear hb hR
      go_enter Try.func12, Try.ntmps12
      go_wp2_with fail
      refine HT.out.mono ?_
      rintro e w' ⟨rfl, rfl⟩
      go_wp2_with fail
      refine (HU.out _).mono ?_
      rintro e w2 ⟨rfl, hb2⟩
      go_wp2
      go_ret2
      exact ⟨rfl, hbel.trans (hb2.mono hbel.size)⟩
  · have e2 : decide (¬ (s.size = 32 ∧ p.size = 32)) = true := decide_eq_true h
    rw [e2] at HT
    replace HT : Hid (Calls Try.prog 18 #[.slice (some ⟨w.heap.size, 0, none⟩) 2 2] (w.alloc (.cells (Ss [s, p]) 9)) fun e w' => e = .returned (.bool true) ∧ w' = w.alloc (.cells (Ss [s, p]) 9)) := HT
    have e1 : AgreeR s p = (⟨#[]⟩, 1) := by unfold AgreeR; rw [if_neg h]
    rw [e1]
    clear e1 e2 h
    go_enter Try.func12, Try.ntmps12
    go_wp2_with fail
    refine HT.out.mono ?_
    rintro e w' ⟨rfl, rfl⟩
    go_wp2
    go_ret2
    exact ⟨rfl, hbel⟩

end Go.Proofs.Ytclpbaokadfhhaa
