/- Contract of Derive of package missive. -/
import Derived.Test.YtclpbaokadfhhaaGreatDoorCalls
namespace Go.Proofs.YtclpbaokadfhhaaGreatDoor
open Go.RowKit

theorem derive_b (K : Nat → BitVec 64) (secret salt purpose : ByteArray) (n : Nat) (w : World) (h1 : secret.size ≤ 100000) (h2 : salt.size ≤ 100000) (h3 : purpose.size ≤ 100000) (hn : n ≤ 1000) (hK : Tab K w) :
    Calls Tryz.prog 59 #[.string secret, .string salt, .string purpose, .int .i64 n] w fun e w' => e = .returned (.string (Sha.DeriveB K secret salt purpose n)) ∧ Below w.heap.size w w' :=
  derive_any K secret salt purpose n w h1 h2 h3 hn hK

set_option maxRecDepth 100000 in
set_option maxHeartbeats 1000000 in
theorem Derive_any (K : Nat → BitVec 64) (a b c : ByteArray) (n : Int) (w : World) (h1 : a.size ≤ 140737488351232) (h2 : b.size ≤ 140737488351232) (h3 : c.size ≤ 140737488351232) (hK : Tab K w) :
    Calls Tryz.prog 30 #[.string a, .string b, .string c, .int .i64 n] w fun e w' => e = .returned (.tuple #[.string (Sha.DeriveR K a b c n).1, .int .i64 (Sha.DeriveR K a b c n).2]) ∧ Below w.heap.size w w' := by
  have hbel : Below w.heap.size w (w.alloc (.cells (Ss [a, b, c]) 9)) := (Below.refl _ _).alloc (Nat.le_refl _) _
  have HT : Hid (Calls Tryz.prog 27 #[.int .i64 10000, .slice (some ⟨w.heap.size, 0, none⟩) 3 3] (w.alloc (.cells (Ss [a, b, c]) 9)) fun e w' => e = .returned (.bool (anyLong 10000 [a, b, c])) ∧ w' = w.alloc (.cells (Ss [a, b, c]) 9)) :=
    tooLong_any w.heap.size 3 10000 [a, b, c] 9 _ (by omega) rfl (by omega) (Blk.new w _ _) (by intro j hj; match j, hj with | 0, _ => show a.size ≤ _; omega | 1, _ => show b.size ≤ _; omega | 2, _ => show c.size ≤ _; omega)
  by_cases h : a.size ≤ 10000 ∧ b.size ≤ 10000 ∧ c.size ≤ 10000
  · have e2 : anyLong 10000 [a, b, c] = false := by rw [any_three]; simp; omega
    rw [e2] at HT
    clear e2
    by_cases hn : 0 ≤ n ∧ n ≤ 1000
    · have e1 : Sha.DeriveR K a b c n = (Sha.DeriveB K a b c n.toNat, 0) := by unfold Sha.DeriveR; rw [if_pos ⟨h.1, h.2.1, h.2.2, hn⟩]
      rw [e1]
      clear e1
      obtain ⟨ha, hb, hc⟩ := h
      obtain ⟨hn0, hn1⟩ := hn
      obtain ⟨m, rfl⟩ := Int.eq_ofNat_of_zero_le hn0
      rw [Int.toNat_natCast]
      have d1 : decide ((m : Int) < 0) = false := by simp
      have d2 : decide ((1000 : Int) < (m : Int)) = false := by simp; omega
      go_enter Tryz.func30, Tryz.ntmps30
      go_wp2_with fail
      refine HT.out.mono ?_
      rintro e w' ⟨rfl, rfl⟩
      go_wp2_with fail
      refine (derive_b K a b c m _ (by omega) (by omega) (by omega) (by omega) (hK.below hbel)).mono ?_
      rintro e w2 ⟨rfl, hb2⟩
      go_wp2
      go_ret2
      exact ⟨rfl, hbel.trans (hb2.mono hbel.size)⟩
    · have e1 : Sha.DeriveR K a b c n = (⟨#[]⟩, 1) := by unfold Sha.DeriveR; rw [if_neg (fun h => hn h.2.2.2)]
      rw [e1]
      clear e1
      by_cases hn0 : n < 0
      · have d1 : decide (n < 0) = true := by simpa using hn0
        go_enter Tryz.func30, Tryz.ntmps30
        go_wp2_with fail
        refine HT.out.mono ?_
        rintro e w' ⟨rfl, rfl⟩
        go_wp2
        go_ret2
        exact ⟨rfl, hbel⟩
      · have d1 : decide (n < 0) = false := by simpa using hn0
        have d2 : decide (1000 < n) = true := by simp; omega
        have d3 : 1000 < n := by omega
        go_enter Tryz.func30, Tryz.ntmps30
        go_wp2_with fail
        refine HT.out.mono ?_
        rintro e w' ⟨rfl, rfl⟩
        go_wp2
        go_ret2
        exact ⟨rfl, hbel⟩
  · have e1 : Sha.DeriveR K a b c n = (⟨#[]⟩, 1) := by unfold Sha.DeriveR; rw [if_neg (fun h' => h ⟨h'.1, h'.2.1, h'.2.2.1⟩)]
    have e2 : anyLong 10000 [a, b, c] = true := by rw [any_three]; simp; omega
    rw [e2] at HT
    rw [e1]
    clear e1 e2
    go_enter Tryz.func30, Tryz.ntmps30
    go_wp2_with fail
    refine HT.out.mono ?_
    rintro e w' ⟨rfl, rfl⟩
    go_wp2
    go_ret2
    exact ⟨rfl, hbel⟩

end Go.Proofs.YtclpbaokadfhhaaGreatDoor
