/- What comes out of a carry is small: plain lists. -/
import Derived.Test.YtclpbaokadfhhaaGreatDoorRFby
namespace Go.Proofs.YtclpbaokadfhhaaGreatDoor
namespace Fd

/-- what is handed into part i -/
def cy (l : List Int) : Nat → Int
  | 0 => 0
  | i + 1 => (l.getD i 0 + cy l i) / 65536

theorem pass_at (l : List Int) (hl : l.length = 16) (i : Nat) (hi : i ≤ 15) (j : Nat) (hj : j < 16) :
    (pass l i).getD j 0 = if j < i then (l.getD j 0 + cy l j) % 65536 else if j = i then l.getD j 0 + cy l i else l.getD j 0 := by
  induction i generalizing j with
  | zero =>
    rw [pass, if_neg (by omega)]
    split
    · simp [cy]
    · rfl
  | succ i ih =>
    have hlen := pass_length l i
    have h0 := ih (by omega) i (by omega)
    rw [if_neg (by omega), if_pos rfl] at h0
    have h1 := ih (by omega) (i + 1) (by omega)
    rw [if_neg (by omega), if_neg (by omega)] at h1
    rw [pass, step, if_pos (by omega)]
    unfold put1
    by_cases e1 : j = i + 1
    · subst e1
      rw [getD_set_self _ _ _ (by rw [List.length_set]; omega), getD_set_ne _ _ _ _ (by omega), h1, h0, if_neg (by omega), if_pos rfl, cy]
    · rw [getD_set_ne _ _ _ _ (by omega)]
      by_cases e2 : j = i
      · subst e2
        rw [getD_set_self _ _ _ (by omega), h0, if_pos (by omega)]
        omega
      · rw [getD_set_ne _ _ _ _ (by omega), ih (by omega) j hj]
        by_cases e3 : j < i
        · rw [if_pos e3, if_pos (by omega)]
        · rw [if_neg e3, if_neg (by omega), if_neg (by omega), if_neg e1]

theorem pass_end (l : List Int) (hl : l.length = 16) (j : Nat) (hj : j < 16) :
    (pass l 16).getD j 0 = if j = 0 then l.getD 0 0 % 65536 + 38 * cy l 16 else (l.getD j 0 + cy l j) % 65536 := by
  have hlen := pass_length l 15
  have h0 := pass_at l hl 15 (by omega) 0 (by omega)
  rw [if_pos (by omega)] at h0
  have h15 := pass_at l hl 15 (by omega) 15 (by omega)
  rw [if_neg (by omega), if_pos rfl] at h15
  rw [pass, step, if_neg (by omega)]
  unfold put1
  have e16 : cy l 16 = (l.getD 15 0 + cy l 15) / 65536 := rfl
  by_cases e : j = 0
  · subst e
    rw [getD_set_self _ _ _ (by rw [List.length_set]; omega), getD_set_ne _ _ _ _ (by omega), h0, h15, if_pos rfl, e16]
    simp [cy]
  · rw [getD_set_ne _ _ _ _ (by omega), if_neg e]
    by_cases e2 : j = 15
    · subst e2
      rw [getD_set_self _ _ _ (by omega), h15]; omega
    · rw [getD_set_ne _ _ _ _ (by omega), pass_at l hl 15 (by omega) j hj, if_pos (by omega)]

theorem cy_bd (l : List Int) (M : Int) (hM : 131072 ≤ M) (h : Bd M l) (i : Nat) : -(M / 32768) ≤ cy l i ∧ cy l i ≤ M / 32768 := by
  induction i with
  | zero => simp only [cy]; omega
  | succ i ih => have := h i; simp only [cy]; omega

/-- a number as it comes out of a carry -/
def Good (l : List Int) : Prop := l.length = 16 ∧ ∀ i, -38 ≤ l.getD i 0 ∧ l.getD i 0 ≤ 65573
theorem Good.bd {l : List Int} (h : Good l) : Bd 131072 l := fun i => by have := h.2 i; omega
theorem Good.bd' {l : List Int} (h : Good l) : Bd 562949953421312 l := fun i => by have := h.2 i; omega
theorem Good.bd2 {l : List Int} (h : Good l) : Bd 1125899906842624 l := fun i => by have := h.2 i; omega

theorem carry_good (l : List Int) (hl : l.length = 16) (h : Bd 1125899906842624 l) : Good (carry l) := by
  have h1 : ∀ j, j < 16 → (pass l 16).getD j 0 = if j = 0 then l.getD 0 0 % 65536 + 38 * cy l 16 else (l.getD j 0 + cy l j) % 65536 := fun j hj => pass_end l hl j hj
  have hc := cy_bd l _ (by omega) h 16
  have hl1 : (pass l 16).length = 16 := by rw [pass_length, hl]
  have hb0 : -1305670057985 * 1 ≤ (pass l 16).getD 0 0 ∧ (pass l 16).getD 0 0 ≤ 1305670123520 := by
    rw [h1 0 (by omega), if_pos rfl]; omega
  have hbj : ∀ j, 1 ≤ j → j < 16 → 0 ≤ (pass l 16).getD j 0 ∧ (pass l 16).getD j 0 ≤ 65535 := fun j h1j hj => by
    rw [h1 j hj, if_neg (by omega)]; omega
  have e : carry l = pass (pass l 16) 16 := rfl
  generalize pass l 16 = m at hb0 hbj hl1 e
  have k1 : -19922945 ≤ cy m 1 ∧ cy m 1 ≤ 19922945 := by simp only [cy]; omega
  have k2 : -305 ≤ cy m 2 ∧ cy m 2 ≤ 305 := by have := hbj 1 (by omega) (by omega); rw [cy]; omega
  have kk : ∀ d, d ≤ 13 → -1 ≤ cy m (3 + d) ∧ cy m (3 + d) ≤ 1 := fun d => by
    induction d with
    | zero => intro _; have := hbj 2 (by omega) (by omega); show -1 ≤ (m.getD 2 0 + cy m 2) / 65536 ∧ (m.getD 2 0 + cy m 2) / 65536 ≤ 1; omega
    | succ d ih =>
      intro hd
      have := hbj (3 + d) (by omega) (by omega)
      have := ih (by omega)
      show -1 ≤ (m.getD (3 + d) 0 + cy m (3 + d)) / 65536 ∧ (m.getD (3 + d) 0 + cy m (3 + d)) / 65536 ≤ 1
      omega
  refine ⟨by rw [e, pass_length, hl1], fun i => ?_⟩
  rw [e]
  by_cases hi : i < 16
  · rw [pass_end m hl1 i hi]
    have h16 := kk 13 (by omega)
    split
    · have e3 : cy m (3 + 13) = cy m 16 := rfl
      rw [e3] at h16
      omega
    · omega
  · rw [getD_ge _ _ (by rw [pass_length]; omega)]; omega

theorem plus_good (a b : List Int) (ha : Good a) (hb : Good b) : Good (plus a b) :=
  carry_good _ (by unfold add; rw [opTo_length, ha.1]) (op_bd _ a b ha.1 _ (by omega) (fun i => by have h1 := ha.2 i; have h2 := hb.2 i; show -1125899906842624 ≤ a.getD i 0 + b.getD i 0 ∧ a.getD i 0 + b.getD i 0 ≤ 1125899906842624; omega))
theorem minus_good (a b : List Int) (ha : Good a) (hb : Good b) : Good (minus a b) :=
  carry_good _ (by unfold sub; rw [opTo_length, ha.1]) (op_bd _ a b ha.1 _ (by omega) (fun i => by have h1 := ha.2 i; have h2 := hb.2 i; show -1125899906842624 ≤ a.getD i 0 - b.getD i 0 ∧ a.getD i 0 - b.getD i 0 ≤ 1125899906842624; omega))
theorem by_good (a b : List Int) (ha : Good a) (hb : Good b) : Good (by_ a b) :=
  carry_good _ (foldTo_length _ _) ((foldTo_bd _ 16 ((rowsTo_bd a b 16 ha.bd hb.bd).mono (by omega))).1.mono (by omega))
theorem small_good (n : Int) (h0 : -38 ≤ n) (h1 : n ≤ 65573) : Good (small n) := ⟨rfl, fun i => by
  unfold small
  by_cases e : 0 = i
  · subst e; rw [getD_set_self _ _ _ (by decide)]; omega
  · rw [getD_set_ne _ _ _ _ e]
    show -38 ≤ (List.replicate 16 (0 : Int)).getD i 0 ∧ (List.replicate 16 (0 : Int)).getD i 0 ≤ 65573
    rw [none_at]; omega⟩

end Fd
end Go.Proofs.YtclpbaokadfhhaaGreatDoor
