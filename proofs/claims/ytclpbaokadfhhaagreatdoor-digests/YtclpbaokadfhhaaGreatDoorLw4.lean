/- Contracts of missivelaw's step (over any invariant of the world that the steps keep), still (of no list), resigns (of no letter). -/
import Derived.Test.YtclpbaokadfhhaaGreatDoorLw3
namespace Go.Proofs.YtclpbaokadfhhaaGreatDoor
open Go.RowKit

set_option maxRecDepth 100000 in
set_option maxHeartbeats 1000000 in
theorem L_still0 (v : Wv) (q : Nat) (w : World) (h0 : v.ln = 0) (hq : Blk w q v.cs 43) :
    Calls Tryz.prog 23 #[.pointer (some ⟨q, 0, none⟩)] w fun e w' => e = .returned (.bool true) ∧ w' = w := by
  obtain ⟨c0, c1, c2, c3, c4, c5⟩ := Wv.at hq
  rw [h0] at c4
  clear hq h0
  go_enter Tryz.func23, Tryz.ntmps23
  go_wp2_with fail
  go_loopw [3] (fun s wr => s = .int .i64 0 ∧ wr = w) (fun _ _ => 0)
  case atStart => exact ⟨rfl, rfl⟩
  case round =>
    obtain ⟨rfl, rfl⟩ := hrel
    go_wp2
    go_ret
    exact ⟨rfl, rfl⟩

set_option maxRecDepth 100000 in
set_option maxHeartbeats 1000000 in
theorem L_resigns0 (o : OpV) (v : Wv) (q : Nat) (w : World) (h0 : v.l.size = 0) (hq : Blk w q v.cs 43) :
    Calls Tryz.prog 49 #[.pointer (some ⟨q, 0, none⟩), .agg o.cs] w fun e w' => e = .returned (.tuple #[]) ∧ Below w.heap.size w w' := by
  have HI : Hid (∀ wx : World, Calls Tryz.prog 21 #[.string o.a] wx fun e w' => e = .returned (.tuple #[.string (Rp.idR o.a).1, .int .i64 (Rp.idR o.a).2]) ∧ Below wx.heap.size wx w') := fun wx => RIdentity_any o.a wx
  generalize (Rp.idR o.a).1 = X at HI
  generalize (Rp.idR o.a).2 = Y at HI
  have hq1 : Blk (w.alloc (.cells o.cs 45)) q v.cs 43 := hq.alloc _
  have hb : Blk (w.alloc (.cells o.cs 45)) w.heap.size o.cs 45 := Blk.new _ _ _
  have bel : Below w.heap.size w (w.alloc (.cells o.cs 45)) := (Below.refl _ _).alloc (Nat.le_refl _) _
  obtain ⟨c0, c1, c2, c3, c4, c5⟩ := OpV.at hb
  have sO := o.size
  generalize o.cs = CS at hq1 hb bel c0 c1 c2 c3 c4 c5 sO ⊢
  have e0 : ((v.l.size : Int)) = 0 := by omega
  clear hq
  go_enter Tryz.func49, Tryz.ntmps49
  go_wp2_with fail
  clear c0 c1 c2 c3 c4 c5 hb
  generalize w.alloc (.cells CS 45) = w1 at hq1 bel ⊢
  refine (HI.out _).mono ?_
  rintro e w2 ⟨rfl, k2⟩
  replace hq1 := hq1.keep k2
  replace bel := bel.trans (k2.mono bel.size)
  obtain ⟨c0, c1, c2, c3, c4, c5⟩ := Wv.at hq1
  clear k2 hq1
  go_wp2
  first
    | (refine bodyPost_ret (results_none rfl _ _ _) rfl ⟨rfl, bel⟩)
    | (go_ret; exact ⟨rfl, bel⟩)

set_option maxRecDepth 100000 in
set_option maxHeartbeats 8000000 in
theorem L_step (I : World → Prop) (hI : ∀ a b, I a → Below a.heap.size a b → I b) (o : OpV) (q : Nat) (w : World) (hw : I w)
    (H1 : Hid (o.k = 1 ∨ o.k = 2 ∨ o.k = 3 → ∀ wx : World, I wx → Calls Tryz.prog 41 #[.agg o.cs] wx fun e w' => e = .returned (.bool true) ∧ I w'))
    (H2 : Hid (o.k = 4 ∨ o.k = 5 → ∀ wx : World, I wx → Calls Tryz.prog 42 #[.pointer (some ⟨q, 0, none⟩), .agg o.cs] wx fun e w' => e = .returned (.bool true) ∧ I w'))
    (H3 : Hid (o.k = 6 ∨ o.k = 7 → ∀ wx : World, I wx → Calls Tryz.prog 43 #[.agg o.cs] wx fun e w' => e = .returned (.bool true) ∧ I w'))
    (H4 : Hid (o.k = 8 ∨ o.k = 9 ∨ o.k = 10 → ∀ wx : World, I wx → Calls Tryz.prog 44 #[.pointer (some ⟨q, 0, none⟩), .agg o.cs] wx fun e w' => e = .returned (.bool true) ∧ I w'))
    (H5 : Hid (o.k = 11 → ∀ wx : World, I wx → Calls Tryz.prog 45 #[.pointer (some ⟨q, 0, none⟩), .agg o.cs] wx fun e w' => e = .returned (.bool true) ∧ I w'))
    (H6 : Hid (o.k = 12 → ∀ wx : World, I wx → Calls Tryz.prog 46 #[.pointer (some ⟨q, 0, none⟩), .agg o.cs] wx fun e w' => e = .returned (.bool true) ∧ I w'))
    (H7 : Hid (o.k = 13 ∨ o.k = 14 → ∀ wx : World, I wx → Calls Tryz.prog 47 #[.pointer (some ⟨q, 0, none⟩), .agg o.cs] wx fun e w' => e = .returned (.bool true) ∧ I w'))
    (H8 : Hid (o.k = 15 → ∀ wx : World, I wx → Calls Tryz.prog 48 #[.pointer (some ⟨q, 0, none⟩), .agg o.cs] wx fun e w' => e = .returned (.tuple #[]) ∧ I w'))
    (H9 : Hid (o.k = 16 → ∀ wx : World, I wx → Calls Tryz.prog 49 #[.pointer (some ⟨q, 0, none⟩), .agg o.cs] wx fun e w' => e = .returned (.tuple #[]) ∧ I w'))
    : Calls Tryz.prog 22 #[.pointer (some ⟨q, 0, none⟩), .agg o.cs] w fun e w' => e = .returned (.bool true) ∧ I w' := by
  have hb : Blk (w.alloc (.cells o.cs 45)) w.heap.size o.cs 45 := Blk.new _ _ _
  have hi : Hid (I (w.alloc (.cells o.cs 45))) := hI _ _ hw ((Below.refl _ _).alloc (Nat.le_refl _) _)
  obtain ⟨c0, c1, c2, c3, c4, c5⟩ := OpV.at hb
  clear c1 c2 c3 c4 c5 hw
  have sO := o.size
  generalize o.cs = CS at hb hi c0 H1 H2 H3 H4 H5 H6 H7 H8 H9 sO ⊢
  unfold Blk at hb
  generalize o.k = K at c0 H1 H2 H3 H4 H5 H6 H7 H8 H9
  by_cases h1 : K = 1
  · subst h1
    replace H1 := H1.out (Or.inl rfl)
    have HH : Hid (∀ wx : World, I wx → Calls Tryz.prog 41 #[.agg CS] wx fun e w' => e = .returned (.bool true) ∧ I w') := H1
    clear H1 H2 H3 H4 H5 H6 H7 H8 H9
    go_enter Tryz.func22, Tryz.ntmps22
    go_wp2_with (refine wpList_load_row rfl 45 _ rfl (w.heap.size) rfl 45 _ (0, 0) _ hb Tryz.underlying45 rfl (by rw [sO]; exact Tryz.infoOp) ?_)
    clear c0 hb
    generalize w.alloc (.cells CS 45) = w1 at hi ⊢
    refine (HH.out _ hi.out).mono ?_
    rintro e w2 ⟨rfl, k2⟩
    replace k2 : Hid (I w2) := k2
    go_wp2
    go_ret
    exact ⟨rfl, k2.out⟩
  have d1 : (K == 1) = false := by rw [beq_eq_false_iff_ne]; exact h1
  replace h1 : Hid (¬ K = 1) := h1
  by_cases h2 : K = 2
  · subst h2
    replace H1 := H1.out (Or.inr (Or.inl rfl))
    have HH : Hid (∀ wx : World, I wx → Calls Tryz.prog 41 #[.agg CS] wx fun e w' => e = .returned (.bool true) ∧ I w') := H1
    clear H1 H2 H3 H4 H5 H6 H7 H8 H9
    go_enter Tryz.func22, Tryz.ntmps22
    go_wp2_with (refine wpList_load_row rfl 45 _ rfl (w.heap.size) rfl 45 _ (0, 0) _ hb Tryz.underlying45 rfl (by rw [sO]; exact Tryz.infoOp) ?_)
    clear c0 hb
    generalize w.alloc (.cells CS 45) = w1 at hi ⊢
    refine (HH.out _ hi.out).mono ?_
    rintro e w2 ⟨rfl, k2⟩
    replace k2 : Hid (I w2) := k2
    go_wp2
    go_ret
    exact ⟨rfl, k2.out⟩
  have d2 : (K == 2) = false := by rw [beq_eq_false_iff_ne]; exact h2
  replace h2 : Hid (¬ K = 2) := h2
  by_cases h3 : K = 3
  · subst h3
    replace H1 := H1.out (Or.inr (Or.inr rfl))
    have HH : Hid (∀ wx : World, I wx → Calls Tryz.prog 41 #[.agg CS] wx fun e w' => e = .returned (.bool true) ∧ I w') := H1
    clear H1 H2 H3 H4 H5 H6 H7 H8 H9
    go_enter Tryz.func22, Tryz.ntmps22
    go_wp2_with (refine wpList_load_row rfl 45 _ rfl (w.heap.size) rfl 45 _ (0, 0) _ hb Tryz.underlying45 rfl (by rw [sO]; exact Tryz.infoOp) ?_)
    clear c0 hb
    generalize w.alloc (.cells CS 45) = w1 at hi ⊢
    refine (HH.out _ hi.out).mono ?_
    rintro e w2 ⟨rfl, k2⟩
    replace k2 : Hid (I w2) := k2
    go_wp2
    go_ret
    exact ⟨rfl, k2.out⟩
  have d3 : (K == 3) = false := by rw [beq_eq_false_iff_ne]; exact h3
  replace h3 : Hid (¬ K = 3) := h3
  by_cases h4 : K = 4
  · subst h4
    replace H2 := H2.out (Or.inl rfl)
    have HH : Hid (∀ wx : World, I wx → Calls Tryz.prog 42 #[.pointer (some ⟨q, 0, none⟩), .agg CS] wx fun e w' => e = .returned (.bool true) ∧ I w') := H2
    clear H1 H2 H3 H4 H5 H6 H7 H8 H9
    go_enter Tryz.func22, Tryz.ntmps22
    go_wp2_with (refine wpList_load_row rfl 45 _ rfl (w.heap.size) rfl 45 _ (0, 0) _ hb Tryz.underlying45 rfl (by rw [sO]; exact Tryz.infoOp) ?_)
    clear c0 hb
    generalize w.alloc (.cells CS 45) = w1 at hi ⊢
    refine (HH.out _ hi.out).mono ?_
    rintro e w2 ⟨rfl, k2⟩
    replace k2 : Hid (I w2) := k2
    go_wp2
    go_ret
    exact ⟨rfl, k2.out⟩
  have d4 : (K == 4) = false := by rw [beq_eq_false_iff_ne]; exact h4
  replace h4 : Hid (¬ K = 4) := h4
  by_cases h5 : K = 5
  · subst h5
    replace H2 := H2.out (Or.inr rfl)
    have HH : Hid (∀ wx : World, I wx → Calls Tryz.prog 42 #[.pointer (some ⟨q, 0, none⟩), .agg CS] wx fun e w' => e = .returned (.bool true) ∧ I w') := H2
    clear H1 H2 H3 H4 H5 H6 H7 H8 H9
    go_enter Tryz.func22, Tryz.ntmps22
    go_wp2_with (refine wpList_load_row rfl 45 _ rfl (w.heap.size) rfl 45 _ (0, 0) _ hb Tryz.underlying45 rfl (by rw [sO]; exact Tryz.infoOp) ?_)
    clear c0 hb
    generalize w.alloc (.cells CS 45) = w1 at hi ⊢
    refine (HH.out _ hi.out).mono ?_
    rintro e w2 ⟨rfl, k2⟩
    replace k2 : Hid (I w2) := k2
    go_wp2
    go_ret
    exact ⟨rfl, k2.out⟩
  have d5 : (K == 5) = false := by rw [beq_eq_false_iff_ne]; exact h5
  replace h5 : Hid (¬ K = 5) := h5
  by_cases h6 : K = 6
  · subst h6
    replace H3 := H3.out (Or.inl rfl)
    have HH : Hid (∀ wx : World, I wx → Calls Tryz.prog 43 #[.agg CS] wx fun e w' => e = .returned (.bool true) ∧ I w') := H3
    clear H1 H2 H3 H4 H5 H6 H7 H8 H9
    go_enter Tryz.func22, Tryz.ntmps22
    go_wp2_with (refine wpList_load_row rfl 45 _ rfl (w.heap.size) rfl 45 _ (0, 0) _ hb Tryz.underlying45 rfl (by rw [sO]; exact Tryz.infoOp) ?_)
    clear c0 hb
    generalize w.alloc (.cells CS 45) = w1 at hi ⊢
    refine (HH.out _ hi.out).mono ?_
    rintro e w2 ⟨rfl, k2⟩
    replace k2 : Hid (I w2) := k2
    go_wp2
    go_ret
    exact ⟨rfl, k2.out⟩
  have d6 : (K == 6) = false := by rw [beq_eq_false_iff_ne]; exact h6
  replace h6 : Hid (¬ K = 6) := h6
  by_cases h7 : K = 7
  · subst h7
    replace H3 := H3.out (Or.inr rfl)
    have HH : Hid (∀ wx : World, I wx → Calls Tryz.prog 43 #[.agg CS] wx fun e w' => e = .returned (.bool true) ∧ I w') := H3
    clear H1 H2 H3 H4 H5 H6 H7 H8 H9
    go_enter Tryz.func22, Tryz.ntmps22
    go_wp2_with (refine wpList_load_row rfl 45 _ rfl (w.heap.size) rfl 45 _ (0, 0) _ hb Tryz.underlying45 rfl (by rw [sO]; exact Tryz.infoOp) ?_)
    clear c0 hb
    generalize w.alloc (.cells CS 45) = w1 at hi ⊢
    refine (HH.out _ hi.out).mono ?_
    rintro e w2 ⟨rfl, k2⟩
    replace k2 : Hid (I w2) := k2
    go_wp2
    go_ret
    exact ⟨rfl, k2.out⟩
  have d7 : (K == 7) = false := by rw [beq_eq_false_iff_ne]; exact h7
  replace h7 : Hid (¬ K = 7) := h7
  by_cases h8 : K = 8
  · subst h8
    replace H4 := H4.out (Or.inl rfl)
    have HH : Hid (∀ wx : World, I wx → Calls Tryz.prog 44 #[.pointer (some ⟨q, 0, none⟩), .agg CS] wx fun e w' => e = .returned (.bool true) ∧ I w') := H4
    clear H1 H2 H3 H4 H5 H6 H7 H8 H9
    go_enter Tryz.func22, Tryz.ntmps22
    go_wp2_with (refine wpList_load_row rfl 45 _ rfl (w.heap.size) rfl 45 _ (0, 0) _ hb Tryz.underlying45 rfl (by rw [sO]; exact Tryz.infoOp) ?_)
    clear c0 hb
    generalize w.alloc (.cells CS 45) = w1 at hi ⊢
    refine (HH.out _ hi.out).mono ?_
    rintro e w2 ⟨rfl, k2⟩
    replace k2 : Hid (I w2) := k2
    go_wp2
    go_ret
    exact ⟨rfl, k2.out⟩
  have d8 : (K == 8) = false := by rw [beq_eq_false_iff_ne]; exact h8
  replace h8 : Hid (¬ K = 8) := h8
  by_cases h9 : K = 9
  · subst h9
    replace H4 := H4.out (Or.inr (Or.inl rfl))
    have HH : Hid (∀ wx : World, I wx → Calls Tryz.prog 44 #[.pointer (some ⟨q, 0, none⟩), .agg CS] wx fun e w' => e = .returned (.bool true) ∧ I w') := H4
    clear H1 H2 H3 H4 H5 H6 H7 H8 H9
    go_enter Tryz.func22, Tryz.ntmps22
    go_wp2_with (refine wpList_load_row rfl 45 _ rfl (w.heap.size) rfl 45 _ (0, 0) _ hb Tryz.underlying45 rfl (by rw [sO]; exact Tryz.infoOp) ?_)
    clear c0 hb
    generalize w.alloc (.cells CS 45) = w1 at hi ⊢
    refine (HH.out _ hi.out).mono ?_
    rintro e w2 ⟨rfl, k2⟩
    replace k2 : Hid (I w2) := k2
    go_wp2
    go_ret
    exact ⟨rfl, k2.out⟩
  have d9 : (K == 9) = false := by rw [beq_eq_false_iff_ne]; exact h9
  replace h9 : Hid (¬ K = 9) := h9
  by_cases h10 : K = 10
  · subst h10
    replace H4 := H4.out (Or.inr (Or.inr rfl))
    have HH : Hid (∀ wx : World, I wx → Calls Tryz.prog 44 #[.pointer (some ⟨q, 0, none⟩), .agg CS] wx fun e w' => e = .returned (.bool true) ∧ I w') := H4
    clear H1 H2 H3 H4 H5 H6 H7 H8 H9
    go_enter Tryz.func22, Tryz.ntmps22
    go_wp2_with (refine wpList_load_row rfl 45 _ rfl (w.heap.size) rfl 45 _ (0, 0) _ hb Tryz.underlying45 rfl (by rw [sO]; exact Tryz.infoOp) ?_)
    clear c0 hb
    generalize w.alloc (.cells CS 45) = w1 at hi ⊢
    refine (HH.out _ hi.out).mono ?_
    rintro e w2 ⟨rfl, k2⟩
    replace k2 : Hid (I w2) := k2
    go_wp2
    go_ret
    exact ⟨rfl, k2.out⟩
  have d10 : (K == 10) = false := by rw [beq_eq_false_iff_ne]; exact h10
  replace h10 : Hid (¬ K = 10) := h10
  by_cases h11 : K = 11
  · subst h11
    replace H5 := H5.out (rfl)
    have HH : Hid (∀ wx : World, I wx → Calls Tryz.prog 45 #[.pointer (some ⟨q, 0, none⟩), .agg CS] wx fun e w' => e = .returned (.bool true) ∧ I w') := H5
    clear H1 H2 H3 H4 H5 H6 H7 H8 H9
    go_enter Tryz.func22, Tryz.ntmps22
    go_wp2_with (refine wpList_load_row rfl 45 _ rfl (w.heap.size) rfl 45 _ (0, 0) _ hb Tryz.underlying45 rfl (by rw [sO]; exact Tryz.infoOp) ?_)
    clear c0 hb
    generalize w.alloc (.cells CS 45) = w1 at hi ⊢
    refine (HH.out _ hi.out).mono ?_
    rintro e w2 ⟨rfl, k2⟩
    replace k2 : Hid (I w2) := k2
    go_wp2
    go_ret
    exact ⟨rfl, k2.out⟩
  have d11 : (K == 11) = false := by rw [beq_eq_false_iff_ne]; exact h11
  replace h11 : Hid (¬ K = 11) := h11
  by_cases h12 : K = 12
  · subst h12
    replace H6 := H6.out (rfl)
    have HH : Hid (∀ wx : World, I wx → Calls Tryz.prog 46 #[.pointer (some ⟨q, 0, none⟩), .agg CS] wx fun e w' => e = .returned (.bool true) ∧ I w') := H6
    clear H1 H2 H3 H4 H5 H6 H7 H8 H9
    go_enter Tryz.func22, Tryz.ntmps22
    go_wp2_with (refine wpList_load_row rfl 45 _ rfl (w.heap.size) rfl 45 _ (0, 0) _ hb Tryz.underlying45 rfl (by rw [sO]; exact Tryz.infoOp) ?_)
    clear c0 hb
    generalize w.alloc (.cells CS 45) = w1 at hi ⊢
    refine (HH.out _ hi.out).mono ?_
    rintro e w2 ⟨rfl, k2⟩
    replace k2 : Hid (I w2) := k2
    go_wp2
    go_ret
    exact ⟨rfl, k2.out⟩
  have d12 : (K == 12) = false := by rw [beq_eq_false_iff_ne]; exact h12
  replace h12 : Hid (¬ K = 12) := h12
  by_cases h13 : K = 13
  · subst h13
    replace H7 := H7.out (Or.inl rfl)
    have HH : Hid (∀ wx : World, I wx → Calls Tryz.prog 47 #[.pointer (some ⟨q, 0, none⟩), .agg CS] wx fun e w' => e = .returned (.bool true) ∧ I w') := H7
    clear H1 H2 H3 H4 H5 H6 H7 H8 H9
    go_enter Tryz.func22, Tryz.ntmps22
    go_wp2_with (refine wpList_load_row rfl 45 _ rfl (w.heap.size) rfl 45 _ (0, 0) _ hb Tryz.underlying45 rfl (by rw [sO]; exact Tryz.infoOp) ?_)
    clear c0 hb
    generalize w.alloc (.cells CS 45) = w1 at hi ⊢
    refine (HH.out _ hi.out).mono ?_
    rintro e w2 ⟨rfl, k2⟩
    replace k2 : Hid (I w2) := k2
    go_wp2
    go_ret
    exact ⟨rfl, k2.out⟩
  have d13 : (K == 13) = false := by rw [beq_eq_false_iff_ne]; exact h13
  replace h13 : Hid (¬ K = 13) := h13
  by_cases h14 : K = 14
  · subst h14
    replace H7 := H7.out (Or.inr rfl)
    have HH : Hid (∀ wx : World, I wx → Calls Tryz.prog 47 #[.pointer (some ⟨q, 0, none⟩), .agg CS] wx fun e w' => e = .returned (.bool true) ∧ I w') := H7
    clear H1 H2 H3 H4 H5 H6 H7 H8 H9
    go_enter Tryz.func22, Tryz.ntmps22
    go_wp2_with (refine wpList_load_row rfl 45 _ rfl (w.heap.size) rfl 45 _ (0, 0) _ hb Tryz.underlying45 rfl (by rw [sO]; exact Tryz.infoOp) ?_)
    clear c0 hb
    generalize w.alloc (.cells CS 45) = w1 at hi ⊢
    refine (HH.out _ hi.out).mono ?_
    rintro e w2 ⟨rfl, k2⟩
    replace k2 : Hid (I w2) := k2
    go_wp2
    go_ret
    exact ⟨rfl, k2.out⟩
  have d14 : (K == 14) = false := by rw [beq_eq_false_iff_ne]; exact h14
  replace h14 : Hid (¬ K = 14) := h14
  by_cases h15 : K = 15
  · subst h15
    replace H8 := H8.out (rfl)
    have HH : Hid (∀ wx : World, I wx → Calls Tryz.prog 48 #[.pointer (some ⟨q, 0, none⟩), .agg CS] wx fun e w' => e = .returned (.tuple #[]) ∧ I w') := H8
    clear H1 H2 H3 H4 H5 H6 H7 H8 H9
    go_enter Tryz.func22, Tryz.ntmps22
    go_wp2_with (refine wpList_load_row rfl 45 _ rfl (w.heap.size) rfl 45 _ (0, 0) _ hb Tryz.underlying45 rfl (by rw [sO]; exact Tryz.infoOp) ?_)
    clear c0 hb
    generalize w.alloc (.cells CS 45) = w1 at hi ⊢
    refine (HH.out _ hi.out).mono ?_
    rintro e w2 ⟨rfl, k2⟩
    replace k2 : Hid (I w2) := k2
    go_wp2
    go_ret
    exact ⟨rfl, k2.out⟩
  have d15 : (K == 15) = false := by rw [beq_eq_false_iff_ne]; exact h15
  replace h15 : Hid (¬ K = 15) := h15
  by_cases h16 : K = 16
  · subst h16
    replace H9 := H9.out (rfl)
    have HH : Hid (∀ wx : World, I wx → Calls Tryz.prog 49 #[.pointer (some ⟨q, 0, none⟩), .agg CS] wx fun e w' => e = .returned (.tuple #[]) ∧ I w') := H9
    clear H1 H2 H3 H4 H5 H6 H7 H8 H9
    go_enter Tryz.func22, Tryz.ntmps22
    go_wp2_with (refine wpList_load_row rfl 45 _ rfl (w.heap.size) rfl 45 _ (0, 0) _ hb Tryz.underlying45 rfl (by rw [sO]; exact Tryz.infoOp) ?_)
    clear c0 hb
    generalize w.alloc (.cells CS 45) = w1 at hi ⊢
    refine (HH.out _ hi.out).mono ?_
    rintro e w2 ⟨rfl, k2⟩
    replace k2 : Hid (I w2) := k2
    go_wp2
    go_ret
    exact ⟨rfl, k2.out⟩
  have d16 : (K == 16) = false := by rw [beq_eq_false_iff_ne]; exact h16
  replace h16 : Hid (¬ K = 16) := h16
  clear H1 H2 H3 H4 H5 H6 H7 H8 H9
  go_enter Tryz.func22, Tryz.ntmps22
  go_wp2_with (refine wpList_load_row rfl 45 _ rfl (w.heap.size) rfl 45 _ (0, 0) _ hb Tryz.underlying45 rfl (by rw [sO]; exact Tryz.infoOp) ?_)
  go_ret
  exact ⟨rfl, hi.out⟩
end Go.Proofs.YtclpbaokadfhhaaGreatDoor
