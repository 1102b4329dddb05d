/- Several texts as one: Lw4, Lw5, Lw6. -/
import Derived.Test.YtclpbaokadfhhaaGreatDoorZk
import Derived.Great.BuildSlice
namespace Go.Proofs.YtclpbaokadfhhaaGreatDoor
open Go.RowKit
set_option maxRecDepth 100000 in
set_option maxHeartbeats 1000000 in
theorem L_still0 (v : Wv) (q : Nat) (w : World) (h0 : v.ln = 0) (hq : Blk w q v.cs 43) :
    Calls Tryz.prog 23 #[.pointer (some ⟨q, 0, none⟩)] w fun e w' => e = .returned (.bool true) ∧ w' = w := by
  obtain ⟨c0, c1, c2, c3, c4, c5⟩ := Wv.at hq
  rw [h0] at c4
  clear hq h0
  go_enter Tryz.func23, Tryz.ntmps23
  go_wp2_with fail
  go_loopw [3] (fun s wr => s = .int .i64 0 ∧ wr = w) (fun _ _ => 0)
  case atStart => exact ⟨rfl, rfl⟩
  case round =>
    obtain ⟨rfl, rfl⟩ := hrel
    go_wp2
    go_ret
    exact ⟨rfl, rfl⟩
set_option maxRecDepth 100000 in
set_option maxHeartbeats 1000000 in
theorem L_resigns0 (o : OpV) (v : Wv) (q : Nat) (w : World) (h0 : v.l.size = 0) (hq : Blk w q v.cs 43) :
    Calls Tryz.prog 49 #[.pointer (some ⟨q, 0, none⟩), .agg o.cs] w fun e w' => e = .returned (.tuple #[]) ∧ Below w.heap.size w w' := by
  have HI : Hid (Rv 21 #[.string o.a] (.tuple #[.string (Rp.idR o.a).1, .int .i64 (Rp.idR o.a).2])) := fun wx => RIdentity_any o.a wx
  generalize (Rp.idR o.a).1 = X at HI
  generalize (Rp.idR o.a).2 = Y at HI
  have hq1 : Blk (w.alloc (.cells o.cs 45)) q v.cs 43 := hq.alloc _
  have hb : Blk (w.alloc (.cells o.cs 45)) w.heap.size o.cs 45 := Blk.new _ _ _
  have bel : Below w.heap.size w (w.alloc (.cells o.cs 45)) := (Below.refl _ _).alloc (Nat.le_refl _) _
  obtain ⟨c0, c1, c2, c3, c4, c5⟩ := OpV.at hb
  have sO := o.size
  generalize o.cs = CS at hq1 hb bel c0 c1 c2 c3 c4 c5 sO ⊢
  have e0 : ((v.l.size : Int)) = 0 := by omega
  clear hq
  go_enter Tryz.func49, Tryz.ntmps49
  go_wp2_with fail
  clear c0 c1 c2 c3 c4 c5 hb
  generalize w.alloc (.cells CS 45) = w1 at hq1 bel ⊢
  refine (HI.out _).mono ?_
  rintro e w2 ⟨rfl, k2⟩
  replace hq1 := hq1.keep k2
  replace bel := bel.trans (k2.mono bel.size)
  obtain ⟨c0, c1, c2, c3, c4, c5⟩ := Wv.at hq1
  clear k2 hq1
  go_wp2
  first
    | (refine bodyPost_ret (results_none rfl _ _ _) rfl ⟨rfl, bel⟩)
    | (go_ret; exact ⟨rfl, bel⟩)
set_option maxRecDepth 100000 in
set_option maxHeartbeats 8000000 in
theorem L_step (I : World → Prop) (hI : ∀ a b, I a → Below a.heap.size a b → I b) (o : OpV) (q : Nat) (w : World) (hw : I w)
    (H1 : Hid (o.k = 1 ∨ o.k = 2 ∨ o.k = 3 → ∀ wx : World, I wx → Calls Tryz.prog 41 #[.agg o.cs] wx fun e w' => e = .returned (.bool true) ∧ I w'))
    (H2 : Hid (o.k = 4 ∨ o.k = 5 → ∀ wx : World, I wx → Calls Tryz.prog 42 #[.pointer (some ⟨q, 0, none⟩), .agg o.cs] wx fun e w' => e = .returned (.bool true) ∧ I w'))
    (H3 : Hid (o.k = 6 ∨ o.k = 7 → ∀ wx : World, I wx → Calls Tryz.prog 43 #[.agg o.cs] wx fun e w' => e = .returned (.bool true) ∧ I w'))
    (H4 : Hid (o.k = 8 ∨ o.k = 9 ∨ o.k = 10 → ∀ wx : World, I wx → Calls Tryz.prog 44 #[.pointer (some ⟨q, 0, none⟩), .agg o.cs] wx fun e w' => e = .returned (.bool true) ∧ I w'))
    (H5 : Hid (o.k = 11 → ∀ wx : World, I wx → Calls Tryz.prog 45 #[.pointer (some ⟨q, 0, none⟩), .agg o.cs] wx fun e w' => e = .returned (.bool true) ∧ I w'))
    (H6 : Hid (o.k = 12 → ∀ wx : World, I wx → Calls Tryz.prog 46 #[.pointer (some ⟨q, 0, none⟩), .agg o.cs] wx fun e w' => e = .returned (.bool true) ∧ I w'))
    (H7 : Hid (o.k = 13 ∨ o.k = 14 → ∀ wx : World, I wx → Calls Tryz.prog 47 #[.pointer (some ⟨q, 0, none⟩), .agg o.cs] wx fun e w' => e = .returned (.bool true) ∧ I w'))
    (H8 : Hid (o.k = 15 → ∀ wx : World, I wx → Calls Tryz.prog 48 #[.pointer (some ⟨q, 0, none⟩), .agg o.cs] wx fun e w' => e = .returned (.tuple #[]) ∧ I w'))
    (H9 : Hid (o.k = 16 → ∀ wx : World, I wx → Calls Tryz.prog 49 #[.pointer (some ⟨q, 0, none⟩), .agg o.cs] wx fun e w' => e = .returned (.tuple #[]) ∧ I w'))
    : Calls Tryz.prog 22 #[.pointer (some ⟨q, 0, none⟩), .agg o.cs] w fun e w' => e = .returned (.bool true) ∧ I w' := by
  have hb : Blk (w.alloc (.cells o.cs 45)) w.heap.size o.cs 45 := Blk.new _ _ _
  have hi : Hid (I (w.alloc (.cells o.cs 45))) := hI _ _ hw ((Below.refl _ _).alloc (Nat.le_refl _) _)
  obtain ⟨c0, c1, c2, c3, c4, c5⟩ := OpV.at hb
  clear c1 c2 c3 c4 c5 hw
  have sO := o.size
  generalize o.cs = CS at hb hi c0 H1 H2 H3 H4 H5 H6 H7 H8 H9 sO ⊢
  unfold Blk at hb
  generalize o.k = K at c0 H1 H2 H3 H4 H5 H6 H7 H8 H9
  by_cases h1 : K = 1
  · subst h1
    replace H1 := H1.out (Or.inl rfl)
    have HH : Hid (∀ wx : World, I wx → Calls Tryz.prog 41 #[.agg CS] wx fun e w' => e = .returned (.bool true) ∧ I w') := H1
    clear H1 H2 H3 H4 H5 H6 H7 H8 H9
    go_enter Tryz.func22, Tryz.ntmps22
    go_wp2_with (refine wpList_load_row rfl 45 _ rfl (w.heap.size) rfl 45 _ (0, 0) _ hb Tryz.underlying45 rfl (by rw [sO]; exact Tryz.infoOp) ?_)
    clear c0 hb
    generalize w.alloc (.cells CS 45) = w1 at hi ⊢
    refine (HH.out _ hi.out).mono ?_
    rintro e w2 ⟨rfl, k2⟩
    replace k2 : Hid (I w2) := k2
    go_wp2
    go_ret
    exact ⟨rfl, k2.out⟩
  have d1 : (K == 1) = false := by rw [beq_eq_false_iff_ne]; exact h1
  replace h1 : Hid (¬ K = 1) := h1
  by_cases h2 : K = 2
  · subst h2
    replace H1 := H1.out (Or.inr (Or.inl rfl))
    have HH : Hid (∀ wx : World, I wx → Calls Tryz.prog 41 #[.agg CS] wx fun e w' => e = .returned (.bool true) ∧ I w') := H1
    clear H1 H2 H3 H4 H5 H6 H7 H8 H9
    go_enter Tryz.func22, Tryz.ntmps22
    go_wp2_with (refine wpList_load_row rfl 45 _ rfl (w.heap.size) rfl 45 _ (0, 0) _ hb Tryz.underlying45 rfl (by rw [sO]; exact Tryz.infoOp) ?_)
    clear c0 hb
    generalize w.alloc (.cells CS 45) = w1 at hi ⊢
    refine (HH.out _ hi.out).mono ?_
    rintro e w2 ⟨rfl, k2⟩
    replace k2 : Hid (I w2) := k2
    go_wp2
    go_ret
    exact ⟨rfl, k2.out⟩
  have d2 : (K == 2) = false := by rw [beq_eq_false_iff_ne]; exact h2
  replace h2 : Hid (¬ K = 2) := h2
  by_cases h3 : K = 3
  · subst h3
    replace H1 := H1.out (Or.inr (Or.inr rfl))
    have HH : Hid (∀ wx : World, I wx → Calls Tryz.prog 41 #[.agg CS] wx fun e w' => e = .returned (.bool true) ∧ I w') := H1
    clear H1 H2 H3 H4 H5 H6 H7 H8 H9
    go_enter Tryz.func22, Tryz.ntmps22
    go_wp2_with (refine wpList_load_row rfl 45 _ rfl (w.heap.size) rfl 45 _ (0, 0) _ hb Tryz.underlying45 rfl (by rw [sO]; exact Tryz.infoOp) ?_)
    clear c0 hb
    generalize w.alloc (.cells CS 45) = w1 at hi ⊢
    refine (HH.out _ hi.out).mono ?_
    rintro e w2 ⟨rfl, k2⟩
    replace k2 : Hid (I w2) := k2
    go_wp2
    go_ret
    exact ⟨rfl, k2.out⟩
  have d3 : (K == 3) = false := by rw [beq_eq_false_iff_ne]; exact h3
  replace h3 : Hid (¬ K = 3) := h3
  by_cases h4 : K = 4
  · subst h4
    replace H2 := H2.out (Or.inl rfl)
    have HH : Hid (∀ wx : World, I wx → Calls Tryz.prog 42 #[.pointer (some ⟨q, 0, none⟩), .agg CS] wx fun e w' => e = .returned (.bool true) ∧ I w') := H2
    clear H1 H2 H3 H4 H5 H6 H7 H8 H9
    go_enter Tryz.func22, Tryz.ntmps22
    go_wp2_with (refine wpList_load_row rfl 45 _ rfl (w.heap.size) rfl 45 _ (0, 0) _ hb Tryz.underlying45 rfl (by rw [sO]; exact Tryz.infoOp) ?_)
    clear c0 hb
    generalize w.alloc (.cells CS 45) = w1 at hi ⊢
    refine (HH.out _ hi.out).mono ?_
    rintro e w2 ⟨rfl, k2⟩
    replace k2 : Hid (I w2) := k2
    go_wp2
    go_ret
    exact ⟨rfl, k2.out⟩
  have d4 : (K == 4) = false := by rw [beq_eq_false_iff_ne]; exact h4
  replace h4 : Hid (¬ K = 4) := h4
  by_cases h5 : K = 5
  · subst h5
    replace H2 := H2.out (Or.inr rfl)
    have HH : Hid (∀ wx : World, I wx → Calls Tryz.prog 42 #[.pointer (some ⟨q, 0, none⟩), .agg CS] wx fun e w' => e = .returned (.bool true) ∧ I w') := H2
    clear H1 H2 H3 H4 H5 H6 H7 H8 H9
    go_enter Tryz.func22, Tryz.ntmps22
    go_wp2_with (refine wpList_load_row rfl 45 _ rfl (w.heap.size) rfl 45 _ (0, 0) _ hb Tryz.underlying45 rfl (by rw [sO]; exact Tryz.infoOp) ?_)
    clear c0 hb
    generalize w.alloc (.cells CS 45) = w1 at hi ⊢
    refine (HH.out _ hi.out).mono ?_
    rintro e w2 ⟨rfl, k2⟩
    replace k2 : Hid (I w2) := k2
    go_wp2
    go_ret
    exact ⟨rfl, k2.out⟩
  have d5 : (K == 5) = false := by rw [beq_eq_false_iff_ne]; exact h5
  replace h5 : Hid (¬ K = 5) := h5
  by_cases h6 : K = 6
  · subst h6
    replace H3 := H3.out (Or.inl rfl)
    have HH : Hid (∀ wx : World, I wx → Calls Tryz.prog 43 #[.agg CS] wx fun e w' => e = .returned (.bool true) ∧ I w') := H3
    clear H1 H2 H3 H4 H5 H6 H7 H8 H9
    go_enter Tryz.func22, Tryz.ntmps22
    go_wp2_with (refine wpList_load_row rfl 45 _ rfl (w.heap.size) rfl 45 _ (0, 0) _ hb Tryz.underlying45 rfl (by rw [sO]; exact Tryz.infoOp) ?_)
    clear c0 hb
    generalize w.alloc (.cells CS 45) = w1 at hi ⊢
    refine (HH.out _ hi.out).mono ?_
    rintro e w2 ⟨rfl, k2⟩
    replace k2 : Hid (I w2) := k2
    go_wp2
    go_ret
    exact ⟨rfl, k2.out⟩
  have d6 : (K == 6) = false := by rw [beq_eq_false_iff_ne]; exact h6
  replace h6 : Hid (¬ K = 6) := h6
  by_cases h7 : K = 7
  · subst h7
    replace H3 := H3.out (Or.inr rfl)
    have HH : Hid (∀ wx : World, I wx → Calls Tryz.prog 43 #[.agg CS] wx fun e w' => e = .returned (.bool true) ∧ I w') := H3
    clear H1 H2 H3 H4 H5 H6 H7 H8 H9
    go_enter Tryz.func22, Tryz.ntmps22
    go_wp2_with (refine wpList_load_row rfl 45 _ rfl (w.heap.size) rfl 45 _ (0, 0) _ hb Tryz.underlying45 rfl (by rw [sO]; exact Tryz.infoOp) ?_)
    clear c0 hb
    generalize w.alloc (.cells CS 45) = w1 at hi ⊢
    refine (HH.out _ hi.out).mono ?_
    rintro e w2 ⟨rfl, k2⟩
    replace k2 : Hid (I w2) := k2
    go_wp2
    go_ret
    exact ⟨rfl, k2.out⟩
  have d7 : (K == 7) = false := by rw [beq_eq_false_iff_ne]; exact h7
  replace h7 : Hid (¬ K = 7) := h7
  by_cases h8 : K = 8
  · subst h8
    replace H4 := H4.out (Or.inl rfl)
    have HH : Hid (∀ wx : World, I wx → Calls Tryz.prog 44 #[.pointer (some ⟨q, 0, none⟩), .agg CS] wx fun e w' => e = .returned (.bool true) ∧ I w') := H4
    clear H1 H2 H3 H4 H5 H6 H7 H8 H9
    go_enter Tryz.func22, Tryz.ntmps22
    go_wp2_with (refine wpList_load_row rfl 45 _ rfl (w.heap.size) rfl 45 _ (0, 0) _ hb Tryz.underlying45 rfl (by rw [sO]; exact Tryz.infoOp) ?_)
    clear c0 hb
    generalize w.alloc (.cells CS 45) = w1 at hi ⊢
    refine (HH.out _ hi.out).mono ?_
    rintro e w2 ⟨rfl, k2⟩
    replace k2 : Hid (I w2) := k2
    go_wp2
    go_ret
    exact ⟨rfl, k2.out⟩
  have d8 : (K == 8) = false := by rw [beq_eq_false_iff_ne]; exact h8
  replace h8 : Hid (¬ K = 8) := h8
  by_cases h9 : K = 9
  · subst h9
    replace H4 := H4.out (Or.inr (Or.inl rfl))
    have HH : Hid (∀ wx : World, I wx → Calls Tryz.prog 44 #[.pointer (some ⟨q, 0, none⟩), .agg CS] wx fun e w' => e = .returned (.bool true) ∧ I w') := H4
    clear H1 H2 H3 H4 H5 H6 H7 H8 H9
    go_enter Tryz.func22, Tryz.ntmps22
    go_wp2_with (refine wpList_load_row rfl 45 _ rfl (w.heap.size) rfl 45 _ (0, 0) _ hb Tryz.underlying45 rfl (by rw [sO]; exact Tryz.infoOp) ?_)
    clear c0 hb
    generalize w.alloc (.cells CS 45) = w1 at hi ⊢
    refine (HH.out _ hi.out).mono ?_
    rintro e w2 ⟨rfl, k2⟩
    replace k2 : Hid (I w2) := k2
    go_wp2
    go_ret
    exact ⟨rfl, k2.out⟩
  have d9 : (K == 9) = false := by rw [beq_eq_false_iff_ne]; exact h9
  replace h9 : Hid (¬ K = 9) := h9
  by_cases h10 : K = 10
  · subst h10
    replace H4 := H4.out (Or.inr (Or.inr rfl))
    have HH : Hid (∀ wx : World, I wx → Calls Tryz.prog 44 #[.pointer (some ⟨q, 0, none⟩), .agg CS] wx fun e w' => e = .returned (.bool true) ∧ I w') := H4
    clear H1 H2 H3 H4 H5 H6 H7 H8 H9
    go_enter Tryz.func22, Tryz.ntmps22
    go_wp2_with (refine wpList_load_row rfl 45 _ rfl (w.heap.size) rfl 45 _ (0, 0) _ hb Tryz.underlying45 rfl (by rw [sO]; exact Tryz.infoOp) ?_)
    clear c0 hb
    generalize w.alloc (.cells CS 45) = w1 at hi ⊢
    refine (HH.out _ hi.out).mono ?_
    rintro e w2 ⟨rfl, k2⟩
    replace k2 : Hid (I w2) := k2
    go_wp2
    go_ret
    exact ⟨rfl, k2.out⟩
  have d10 : (K == 10) = false := by rw [beq_eq_false_iff_ne]; exact h10
  replace h10 : Hid (¬ K = 10) := h10
  by_cases h11 : K = 11
  · subst h11
    replace H5 := H5.out (rfl)
    have HH : Hid (∀ wx : World, I wx → Calls Tryz.prog 45 #[.pointer (some ⟨q, 0, none⟩), .agg CS] wx fun e w' => e = .returned (.bool true) ∧ I w') := H5
    clear H1 H2 H3 H4 H5 H6 H7 H8 H9
    go_enter Tryz.func22, Tryz.ntmps22
    go_wp2_with (refine wpList_load_row rfl 45 _ rfl (w.heap.size) rfl 45 _ (0, 0) _ hb Tryz.underlying45 rfl (by rw [sO]; exact Tryz.infoOp) ?_)
    clear c0 hb
    generalize w.alloc (.cells CS 45) = w1 at hi ⊢
    refine (HH.out _ hi.out).mono ?_
    rintro e w2 ⟨rfl, k2⟩
    replace k2 : Hid (I w2) := k2
    go_wp2
    go_ret
    exact ⟨rfl, k2.out⟩
  have d11 : (K == 11) = false := by rw [beq_eq_false_iff_ne]; exact h11
  replace h11 : Hid (¬ K = 11) := h11
  by_cases h12 : K = 12
  · subst h12
    replace H6 := H6.out (rfl)
    have HH : Hid (∀ wx : World, I wx → Calls Tryz.prog 46 #[.pointer (some ⟨q, 0, none⟩), .agg CS] wx fun e w' => e = .returned (.bool true) ∧ I w') := H6
    clear H1 H2 H3 H4 H5 H6 H7 H8 H9
    go_enter Tryz.func22, Tryz.ntmps22
    go_wp2_with (refine wpList_load_row rfl 45 _ rfl (w.heap.size) rfl 45 _ (0, 0) _ hb Tryz.underlying45 rfl (by rw [sO]; exact Tryz.infoOp) ?_)
    clear c0 hb
    generalize w.alloc (.cells CS 45) = w1 at hi ⊢
    refine (HH.out _ hi.out).mono ?_
    rintro e w2 ⟨rfl, k2⟩
    replace k2 : Hid (I w2) := k2
    go_wp2
    go_ret
    exact ⟨rfl, k2.out⟩
  have d12 : (K == 12) = false := by rw [beq_eq_false_iff_ne]; exact h12
  replace h12 : Hid (¬ K = 12) := h12
  by_cases h13 : K = 13
  · subst h13
    replace H7 := H7.out (Or.inl rfl)
    have HH : Hid (∀ wx : World, I wx → Calls Tryz.prog 47 #[.pointer (some ⟨q, 0, none⟩), .agg CS] wx fun e w' => e = .returned (.bool true) ∧ I w') := H7
    clear H1 H2 H3 H4 H5 H6 H7 H8 H9
    go_enter Tryz.func22, Tryz.ntmps22
    go_wp2_with (refine wpList_load_row rfl 45 _ rfl (w.heap.size) rfl 45 _ (0, 0) _ hb Tryz.underlying45 rfl (by rw [sO]; exact Tryz.infoOp) ?_)
    clear c0 hb
    generalize w.alloc (.cells CS 45) = w1 at hi ⊢
    refine (HH.out _ hi.out).mono ?_
    rintro e w2 ⟨rfl, k2⟩
    replace k2 : Hid (I w2) := k2
    go_wp2
    go_ret
    exact ⟨rfl, k2.out⟩
  have d13 : (K == 13) = false := by rw [beq_eq_false_iff_ne]; exact h13
  replace h13 : Hid (¬ K = 13) := h13
  by_cases h14 : K = 14
  · subst h14
    replace H7 := H7.out (Or.inr rfl)
    have HH : Hid (∀ wx : World, I wx → Calls Tryz.prog 47 #[.pointer (some ⟨q, 0, none⟩), .agg CS] wx fun e w' => e = .returned (.bool true) ∧ I w') := H7
    clear H1 H2 H3 H4 H5 H6 H7 H8 H9
    go_enter Tryz.func22, Tryz.ntmps22
    go_wp2_with (refine wpList_load_row rfl 45 _ rfl (w.heap.size) rfl 45 _ (0, 0) _ hb Tryz.underlying45 rfl (by rw [sO]; exact Tryz.infoOp) ?_)
    clear c0 hb
    generalize w.alloc (.cells CS 45) = w1 at hi ⊢
    refine (HH.out _ hi.out).mono ?_
    rintro e w2 ⟨rfl, k2⟩
    replace k2 : Hid (I w2) := k2
    go_wp2
    go_ret
    exact ⟨rfl, k2.out⟩
  have d14 : (K == 14) = false := by rw [beq_eq_false_iff_ne]; exact h14
  replace h14 : Hid (¬ K = 14) := h14
  by_cases h15 : K = 15
  · subst h15
    replace H8 := H8.out (rfl)
    have HH : Hid (∀ wx : World, I wx → Calls Tryz.prog 48 #[.pointer (some ⟨q, 0, none⟩), .agg CS] wx fun e w' => e = .returned (.tuple #[]) ∧ I w') := H8
    clear H1 H2 H3 H4 H5 H6 H7 H8 H9
    go_enter Tryz.func22, Tryz.ntmps22
    go_wp2_with (refine wpList_load_row rfl 45 _ rfl (w.heap.size) rfl 45 _ (0, 0) _ hb Tryz.underlying45 rfl (by rw [sO]; exact Tryz.infoOp) ?_)
    clear c0 hb
    generalize w.alloc (.cells CS 45) = w1 at hi ⊢
    refine (HH.out _ hi.out).mono ?_
    rintro e w2 ⟨rfl, k2⟩
    replace k2 : Hid (I w2) := k2
    go_wp2
    go_ret
    exact ⟨rfl, k2.out⟩
  have d15 : (K == 15) = false := by rw [beq_eq_false_iff_ne]; exact h15
  replace h15 : Hid (¬ K = 15) := h15
  by_cases h16 : K = 16
  · subst h16
    replace H9 := H9.out (rfl)
    have HH : Hid (∀ wx : World, I wx → Calls Tryz.prog 49 #[.pointer (some ⟨q, 0, none⟩), .agg CS] wx fun e w' => e = .returned (.tuple #[]) ∧ I w') := H9
    clear H1 H2 H3 H4 H5 H6 H7 H8 H9
    go_enter Tryz.func22, Tryz.ntmps22
    go_wp2_with (refine wpList_load_row rfl 45 _ rfl (w.heap.size) rfl 45 _ (0, 0) _ hb Tryz.underlying45 rfl (by rw [sO]; exact Tryz.infoOp) ?_)
    clear c0 hb
    generalize w.alloc (.cells CS 45) = w1 at hi ⊢
    refine (HH.out _ hi.out).mono ?_
    rintro e w2 ⟨rfl, k2⟩
    replace k2 : Hid (I w2) := k2
    go_wp2
    go_ret
    exact ⟨rfl, k2.out⟩
  have d16 : (K == 16) = false := by rw [beq_eq_false_iff_ne]; exact h16
  replace h16 : Hid (¬ K = 16) := h16
  clear H1 H2 H3 H4 H5 H6 H7 H8 H9
  go_enter Tryz.func22, Tryz.ntmps22
  go_wp2_with (refine wpList_load_row rfl 45 _ rfl (w.heap.size) rfl 45 _ (0, 0) _ hb Tryz.underlying45 rfl (by rw [sO]; exact Tryz.infoOp) ?_)
  go_ret
  exact ⟨rfl, hi.out⟩
end Go.Proofs.YtclpbaokadfhhaaGreatDoor
namespace Go.Proofs.YtclpbaokadfhhaaGreatDoor
open Go.RowKit
def kk : ByteArray := ⟨#[48, 49, 50, 51, 52, 53, 54, 55, 56, 57, 97, 98, 99, 100, 101, 102, 48, 49, 50, 51, 52, 53, 54, 55, 56, 57, 97, 98, 99, 100, 101, 102]⟩
def k12 : ByteArray := ⟨#[48, 49, 50, 51, 52, 53, 54, 55, 56, 57, 97, 98]⟩
def kk2 : ByteArray := ⟨#[48, 49, 50, 51, 52, 53, 54, 55, 56, 57, 97, 98, 99, 100, 101, 102, 48, 49, 50, 51, 52, 53, 54, 55, 56, 57, 97, 98, 99, 100, 101, 102, 48, 49, 50, 51, 52, 53, 54, 55, 56, 57, 97, 98, 99, 100, 101, 102, 48, 49, 50, 51, 52, 53, 54, 55, 56, 57, 97, 98, 99, 100, 101, 102]⟩
def tx (l : List UInt8) : ByteArray := ⟨l.toArray⟩
def op6 (k n : Int) (a b c d : ByteArray) : OpV := { k := k, n := n, a := a, b := b, c := c, d := d, p := none, ln := 0, cp := 0 }
def firsts (_p a : ByteArray) (b1 : Nat) : List OpV :=
  [op6 1 0 (tx [97, 98, 99]) (tx []) (tx []) (tx []),
   op6 2 0 (tx [107]) (tx [100]) (tx []) (tx []),
   op6 3 70 (tx [115]) (tx []) (tx []) (tx []),
   op6 4 0 kk k12 (tx [116]) (tx [100, 97, 116, 97]),
   op6 5 0 kk k12 (tx [116]) (tx []),
   op6 6 0 kk (tx []) (tx []) (tx []),
   op6 7 0 kk kk (tx []) (tx []),
   op6 8 0 kk (tx []) (tx []) (tx []),
   op6 9 0 kk (tx [100, 97, 116, 97]) (tx []) (tx []),
   op6 10 0 a (tx [100, 97, 116, 97]) (tx []) (tx []),
   { k := 11, n := 0, a := kk, b := kk2, c := tx [100, 97, 116, 97], d := tx [], p := some ⟨b1, 0, none⟩, ln := 1, cp := 1 },
   op6 12 0 kk (tx []) (tx []) (tx []),
   op6 13 0 (tx [72, 105]) (tx []) (tx []) (tx []),
   op6 14 0 (tx []) (tx []) (tx []) (tx [])]
def nth (p a : ByteArray) (b1 j : Nat) : OpV := (firsts p a b1).getD j (op6 0 0 (tx []) (tx []) (tx []) (tx []))
def rows14 (p a : ByteArray) (b1 : Nat) : Array Value := ((firsts p a b1).flatMap OpV.row).toArray
def zeroV : Wv := { c := tx [], s := tx [], l := tx [], t := tx [], lp := none, ln := 0, lc := 0, mp := none, mn := 0, mc := 0 }
theorem flat_at : ∀ (l : List OpV) (i : Nat) (o : OpV), l[i]? = some o → ∀ (j : Nat) (v : Value), o.row[j]? = some v → (l.flatMap OpV.row)[7 * i + j]? = some v
  | [], i, o, h, _, _, _ => by simp at h
  | x :: l, 0, o, h, j, v, hv => by
    simp only [List.getElem?_cons_zero, Option.some.injEq] at h
    subst h
    rw [List.flatMap_cons, Nat.mul_zero, Nat.zero_add, List.getElem?_append_left (List.getElem?_eq_some_iff.1 hv).1]
    exact hv
  | x :: l, i + 1, o, h, j, v, hv => by
    rw [List.getElem?_cons_succ] at h
    have := flat_at l i o h j v hv
    rw [List.flatMap_cons, List.getElem?_append_right (by show 7 ≤ _; omega)]
    rw [show 7 * (i + 1) + j - x.row.length = 7 * i + j from by show 7 * (i + 1) + j - 7 = _; omega]
    exact this
theorem range14 {w : World} {b t : Nat} {p a : ByteArray} {b1 : Nat} (h : Blk w b (rows14 p a b1) t) (j : Nat) (hj : j < 14) : w.rangeAt b (j * 7) (nth p a b1 j).row := by
  intro k v hv
  rw [h.cell, Nat.mul_comm]
  unfold rows14
  rw [List.getElem?_toArray]
  refine flat_at _ j _ ?_ k v hv
  unfold nth
  rw [List.getD_eq_getElem?_getD, List.getElem?_eq_getElem (show j < (firsts p a b1).length from hj)]
  rfl
theorem But.range {q b off : Nat} {w w' : World} {vs : List Value} (h : But q w w') (hr : w.rangeAt b off vs) (hb : b < w.heap.size) (hne : b ≠ q) : w'.rangeAt b off vs := fun k v hv => by
  have := hr k v hv
  unfold World.cell? at this ⊢
  rw [h.other b hb hne]; exact this
theorem below_range {B b off : Nat} {w w' : World} {vs : List Value} (h : Below B w w') (hr : w.rangeAt b off vs) (hb : b < B) : w'.rangeAt b off vs := fun k v hv => by
  rw [h.cell (p := ⟨b, off + k, none⟩) hb]; exact hr k v hv
theorem OpV.rangeK {w : World} {b off : Nat} {o : OpV} (h : w.rangeAt b off o.row) : w.cell? ⟨b, off, none⟩ = some (.int .i64 o.k) := h 0 _ rfl
theorem OpV.toL (o : OpV) : o.cs.toList = o.row := by unfold OpV.cs; simp
def zeroOp : OpV := op6 0 0 (tx []) (tx []) (tx []) (tx [])
theorem infoStr : ∃ ie, Tryz.prog.info? 9 = some ie ∧ ie.size = 1 ∧ ie.zero = some (.string (tx [])) := by
  have h : ((Tryz.prog.info? 9).map fun i => (i.size, i.zero)) = some (1, some (.string (tx []))) := by kernel_rfl
  cases hi : Tryz.prog.info? 9 with
  | none => rw [hi] at h; cases h
  | some ie =>
    rw [hi] at h
    simp only [Option.map_some, Option.some.injEq, Prod.mk.injEq] at h
    exact ⟨ie, rfl, h.1, h.2⟩
theorem infoOpz : ∃ ie, Tryz.prog.info? 45 = some ie ∧ ie.size = 7 ∧ ie.zero = some (.agg zeroOp.cs) := by
  have h : ((Tryz.prog.info? 45).map fun i => (i.size, i.zero)) = some (7, some (.agg zeroOp.cs)) := by kernel_rfl
  cases hi : Tryz.prog.info? 45 with
  | none => rw [hi] at h; cases h
  | some ie =>
    rw [hi] at h
    simp only [Option.map_some, Option.some.injEq, Prod.mk.injEq] at h
    exact ⟨ie, rfl, h.1, h.2⟩
theorem fill1 (s : ByteArray) : Instr.fill (fun i => some (i * 1, 1)) (Array.map (fun x => (Value.string (tx [])).cells[x % (Value.string (tx [])).cells.size]!) (Array.range (1 * 1))) [(0, Value.string s)] = some #[Value.string s] := by kernel_rfl
theorem wp_bsS {o : Oper} {a : Act} {w : World} {K : Act → World → Prop} {Q : Exit → Act → World → Prop} (parts : List (Nat × Operand)) (ho : o.op = .buildSlice 25 1 parts.toArray) (s : ByteArray)
    (hf : parts.map (fun p => (p.1, a.eval p.2)) = [(0, .string s)])
    (h : K (a.put o.dst (.slice (some ⟨w.heap.size, 0, none⟩) 1 1)) (w.alloc (.cells #[.string s] 9))) : o.wp Tryz.prog a w K Q := by
  obtain ⟨ie, h1, h2, h3⟩ := infoStr
  refine wp_buildSlice 25 9 1 parts.toArray ho #[.string s] ie _ Tryz.underlying25 h1 h3 (by rw [h2]; decide) (by rw [h2]; decide) ?_ h
  rw [h2, show (parts.toArray.map fun (i, x) => (i, a.eval x)).toList = [(0, .string s)] by rw [← hf]; simp]; exact fill1 s
theorem wp_bsO {o : Oper} {a : Act} {w : World} {K : Act → World → Prop} {Q : Exit → Act → World → Prop} (parts : List (Nat × Operand)) (ho : o.op = .buildSlice 22 14 parts.toArray) (cells : Array Value) (vs : List (Nat × Value))
    (hv : parts.map (fun p => (p.1, a.eval p.2)) = vs)
    (hf : Instr.fill (fun i => some (i * 7, 7)) ((Array.range (14 * 7)).map fun i => zeroOp.cs[i % 7]!) vs = some cells)
    (h : K (a.put o.dst (.slice (some ⟨w.heap.size, 0, none⟩) 14 14)) (w.alloc (.cells cells 45))) : o.wp Tryz.prog a w K Q := by
  obtain ⟨ie, h1, h2, h3⟩ := infoOpz
  refine wp_buildSlice 22 45 14 parts.toArray ho cells ie _ Tryz.underlying22 h1 h3 (by rw [h2]; decide) (by rw [h2]; decide) ?_ h
  rw [h2, show (parts.toArray.map fun (i, x) => (i, a.eval x)).toList = vs by rw [← hv]; simp]; exact hf
theorem fill14 (p a : ByteArray) (b1 : Nat) : Instr.fill (fun i => some (i * 7, 7)) ((Array.range (14 * 7)).map fun i => zeroOp.cs[i % 7]!) ((firsts p a b1).zipIdx.map fun x => (x.2, .agg x.1.cs)) = some (rows14 p a b1) := by kernel_rfl
set_option maxRecDepth 100000 in
set_option maxHeartbeats 8000000 in
theorem L_played (frm last : Int) (sp : Option Addr) (n cp : Nat) (O : Nat → OpV) (w : World) (hf8 : (frm == 8) = false) (hf11 : (frm == 11) = false)
    (hn : n ≤ 140737488355328)
    (hs : ∀ i, i < n → ∃ b off, sp = some ⟨b, off, none⟩ ∧ b < w.heap.size ∧ w.rangeAt b (off + i * 7) (O i).row)
    (I : Nat → World → World → Prop)
    (h0 : ∀ b1 w1, Below w.heap.size w w1 → w.heap.size < b1 → Blk w1 w.heap.size zeroV.cs 43 → Blk w1 b1 #[.string (tx [57])] 9 → I b1 w1 w1)
    (hBut : ∀ b1 w1 wx, I b1 w1 wx → But w.heap.size w1 wx)
    (hStep : ∀ b1 w1 o, ((∃ j, j < 14 ∧ o = nth (tx [57]) (tx []) b1 j ∧ frm ≤ o.k ∧ o.k ≤ last) ∨ (∃ i, i < n ∧ o = O i ∧ ¬ (last < o.k ∧ o.k < 15))) → ∀ wx, I b1 w1 wx →
      Calls Tryz.prog 22 #[.pointer (some ⟨w.heap.size, 0, none⟩), .agg o.cs] wx fun e w' => e = .returned (.bool true) ∧ I b1 w1 w')
    (hStill : ∀ b1 w1 wx, I b1 w1 wx → Calls Tryz.prog 23 #[.pointer (some ⟨w.heap.size, 0, none⟩)] wx fun e w' => e = .returned (.bool true) ∧ I b1 w1 w') :
    Calls Tryz.prog 9 #[.slice sp n cp, .int .i64 frm, .int .i64 last] w fun e w' => e = .returned (.bool true) ∧ Below w.heap.size w w' := by
  replace h0 : Hid (∀ b1 w1, Below w.heap.size w w1 → w.heap.size < b1 → Blk w1 w.heap.size zeroV.cs 43 → Blk w1 b1 #[.string (tx [57])] 9 → I b1 w1 w1) := h0
  replace hBut : Hid (∀ b1 w1 wx, I b1 w1 wx → But w.heap.size w1 wx) := hBut
  replace hs : Hid (∀ i, i < n → ∃ b off, sp = some ⟨b, off, none⟩ ∧ b < w.heap.size ∧ w.rangeAt b (off + i * 7) (O i).row) := hs
  replace hStep : Hid (∀ b1 w1 o, ((∃ j, j < 14 ∧ o = nth (tx [57]) (tx []) b1 j ∧ frm ≤ o.k ∧ o.k ≤ last) ∨ (∃ i, i < n ∧ o = O i ∧ ¬ (last < o.k ∧ o.k < 15))) → ∀ wx, I b1 w1 wx →
      Calls Tryz.prog 22 #[.pointer (some ⟨w.heap.size, 0, none⟩), .agg o.cs] wx fun e w' => e = .returned (.bool true) ∧ I b1 w1 w') := hStep
  replace hStill : Hid (∀ b1 w1 wx, I b1 w1 wx → Calls Tryz.prog 23 #[.pointer (some ⟨w.heap.size, 0, none⟩)] wx fun e w' => e = .returned (.bool true) ∧ I b1 w1 w') := hStill
  have hq : Blk (w.alloc (.cells zeroV.cs 43)) w.heap.size zeroV.cs 43 := Blk.new _ _ _
  have bel : Below w.heap.size w (w.alloc (.cells zeroV.cs 43)) := (Below.refl _ _).alloc (Nat.le_refl _) _
  go_enter Tryz.func9, Tryz.ntmps9
  go_wp2_with (refine Rp.wpList_made rfl 43 _ rfl [] rfl zeroV.cs (run_build _ _ _ _ (by kernel_rfl)) ?_)
  generalize w.alloc (.cells zeroV.cs 43) = w1 at hq bel ⊢
  refine wp_region_M (S := (fun wx => Below w.heap.size w wx ∧ Blk wx w.heap.size zeroV.cs 43)) (ls := []) (by kernel_rfl) ?_
  have hS : (fun wx => Below w.heap.size w wx ∧ Blk wx w.heap.size zeroV.cs 43) w1.drew := ⟨bel.drew, hq.drew⟩
  clear hq bel
  generalize w1.drew = wd at hS ⊢
  refine wpAnyM_tk (i := 0) (dst := some 33) (v := .agg (op6 1 0 (tx [97, 98, 99]) (tx []) (tx []) (tx [])).cs) rfl rfl (by kernel_rfl) (fun _ _ _ h => h) (Or.inl ⟨by rfl, ?hy0⟩) hS ?re0
  case hy0 => exact fun wx _ => Rp.exec_made 45 _ rfl [(0, .int .i64 1), (2, .string (tx [97, 98, 99]))] rfl _ (run_build wx _ _ _ (by kernel_rfl))
  refine wpAnyM_tk (i := 1) (dst := some 34) (v := .agg (op6 2 0 (tx [107]) (tx [100]) (tx []) (tx [])).cs) rfl rfl (by kernel_rfl) (fun _ _ _ h => h) (Or.inl ⟨by rfl, ?hy1⟩) hS ?re1
  case hy1 => exact fun wx _ => Rp.exec_made 45 _ rfl [(0, .int .i64 2), (2, .string (tx [107])), (3, .string (tx [100]))] rfl _ (run_build wx _ _ _ (by kernel_rfl))
  refine wpAnyM_tk (i := 2) (dst := some 35) (v := .agg (op6 3 70 (tx [115]) (tx []) (tx []) (tx [])).cs) rfl rfl (by kernel_rfl) (fun _ _ _ h => h) (Or.inl ⟨by rfl, ?hy2⟩) hS ?re2
  case hy2 => exact fun wx _ => Rp.exec_made 45 _ rfl [(0, .int .i64 3), (2, .string (tx [115])), (1, .int .i64 70)] rfl _ (run_build wx _ _ _ (by kernel_rfl))
  try simp only [Act.put, qA, qB, qC]
  refine wpAnyM_tk (i := 3) (dst := some 36) (v := .string kk) rfl rfl (by kernel_rfl) (fun _ _ _ h => h) (Or.inl ⟨by rfl, ?hy3⟩) hS ?re3
  case hy3 => exact fun wx _ => rfl
  refine wpAnyM_tk (i := 4) (dst := some 37) (v := .string kk) rfl rfl (by kernel_rfl) (fun _ _ _ h => h) (Or.inl ⟨by rfl, ?hy4⟩) hS ?re4
  case hy4 => exact fun wx _ => rfl
  refine wpAnyM_tk (i := 5) (dst := some 38) (v := .string k12) rfl rfl (by kernel_rfl) (fun _ _ _ h => h) (Or.inl ⟨by rfl, ?hy5⟩) hS ?re5
  case hy5 => (intro wx hSx; clear hSx; go_simp; rw [if_pos (by decide)]; kernel_rfl)
  try simp only [Act.put, qA, qB, qC]
  refine wpAnyM_tk (i := 6) (dst := some 39) (v := .agg (op6 4 0 kk k12 (tx [116]) (tx [100, 97, 116, 97])).cs) rfl rfl (by kernel_rfl) (fun _ _ _ h => h) (Or.inl ⟨by rfl, ?hy6⟩) hS ?re6
  case hy6 => exact fun wx _ => Rp.exec_made 45 _ rfl [(0, .int .i64 4), (2, .string (kk)), (3, .string (k12)), (4, .string (tx [116])), (5, .string (tx [100, 97, 116, 97]))] rfl _ (run_build wx _ _ _ (by kernel_rfl))
  refine wpAnyM_tk (i := 7) (dst := some 40) (v := .string kk) rfl rfl (by kernel_rfl) (fun _ _ _ h => h) (Or.inl ⟨by rfl, ?hy7⟩) hS ?re7
  case hy7 => exact fun wx _ => rfl
  refine wpAnyM_tk (i := 8) (dst := some 41) (v := .string kk) rfl rfl (by kernel_rfl) (fun _ _ _ h => h) (Or.inl ⟨by rfl, ?hy8⟩) hS ?re8
  case hy8 => exact fun wx _ => rfl
  try simp only [Act.put, qA, qB, qC]
  refine wpAnyM_tk (i := 9) (dst := some 42) (v := .string k12) rfl rfl (by kernel_rfl) (fun _ _ _ h => h) (Or.inl ⟨by rfl, ?hy9⟩) hS ?re9
  case hy9 => (intro wx hSx; clear hSx; go_simp; rw [if_pos (by decide)]; kernel_rfl)
  refine wpAnyM_tk (i := 10) (dst := some 43) (v := .agg (op6 5 0 kk k12 (tx [116]) (tx [])).cs) rfl rfl (by kernel_rfl) (fun _ _ _ h => h) (Or.inl ⟨by rfl, ?hy10⟩) hS ?re10
  case hy10 => exact fun wx _ => Rp.exec_made 45 _ rfl [(0, .int .i64 5), (2, .string (kk)), (3, .string (k12)), (4, .string (tx [116]))] rfl _ (run_build wx _ _ _ (by kernel_rfl))
  refine wpAnyM_tk (i := 11) (dst := some 44) (v := .string kk) rfl rfl (by kernel_rfl) (fun _ _ _ h => h) (Or.inl ⟨by rfl, ?hy11⟩) hS ?re11
  case hy11 => exact fun wx _ => rfl
  try simp only [Act.put, qA, qB, qC]
  refine wpAnyM_tk (i := 12) (dst := some 45) (v := .agg (op6 6 0 kk (tx []) (tx []) (tx [])).cs) rfl rfl (by kernel_rfl) (fun _ _ _ h => h) (Or.inl ⟨by rfl, ?hy12⟩) hS ?re12
  case hy12 => exact fun wx _ => Rp.exec_made 45 _ rfl [(0, .int .i64 6), (2, .string (kk))] rfl _ (run_build wx _ _ _ (by kernel_rfl))
  refine wpAnyM_tk (i := 13) (dst := some 46) (v := .string kk) rfl rfl (by kernel_rfl) (fun _ _ _ h => h) (Or.inl ⟨by rfl, ?hy13⟩) hS ?re13
  case hy13 => exact fun wx _ => rfl
  refine wpAnyM_tk (i := 14) (dst := some 47) (v := .string kk) rfl rfl (by kernel_rfl) (fun _ _ _ h => h) (Or.inl ⟨by rfl, ?hy14⟩) hS ?re14
  case hy14 => exact fun wx _ => rfl
  try simp only [Act.put, qA, qB, qC]
  refine wpAnyM_tk (i := 15) (dst := some 48) (v := .agg (op6 7 0 kk kk (tx []) (tx [])).cs) rfl rfl (by kernel_rfl) (fun _ _ _ h => h) (Or.inl ⟨by rfl, ?hy15⟩) hS ?re15
  case hy15 => exact fun wx _ => Rp.exec_made 45 _ rfl [(0, .int .i64 7), (2, .string (kk)), (3, .string (kk))] rfl _ (run_build wx _ _ _ (by kernel_rfl))
  refine wpAnyM_tk (i := 16) (dst := some 49) (v := .string kk) rfl rfl (by kernel_rfl) (fun _ _ _ h => h) (Or.inl ⟨by rfl, ?hy16⟩) hS ?re16
  case hy16 => exact fun wx _ => rfl
  refine wpAnyM_tk (i := 17) (dst := some 50) (v := .agg (op6 8 0 kk (tx []) (tx []) (tx [])).cs) rfl rfl (by kernel_rfl) (fun _ _ _ h => h) (Or.inl ⟨by rfl, ?hy17⟩) hS ?re17
  case hy17 => exact fun wx _ => Rp.exec_made 45 _ rfl [(0, .int .i64 8), (2, .string (kk))] rfl _ (run_build wx _ _ _ (by kernel_rfl))
  try simp only [Act.put, qA, qB, qC]
  refine wpAnyM_tk (i := 18) (dst := some 51) (v := .string kk) rfl rfl (by kernel_rfl) (fun _ _ _ h => h) (Or.inl ⟨by rfl, ?hy18⟩) hS ?re18
  case hy18 => exact fun wx _ => rfl
  refine wpAnyM_tk (i := 19) (dst := some 52) (v := .agg (op6 9 0 kk (tx [100, 97, 116, 97]) (tx []) (tx [])).cs) rfl rfl (by kernel_rfl) (fun _ _ _ h => h) (Or.inl ⟨by rfl, ?hy19⟩) hS ?re19
  case hy19 => exact fun wx _ => Rp.exec_made 45 _ rfl [(0, .int .i64 9), (2, .string (kk)), (3, .string (tx [100, 97, 116, 97]))] rfl _ (run_build wx _ _ _ (by kernel_rfl))
  refine wpAnyM_tk (i := 20) (dst := some 53) (v := .string (tx [])) rfl rfl (by kernel_rfl) (fun _ _ _ h => h) (Or.inl ⟨by rfl, ?hy20⟩) hS ?re20
  case hy20 => exact fun wx _ => rfl
  try simp only [Act.put, qA, qB, qC]
  refine wpAnyM_tk (i := 21) (dst := some 54) (v := .agg (op6 10 0 (tx []) (tx [100, 97, 116, 97]) (tx []) (tx [])).cs) rfl rfl (by kernel_rfl) (fun _ _ _ h => h) (Or.inl ⟨by rfl, ?hy21⟩) hS ?re21
  case hy21 => exact fun wx _ => Rp.exec_made 45 _ rfl [(0, .int .i64 10), (2, .string (tx [])), (3, .string (tx [100, 97, 116, 97]))] rfl _ (run_build wx _ _ _ (by kernel_rfl))
  refine wpAnyM_tk (i := 22) (dst := some 55) (v := .string kk) rfl rfl (by kernel_rfl) (fun _ _ _ h => h) (Or.inl ⟨by rfl, ?hy22⟩) hS ?re22
  case hy22 => exact fun wx _ => rfl
  refine wpAnyM_tk (i := 23) (dst := some 56) (v := .string (tx [57])) rfl rfl (by kernel_rfl) (fun _ _ _ h => h) (Or.inl ⟨by rfl, ?hy23⟩) hS ?re23
  case hy23 => exact fun wx _ => rfl
  try simp only [Act.put, qA, qB, qC]
  refine wpAnyM_tk (i := 25) (dst := some 58) (v := .string kk) rfl rfl (by kernel_rfl) (fun _ _ _ h => h) (Or.inl ⟨by rfl, ?hy25⟩) hS ?re25
  case hy25 => exact fun wx _ => rfl
  refine wpAnyM_tk (i := 26) (dst := some 59) (v := .string kk) rfl rfl (by kernel_rfl) (fun _ _ _ h => h) (Or.inl ⟨by rfl, ?hy26⟩) hS ?re26
  case hy26 => exact fun wx _ => rfl
  refine wpAnyM_tk (i := 27) (dst := some 60) (v := .string kk2) rfl rfl (by kernel_rfl) (fun _ _ _ h => h) (Or.inl ⟨by rfl, ?hy27⟩) hS ?re27
  case hy27 => (intro wx hSx; clear hSx; go_simp; rw [if_neg (by decide)]; kernel_rfl)
  try simp only [Act.put, qA, qB, qC]
  refine wpAnyM_tk (i := 29) (dst := some 62) (v := .string kk) rfl rfl (by kernel_rfl) (fun _ _ _ h => h) (Or.inl ⟨by rfl, ?hy29⟩) hS ?re29
  case hy29 => exact fun wx _ => rfl
  refine wpAnyM_tk (i := 30) (dst := some 63) (v := .agg (op6 12 0 kk (tx []) (tx []) (tx [])).cs) rfl rfl (by kernel_rfl) (fun _ _ _ h => h) (Or.inl ⟨by rfl, ?hy30⟩) hS ?re30
  case hy30 => exact fun wx _ => Rp.exec_made 45 _ rfl [(0, .int .i64 12), (2, .string (kk))] rfl _ (run_build wx _ _ _ (by kernel_rfl))
  refine wpAnyM_tk (i := 31) (dst := some 64) (v := .agg (op6 13 0 (tx [72, 105]) (tx []) (tx []) (tx [])).cs) rfl rfl (by kernel_rfl) (fun _ _ _ h => h) (Or.inl ⟨by rfl, ?hy31⟩) hS ?re31
  case hy31 => exact fun wx _ => Rp.exec_made 45 _ rfl [(0, .int .i64 13), (2, .string (tx [72, 105]))] rfl _ (run_build wx _ _ _ (by kernel_rfl))
  try simp only [Act.put, qA, qB, qC]
  refine wpAnyM_tk (i := 32) (dst := some 65) (v := .agg (op6 14 0 (tx []) (tx []) (tx []) (tx [])).cs) rfl rfl (by kernel_rfl) (fun _ _ _ h => h) (Or.inl ⟨by rfl, ?hy32⟩) hS ?re32
  case hy32 => exact fun wx _ => Rp.exec_made 45 _ rfl [(0, .int .i64 14)] rfl _ (run_build wx _ _ _ (by kernel_rfl))
  try simp only [Act.put, qA, qB, qC]
  refine wpAnyM_one (i := 24) (by kernel_rfl) rfl (fun K hK => ?_)
  rw [if_pos (by rfl)]
  refine wp_bsS _ rfl (tx [57]) rfl ?_
  refine hK.out _ _ ⟨hS.1.alloc hS.1.size _, hS.2.alloc _⟩ ?_
  clear hK K
  have hP : Blk (wd.alloc (.cells #[.string (tx [57])] 9)) wd.heap.size #[.string (tx [57])] 9 := Blk.new _ _ _
  have hS1 : (fun wx => Below w.heap.size w wx ∧ Blk wx w.heap.size zeroV.cs 43) (wd.alloc (.cells #[.string (tx [57])] 9)) := ⟨hS.1.alloc hS.1.size _, hS.2.alloc _⟩
  have hq1 : w.heap.size < wd.heap.size := hS.2.lt
  clear hS
  generalize wd.alloc (.cells #[.string (tx [57])] 9) = we at hP hS1 ⊢
  generalize wd.heap.size = b1 at hP hq1 ⊢
  simp only [Act.put, List.setIfInBounds_toArray]
  refine wpAnyM_tk (i := 28) (dst := some 61) (v := .agg ({ k := 11, n := 0, a := kk, b := kk2, c := tx [100, 97, 116, 97], d := tx [], p := some ⟨b1, 0, none⟩, ln := 1, cp := 1 } : OpV).cs) rfl rfl (by kernel_rfl) (fun _ _ _ h => h) (Or.inl ⟨by rfl, ?hy28⟩) hS1 ?re28
  case hy28 => exact fun wx _ => Rp.exec_made 45 _ rfl [(0, .int .i64 11), (2, .string (kk)), (6, .slice (some ⟨b1, 0, none⟩) 1 1), (3, .string (kk2)), (4, .string (tx [100, 97, 116, 97]))] rfl _ (run_build wx _ _ _ (by kernel_rfl))
  simp only [Act.put]
  refine wpAnyM_one (i := 33) (by kernel_rfl) rfl (fun K hK => ?_)
  rw [if_pos (by rfl)]
  refine wp_bsO _ rfl _ _ rfl (fill14 (tx [57]) (tx []) b1) ?_
  have hF : Blk (we.alloc (.cells (rows14 (tx [57]) (tx []) b1) 45)) we.heap.size (rows14 (tx [57]) (tx []) b1) 45 := Blk.new _ _ _
  have hS2 : (fun wx => Below w.heap.size w wx ∧ Blk wx w.heap.size zeroV.cs 43) (we.alloc (.cells (rows14 (tx [57]) (tx []) b1) 45)) := ⟨hS1.1.alloc hS1.1.size _, hS1.2.alloc _⟩
  replace hP := hP.alloc (.cells (rows14 (tx [57]) (tx []) b1) 45)
  have hq2 : w.heap.size < we.heap.size := hS1.2.lt
  refine hK.out _ _ hS2 ?_
  clear hK K hS1
  generalize we.alloc (.cells (rows14 (tx [57]) (tx []) b1) 45) = wf at hP hF hS2 ⊢
  generalize we.heap.size = b2 at hF hq2 ⊢
  simp only [Act.put]
  refine wpAnyM_tk (i := 34) (dst := some 11) (v := .slice (some ⟨b2, 0, none⟩) 14 14) rfl rfl (by kernel_rfl) (fun _ _ _ h => h) (Or.inl ⟨by rfl, ?hy34⟩) hS2 ?re34
  case hy34 => exact fun wx _ => rfl
  simp only [Act.put]
  refine wpAnyM_done (by kernel_rfl) ?_ _
  have hI0 : Hid (I b1 wf wf) := h0.out b1 wf hS2.1 hq1 hS2.2 hP
  have bel : Hid (Below w.heap.size w wf) := hS2.1
  have rF : Hid (∀ j, j < 14 → wf.rangeAt b2 (j * 7) (nth (tx [57]) (tx []) b1 j).row) := range14 hF
  have hb2 : Hid (b2 < wf.heap.size ∧ b2 ≠ w.heap.size) := ⟨hF.lt, by omega⟩
  clear hF hS2 hP hq1 hq2 h0
  go_wp2_with fail
  go_loopw [12, 13] (fun ok i wr => ∃ j : Nat, ok = .bool true ∧ i = .int .i64 j ∧ j ≤ 14 ∧ Hid (I b1 wf wr)) (fun _ i _ => 14 - (intOf i).toNat)
  case atStart => exact ⟨0, rfl, rfl, by omega, hI0⟩
  case round =>
    clear hI0
    obtain ⟨j, rfl, rfl, hj, hI⟩ := hrel
    by_cases hlt : j < 14
    · have d1 : decide ((j : Int) < 14) = true := decide_eq_true (by omega)
      have j0 : (0 : Int) ≤ (j : Int) := by omega
      have j1 : (j : Int) < 14 := by omega
      have hR := (hBut.out _ _ _ hI.out).range (rF.out j hlt) hb2.out.1 hb2.out.2
      generalize hoj : nth (tx [57]) (tx []) b1 j = o at hR
      replace hoj : Hid (nth (tx [57]) (tx []) b1 j = o) := hoj
      have cK := OpV.rangeK hR
      rw [← OpV.toL] at hR
      have sO := o.size
      have hst : Hid (frm ≤ o.k → o.k ≤ last → ∀ wx, I b1 wf wx → Calls Tryz.prog 22 #[.pointer (some ⟨w.heap.size, 0, none⟩), .agg o.cs] wx fun e w' => e = .returned (.bool true) ∧ I b1 wf w') := fun h1 h2 wx hI => hStep.out b1 wf o (Or.inl ⟨j, hlt, hoj.out.symm, h1, h2⟩) wx hI
      generalize o.cs = CS at hR sO hst
      generalize o.k = K at cK hst
      clear hStep hStill hs rF hoj
      by_cases h1 : frm ≤ K
      · have d2 : decide (frm ≤ K) = true := decide_eq_true h1
        replace h1 : Hid (frm ≤ K) := h1
        by_cases h2 : K ≤ last
        · have d3 : decide (K ≤ last) = true := decide_eq_true h2
          replace h2 : Hid (K ≤ last) := h2
          go_wp2_with (refine Rp.wpList_mid rfl 45 _ rfl (b2) (j * 7) rfl CS _ hR Tryz.underlying45 rfl (by rw [sO]; exact Tryz.infoOp) ?_)
          refine (hst.out h1.out h2.out _ hI.out).mono ?_
          rintro e w2 ⟨rfl, hI2⟩
          replace hI2 : Hid (I b1 wf w2) := hI2
          clear hI hst cK hR
          go_wp2_with fail
          go_roundw
          case rel => exact ⟨j + 1, rfl, by go_num, by omega, hI2⟩
          case measure => simp [intOf]; omega
        · have d3 : decide (K ≤ last) = false := decide_eq_false h2
          replace h2 : Hid (¬ K ≤ last) := h2
          clear hst
          go_wp2_with (refine Rp.wpList_mid rfl 45 _ rfl (b2) (j * 7) rfl CS _ hR Tryz.underlying45 rfl (by rw [sO]; exact Tryz.infoOp) ?_)
          go_roundw
          case rel => exact ⟨j + 1, rfl, by go_num, by omega, hI⟩
          case measure => simp [intOf]; omega
      · have d2 : decide (frm ≤ K) = false := decide_eq_false h1
        replace h1 : Hid (¬ frm ≤ K) := h1
        clear hst
        go_wp2_with (refine Rp.wpList_mid rfl 45 _ rfl (b2) (j * 7) rfl CS _ hR Tryz.underlying45 rfl (by rw [sO]; exact Tryz.infoOp) ?_)
        go_roundw
        case rel => exact ⟨j + 1, rfl, by go_num, by omega, hI⟩
        case measure => simp [intOf]; omega
    · have hj14 : (j : Int) = 14 := by omega
      rw [hj14]
      clear hlt hj rF hb2 hj14
      go_wp2_with fail
      go_loopw [12, 14] (fun ok i wy => ∃ j : Nat, ok = .bool true ∧ i = .int .i64 j ∧ j ≤ n ∧ Hid (I b1 wf wy)) (fun _ i _ => n - (intOf i).toNat)
      case atStart => exact ⟨0, rfl, rfl, by omega, hI⟩
      case round =>
        clear hI
        obtain ⟨j, rfl, rfl, hj, hI⟩ := hrel
        by_cases hlt : j < n
        · have d1 : decide ((j : Int) < (n : Int)) = true := decide_eq_true (by omega)
          have j0 : (0 : Int) ≤ (j : Int) := by omega
          have j1 : (j : Int) < (n : Int) := by omega
          obtain ⟨b, off, hsp, hb, hr⟩ := hs.out j hlt
          have hR := (hBut.out _ _ _ hI.out).range (below_range bel.out hr hb) (Nat.lt_of_lt_of_le hb bel.out.size) (Nat.ne_of_lt hb)
          clear hr
          have cK := OpV.rangeK hR
          rw [← OpV.toL] at hR
          have sO := (O j).size
          have hst : Hid (¬ (last < (O j).k ∧ (O j).k < 15) → ∀ wx, I b1 wf wx → Calls Tryz.prog 22 #[.pointer (some ⟨w.heap.size, 0, none⟩), .agg (O j).cs] wx fun e w' => e = .returned (.bool true) ∧ I b1 wf w') := fun h1 wx hI => hStep.out b1 wf _ (Or.inr ⟨j, hlt, rfl, h1⟩) wx hI
          generalize (O j).cs = CS at hR sO hst
          generalize (O j).k = K at cK hst
          subst hsp
          have hst2 : Hid (∀ wx, I b1 wf wx → Calls Tryz.prog 23 #[.pointer (some ⟨w.heap.size, 0, none⟩)] wx fun e w' => e = .returned (.bool true) ∧ I b1 wf w') := fun wx h => hStill.out b1 wf wx h
          clear hStep hStill hs hb
          by_cases h1 : last < K
          · have d2 : decide (last < K) = true := decide_eq_true h1
            replace h1 : Hid (last < K) := h1
            by_cases h2 : K < 15
            · have d3 : decide (K < 15) = true := decide_eq_true h2
              replace h2 : Hid (K < 15) := h2
              clear hst hst2
              go_wp2_with (refine Rp.wpList_mid rfl 45 _ rfl (b) (off + j * 7) rfl CS _ hR Tryz.underlying45 rfl (by rw [sO]; exact Tryz.infoOp) ?_)
              go_roundw
              case rel => exact ⟨j + 1, rfl, by go_num, by omega, hI⟩
              case measure => simp [intOf]; omega
            · have d3 : decide (K < 15) = false := decide_eq_false h2
              replace hst := hst.out (fun h => h2 h.2)
              replace h2 : Hid (¬ K < 15) := h2
              replace hst : Hid (∀ wx, I b1 wf wx → Calls Tryz.prog 22 #[.pointer (some ⟨w.heap.size, 0, none⟩), .agg CS] wx fun e w' => e = .returned (.bool true) ∧ I b1 wf w') := hst
              go_wp2_with (refine Rp.wpList_mid rfl 45 _ rfl (b) (off + j * 7) rfl CS _ hR Tryz.underlying45 rfl (by rw [sO]; exact Tryz.infoOp) ?_)
              refine (hst.out _ hI.out).mono ?_
              rintro e w2 ⟨rfl, hI2⟩
              replace hI2 : Hid (I b1 wf w2) := hI2
              clear hI hst cK hR
              go_wp2_with fail
              refine (hst2.out _ hI2.out).mono ?_
              rintro e w3 ⟨rfl, hI3⟩
              replace hI3 : Hid (I b1 wf w3) := hI3
              clear hI2 hst2
              go_wp2_with fail
              go_roundw
              case rel => exact ⟨j + 1, rfl, by go_num, by omega, hI3⟩
              case measure => simp [intOf]; omega
          · have d2 : decide (last < K) = false := decide_eq_false h1
            replace hst := hst.out (fun h => h1 h.1)
            replace h1 : Hid (¬ last < K) := h1
            replace hst : Hid (∀ wx, I b1 wf wx → Calls Tryz.prog 22 #[.pointer (some ⟨w.heap.size, 0, none⟩), .agg CS] wx fun e w' => e = .returned (.bool true) ∧ I b1 wf w') := hst
            go_wp2_with (refine Rp.wpList_mid rfl 45 _ rfl (b) (off + j * 7) rfl CS _ hR Tryz.underlying45 rfl (by rw [sO]; exact Tryz.infoOp) ?_)
            refine (hst.out _ hI.out).mono ?_
            rintro e w2 ⟨rfl, hI2⟩
            replace hI2 : Hid (I b1 wf w2) := hI2
            clear hI hst cK hR
            go_wp2_with fail
            refine (hst2.out _ hI2.out).mono ?_
            rintro e w3 ⟨rfl, hI3⟩
            replace hI3 : Hid (I b1 wf w3) := hI3
            clear hI2 hst2
            go_wp2_with fail
            go_roundw
            case rel => exact ⟨j + 1, rfl, by go_num, by omega, hI3⟩
            case measure => simp [intOf]; omega
        · obtain rfl : j = n := by omega
          have d1 : decide ((j : Int) < (j : Int)) = false := decide_eq_false (by omega)
          have hend := bel.out.trans (hBut.out _ _ _ hI.out).below
          go_wp2
          go_ret
          exact ⟨rfl, hend⟩
end Go.Proofs.YtclpbaokadfhhaaGreatDoor
namespace Go.Proofs.YtclpbaokadfhhaaGreatDoor
open Go.RowKit
def Inv (q : Nat) (w1 wx : World) : Prop :=
  (∃ v : Wv, v.Ok ∧ v.l.size = 0 ∧ v.ln = 0 ∧ Blk wx q v.cs 43) ∧ But q w1 wx ∧ Tab Sha.K wx
theorem Inv.keep {q : Nat} {w1 a b : World} (h : Inv q w1 a) (k : Below a.heap.size a b) : Inv q w1 b := by
  obtain ⟨⟨v, h1, h2, h3, h4⟩, hb, hk⟩ := h
  exact ⟨⟨v, h1, h2, h3, h4.keep k⟩, hb.keep k (Nat.le_of_lt h4.lt), hk.below k⟩
theorem law_step (q : Nat) (w1 : World) (hq : 0 < q) (o : OpV) (ho : o.Ok) (hno : ¬ (10 < o.k ∧ o.k < 15))
    (hC : o.k = 4 ∨ o.k = 5 → ∀ wx : World, Inv q w1 wx → Calls Tryz.prog 42 #[.pointer (some ⟨q, 0, none⟩), .agg o.cs] wx fun e w' => e = .returned (.bool true) ∧ Inv q w1 w')
    (hA : o.k = 6 ∨ o.k = 7 → ∀ wx : World, Inv q w1 wx → Calls Tryz.prog 43 #[.agg o.cs] wx fun e w' => e = .returned (.bool true) ∧ Inv q w1 w')
    (hS : o.k = 8 ∨ o.k = 9 ∨ o.k = 10 → ∀ wx : World, Inv q w1 wx → Calls Tryz.prog 44 #[.pointer (some ⟨q, 0, none⟩), .agg o.cs] wx fun e w' => e = .returned (.bool true) ∧ Inv q w1 w')
    (wx : World) (hw : Inv q w1 wx) :
    Calls Tryz.prog 22 #[.pointer (some ⟨q, 0, none⟩), .agg o.cs] wx fun e w' => e = .returned (.bool true) ∧ Inv q w1 w' := by
  refine L_step (Inv q w1) (fun a b h k => h.keep k) o q wx hw ?_ hC hA hS ?_ ?_ ?_ ?_ ?_
  · exact fun _ wx hI => (L_digests o wx ho hI.2.2).mono fun e w' ⟨he, hb⟩ => ⟨he, hI.keep hb⟩
  · exact fun h => absurd ⟨by omega, by omega⟩ hno
  · exact fun h => absurd ⟨by omega, by omega⟩ hno
  · exact fun h => absurd ⟨by omega, by omega⟩ hno
  · intro _ wx hI
    obtain ⟨⟨v, v1, v2, v3, v4⟩, hb, hk⟩ := hI
    refine (L_spoils o v q wx ho v1 v4).mono ?_
    rintro e w' ⟨rfl, v', hl, hB, hw⟩
    exact ⟨rfl, ⟨v', ⟨by rw [hl.c]; exact v1.c, by rw [hl.s]; exact v1.s, by rw [hl.l]; exact v1.l, by rw [hl.t]; exact v1.t⟩, by rw [hl.l]; exact v2, by rw [hl.ln]; exact v3, hB⟩, hb.trans hw, hk.but hw.below hq⟩
  · intro _ wx hI
    obtain ⟨v, v1, v2, v3, v4⟩ := hI.1
    exact (L_resigns0 o v q wx v2 v4).mono fun e w' ⟨he, hb⟩ => ⟨he, hI.keep hb⟩
theorem nthOk (a : ByteArray) (b1 j : Nat) (hj : j < 14) (ha : a.size ≤ 1000000) : (nth (tx [57]) a b1 j).Ok := by
  have h : ∀ o ∈ firsts (tx [57]) a b1, o.Ok := by
    intro o ho
    simp only [firsts, List.mem_cons, List.not_mem_nil, or_false] at ho
    rcases ho with rfl | rfl | rfl | rfl | rfl | rfl | rfl | rfl | rfl | rfl | rfl | rfl | rfl | rfl <;>
      (refine ⟨?_, ?_, ?_, ?_, ?_, ?_, ?_, ?_⟩ <;> first | decide | (simp only [op6]; decide) | (simp only [op6]; omega) | (dsimp only; decide))
  refine h _ ?_
  unfold nth
  rw [List.getD_eq_getElem?_getD, List.getElem?_eq_getElem (show j < (firsts (tx [57]) a b1).length from hj)]
  exact List.getElem_mem _
theorem law_played (frm last : Int) (sp : Option Addr) (n cp : Nat) (O : Nat → OpV) (w : World) (hf8 : (frm == 8) = false) (hf11 : (frm == 11) = false) (hl : last ≤ 10)
    (hn : n ≤ 140737488355328)
    (hs : ∀ i, i < n → ∃ b off, sp = some ⟨b, off, none⟩ ∧ b < w.heap.size ∧ w.rangeAt b (off + i * 7) (O i).row)
    (hO : ∀ i, i < n → (O i).Ok) (hK : Tab Sha.K w) (hq : 0 < w.heap.size)
    (hC : ∀ o : OpV, o.Ok → o.k ≤ last → o.k = 4 ∨ o.k = 5 → ∀ w1 wx : World, Inv w.heap.size w1 wx → Calls Tryz.prog 42 #[.pointer (some ⟨w.heap.size, 0, none⟩), .agg o.cs] wx fun e w' => e = .returned (.bool true) ∧ Inv w.heap.size w1 w')
    (hA : ∀ o : OpV, o.Ok → o.k ≤ last → o.k = 6 ∨ o.k = 7 → ∀ w1 wx : World, Inv w.heap.size w1 wx → Calls Tryz.prog 43 #[.agg o.cs] wx fun e w' => e = .returned (.bool true) ∧ Inv w.heap.size w1 w')
    (hS : ∀ o : OpV, o.Ok → o.k ≤ last → o.k = 8 ∨ o.k = 9 ∨ o.k = 10 → ∀ w1 wx : World, Inv w.heap.size w1 wx → Calls Tryz.prog 44 #[.pointer (some ⟨w.heap.size, 0, none⟩), .agg o.cs] wx fun e w' => e = .returned (.bool true) ∧ Inv w.heap.size w1 w') :
    Calls Tryz.prog 9 #[.slice sp n cp, .int .i64 frm, .int .i64 last] w fun e w' => e = .returned (.bool true) ∧ Below w.heap.size w w' := by
  refine L_played frm last sp n cp O w hf8 hf11 hn hs (fun _ w1 wx => Inv w.heap.size w1 wx) ?_ ?_ ?_ ?_
  · intro b1 w1 hb _ hz _
    exact ⟨⟨zeroV, ⟨by decide, by decide, by decide, by decide⟩, rfl, rfl, hz⟩, But.refl _ _, hK.below hb⟩
  · exact fun _ _ _ h => h.2.1
  · intro b1 w1 o ho wx hI
    have h1 : o.Ok ∧ ¬ (last < o.k ∧ o.k < 15) := by
      rcases ho with ⟨j, hj, rfl, _, h2⟩ | ⟨i, hi, rfl, h2⟩
      · exact ⟨nthOk _ _ _ hj (by decide), fun h => by omega⟩
      · exact ⟨hO i hi, h2⟩
    refine law_step w.heap.size w1 hq o h1.1 (fun h => h1.2 ⟨by omega, h.2⟩) (fun h wx hI => ?_) (fun h wx hI => ?_) (fun h wx hI => ?_) wx hI
    · exact hC o h1.1 (by have := h1.2; omega) h w1 wx hI
    · exact hA o h1.1 (by have := h1.2; omega) h w1 wx hI
    · exact hS o h1.1 (by have := h1.2; omega) h w1 wx hI
  · intro b1 w1 wx hI
    obtain ⟨v, v1, v2, v3, v4⟩ := hI.1
    exact (L_still0 v w.heap.size wx v3 v4).mono fun e w' ⟨he, hb⟩ => ⟨he, by rw [hb]; exact hI⟩
end Go.Proofs.YtclpbaokadfhhaaGreatDoor
