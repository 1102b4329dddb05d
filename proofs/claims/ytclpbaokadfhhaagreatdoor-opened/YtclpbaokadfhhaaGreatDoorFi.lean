/- Contracts of field's ones and Inverse. -/
import Derived.Test.YtclpbaokadfhhaaGreatDoorXd
import Derived.Test.YtclpbaokadfhhaaGreatDoorZe
namespace Go.Proofs.YtclpbaokadfhhaaGreatDoor
open Go.RowKit

set_option maxRecDepth 100000 in
set_option maxHeartbeats 1000000 in
theorem F_ones1 (a : List (BitVec 64)) (w : World) (ha : a.length = 5) :
    Calls Tryz.prog 167 #[.agg (Ws a), .int .i64 1] w fun e w' => e = .returned (.agg (Ws a)) ∧ Below w.heap.size w w' := by
  have sa : (Ws a).size = 5 := by rw [Ws_size, ha]
  have hb1 : Blk ((w.alloc (.cells (Ws a) 69)).alloc (.cells (Ws [0, 0, 0, 0, 0]) 69)) w.heap.size (Ws a) 69 := heap_alloc2_old w _ _
  have hb2 : Blk ((w.alloc (.cells (Ws a) 69)).alloc (.cells (Ws [0, 0, 0, 0, 0]) 69)) (w.heap.size + 1) (Ws [0, 0, 0, 0, 0]) 69 := heap_alloc2_new w _ _
  have hbel : Below w.heap.size w ((w.alloc (.cells (Ws a) 69)).alloc (.cells (Ws [0, 0, 0, 0, 0]) 69)) := ((Below.refl _ _).alloc (Nat.le_refl _) _).alloc (by simp) _
  have g1 := hb1; have g2 := hb2
  unfold Blk at g1 g2
  rw [← FZ5] at g1
  rw [← FZ5] at g2
  have e0 : (#[.int .u64 0, .int .u64 0, .int .u64 0, .int .u64 0, .int .u64 0] : Array Value).size = 5 := rfl
  go_enter Tryz.func167, Tryz.ntmps167
  go_wp2_with (first
    | (refine wpList_load_row rfl 69 _ rfl w.heap.size rfl 69 _ (0, 0) _ g1 Tryz.underlying69 rfl (by rw [sa]; exact Tryz.infoF5) ?_)
    | (refine wpList_store_row rfl 69 _ _ rfl (w.heap.size + 1) _ rfl rfl 69 _ g2 (by rw [sa]; exact Tryz.infoF5) (by rw [sa, e0]) (Ws_one _) ?_))
  rw [FZ5]
  refine bodyPost_ret (v := .agg (Ws a)) ?_ rfl ⟨rfl, below_setRow hbel (by omega) _⟩
  exact results_cell_row rfl _ _ (w.heap.size + 1) 69 _ (0, 0) _ rfl (hb2.row _) Tryz.underlying69 rfl (by rw [sa]; exact Tryz.infoF5)

theorem F_ones (a : List (BitVec 64)) (ha : a.length = 5) : ∀ (f n : Nat) (w : World), 1 ≤ n → n ≤ f → f ≤ 1000 →
    Calls Tryz.prog 167 #[.agg (Ws a), .int .i64 (n : Int)] w fun e w' => e = .returned (.agg (Ws (Ff.ones a f n))) ∧ Below w.heap.size w w'
  | 0, n, w, h1, h2, _ => by omega
  | f + 1, n, w, h1, h2, h3 => by
    by_cases e : n = 1
    · subst e
      rw [show Ff.ones a (f + 1) 1 = a by unfold Ff.ones; rw [if_pos rfl]]
      exact F_ones1 a w ha
    · rw [show Ff.ones a (f + 1) n = Ff.onesStep a (Ff.ones a f (n / 2)) n by rw [Ff.ones, if_neg e]]
      exact F_onesStep a _ n w ha (Ff.ones_length a ha _ _) (by omega) e h1 (fun wx => F_ones a ha f (n / 2) wx (by omega) (by omega) (by omega))

set_option maxRecDepth 100000 in
set_option maxHeartbeats 4000000 in
theorem F_inverse (a : List (BitVec 64)) (w : World) (ha : a.length = 5) :
    Calls Tryz.prog 112 #[.agg (Ws a)] w fun e w' => e = .returned (.agg (Ws (Ff.inverse a))) ∧ Below w.heap.size w w' := by
  have sa : (Ws a).size = 5 := by rw [Ws_size, ha]
  have HE : Hid (Ff.inverse a = Ff.times (Ff.squares (Ff.ones a 250 250) 5) (Ff.times (Ff.times (Ff.squares a 3) (Ff.squares a 1)) a)) := by
    have : Ff.inverse a = Ff.times (Ff.squares (Ff.ones a 250 250) 5) (Ff.times (Ff.times (Ff.squares a 3) (Ff.squares a 1)) a) := by unfold Ff.inverse; rfl
    exact this
  generalize Ff.inverse a = RR at HE ⊢
  have H1 : Hid (∀ wx : World, Calls Tryz.prog 166 #[.agg (Ws a), .int .i64 3] wx fun e w' => e = .returned (.agg (Ws (Ff.squares a 3))) ∧ Below wx.heap.size wx w') := fun wx => F_squares a 3 wx ha (by omega)
  have hA3 : (Ff.squares a 3).length = 5 := Ff.squares_length _ ha _
  generalize Ff.squares a 3 = A3 at H1 hA3 HE
  have sA3 : (Ws A3).size = 5 := by rw [Ws_size, hA3]
  have H3 : Hid (∀ wx : World, Calls Tryz.prog 166 #[.agg (Ws a), .int .i64 1] wx fun e w' => e = .returned (.agg (Ws (Ff.squares a 1))) ∧ Below wx.heap.size wx w') := fun wx => F_squares a 1 wx ha (by omega)
  have hA1 : (Ff.squares a 1).length = 5 := Ff.squares_length _ ha _
  generalize Ff.squares a 1 = A1 at H3 hA1 HE
  have sA1 : (Ws A1).size = 5 := by rw [Ws_size, hA1]
  have H4 : Hid (∀ wx : World, Calls Tryz.prog 111 #[.agg (Ws A3), .agg (Ws A1)] wx fun e w' => e = .returned (.agg (Ws (Ff.times A3 A1))) ∧ Below wx.heap.size wx w') := fun wx => F_times _ _ wx hA3 hA1
  have hB1 : (Ff.times A3 A1).length = 5 := Ff.times_length _ _
  generalize Ff.times A3 A1 = B1 at H4 hB1 HE
  have sB1 : (Ws B1).size = 5 := by rw [Ws_size, hB1]
  have H6 : Hid (∀ wx : World, Calls Tryz.prog 111 #[.agg (Ws B1), .agg (Ws a)] wx fun e w' => e = .returned (.agg (Ws (Ff.times B1 a))) ∧ Below wx.heap.size wx w') := fun wx => F_times _ _ wx hB1 ha
  have hEL : (Ff.times B1 a).length = 5 := Ff.times_length _ _
  generalize Ff.times B1 a = EL at H6 hEL HE
  have sEL : (Ws EL).size = 5 := by rw [Ws_size, hEL]
  have J1 : Hid (∀ wx : World, Calls Tryz.prog 167 #[.agg (Ws a), .int .i64 250] wx fun e w' => e = .returned (.agg (Ws (Ff.ones a 250 250))) ∧ Below wx.heap.size wx w') := fun wx => F_ones a ha 250 250 wx (by omega) (by omega) (by omega)
  have hO5 : (Ff.ones a 250 250).length = 5 := Ff.ones_length a ha _ _
  generalize Ff.ones a 250 250 = O5 at J1 hO5 HE
  have sO5 : (Ws O5).size = 5 := by rw [Ws_size, hO5]
  have J2 : Hid (∀ wx : World, Calls Tryz.prog 166 #[.agg (Ws O5), .int .i64 5] wx fun e w' => e = .returned (.agg (Ws (Ff.squares O5 5))) ∧ Below wx.heap.size wx w') := fun wx => F_squares _ 5 wx hO5 (by omega)
  have hP5 : (Ff.squares O5 5).length = 5 := Ff.squares_length _ hO5 _
  generalize Ff.squares O5 5 = P5 at J2 hP5 HE
  have sP5 : (Ws P5).size = 5 := by rw [Ws_size, hP5]
  have J4 : Hid (∀ wx : World, Calls Tryz.prog 111 #[.agg (Ws P5), .agg (Ws EL)] wx fun e w' => e = .returned (.agg (Ws (Ff.times P5 EL))) ∧ Below wx.heap.size wx w') := fun wx => F_times _ _ wx hP5 hEL
  have hVV : (Ff.times P5 EL).length = 5 := Ff.times_length _ _
  generalize Ff.times P5 EL = VV at J4 hVV HE
  have sVV : (Ws VV).size = 5 := by rw [Ws_size, hVV]
  have hr : RR = VV := HE.out
  subst hr
  clear HE
  have hW : WS w w.heap.size [(w.heap.size, Ws a, 69), (w.heap.size + 1, #[.int .u64 0, .int .u64 0, .int .u64 0, .int .u64 0, .int .u64 0], 69)] ((w.alloc (.cells (Ws a) 69)).alloc (.cells #[.int .u64 0, .int .u64 0, .int .u64 0, .int .u64 0, .int .u64 0] 69)) := by
    have h1 := (WS.start (w := w)).new (Ws a) 69
    have h2 := h1.new #[.int .u64 0, .int .u64 0, .int .u64 0, .int .u64 0, .int .u64 0] 69
    rw [show (w.alloc (.cells (Ws a) 69)).heap.size = w.heap.size + 1 by simp] at h2
    exact h2.sub (by intro x hx; simp only [List.mem_cons, List.not_mem_nil, or_false] at hx ⊢; rcases hx with rfl | rfl <;> simp)
  go_enter Tryz.func112, Tryz.ntmps112
  go_wp2_with fail
  generalize (w.alloc (.cells (Ws a) 69)).alloc (.cells #[.int .u64 0, .int .u64 0, .int .u64 0, .int .u64 0, .int .u64 0] 69) = w1 at hW ⊢
  refine wp_region_M (S := WS w (w.heap.size) [(w.heap.size, Ws a, 69), (w.heap.size + 1, #[.int .u64 0, .int .u64 0, .int .u64 0, .int .u64 0, .int .u64 0], 69)]) (ls := [8]) (by kernel_rfl) ?_
  have hW0 : WS w (w.heap.size) [(w.heap.size, Ws a, 69), (w.heap.size + 1, #[.int .u64 0, .int .u64 0, .int .u64 0, .int .u64 0, .int .u64 0], 69)] w1.drew := hW.drew
  clear hW
  generalize World.drew w1 = rd at hW0 ⊢
  refine wpAnyM_take (i := 0) (dst := some 4) (v := .agg (Ws a)) rfl rfl (by kernel_rfl) (by kernel_rfl) (by kernel_rfl) (by kernel_rfl) (by kernel_rfl) (fun _ _ _ h => h) (Or.inl ⟨by rfl, ?hyr0⟩) hW0 ?rer0
  case hyr0 => exact fun wx hSx => exec_load_row 69 _ rfl (w.heap.size) rfl 69 _ (0, 0) _ (hSx.get 0 rfl) Tryz.underlying69 rfl (by rw [sa]; exact Tryz.infoF5)
  refine wpAnyM_take (i := 2) (dst := some 6) (v := .agg (Ws a)) rfl rfl (by kernel_rfl) (by kernel_rfl) (by kernel_rfl) (by kernel_rfl) (by kernel_rfl) (fun _ _ _ h => h) (Or.inl ⟨by rfl, ?hyr2⟩) hW0 ?rer2
  case hyr2 => exact fun wx hSx => exec_load_row 69 _ rfl (w.heap.size) rfl 69 _ (0, 0) _ (hSx.get 0 rfl) Tryz.underlying69 rfl (by rw [sa]; exact Tryz.infoF5)
  refine wpAnyM_take (i := 5) (dst := some 9) (v := .agg (Ws a)) rfl rfl (by kernel_rfl) (by kernel_rfl) (by kernel_rfl) (by kernel_rfl) (by kernel_rfl) (fun _ _ _ h => h) (Or.inl ⟨by rfl, ?hyr5⟩) hW0 ?rer5
  case hyr5 => exact fun wx hSx => exec_load_row 69 _ rfl (w.heap.size) rfl 69 _ (0, 0) _ (hSx.get 0 rfl) Tryz.underlying69 rfl (by rw [sa]; exact Tryz.infoF5)
  simp only [Act.put, List.setIfInBounds_toArray, List.set_cons_zero, List.set_cons_succ]
  change wpAnyM _ _ _ _ _ _ 6 #[true, false, true, false, false, true, false, false, false] _ _
  refine wpAnyM_phaseU (R := fun d u w' => (d 1 = true → u 5 = .agg (Ws A3)) ∧ (d 3 = true → u 7 = .agg (Ws A1)) ∧ (d 4 = true → u 8 = .agg (Ws B1)) ∧ (d 6 = true → u 10 = .agg (Ws EL)) ∧ (d 7 = true → Fresh w (w.heap.size) [(w.heap.size, Ws a, 69), (w.heap.size + 1, #[.int .u64 0, .int .u64 0, .int .u64 0, .int .u64 0, .int .u64 0], 69)] #[.int .u64 0, .int .u64 0, .int .u64 0, .int .u64 0, .int .u64 0] 69 (u 3) w') ∧ WS w (w.heap.size) [(w.heap.size, Ws a, 69), (w.heap.size + 1, #[.int .u64 0, .int .u64 0, .int .u64 0, .int .u64 0, .int .u64 0], 69)] w') [5, 7, 8, 10, 3] [1, 3, 4, 6, 7] #[true, true, true, true, true, true, true, true, false] (by kernel_rfl) (by kernel_rfl) (by kernel_rfl) ⟨fun h => Bool.noConfusion h, fun h => Bool.noConfusion h, fun h => Bool.noConfusion h, fun h => Bool.noConfusion h, fun h => Bool.noConfusion h, hW0⟩ ?stepsr ?finr
  case stepsr =>
    refine StepsU.cons rfl ?sr1 (StepsU.cons rfl ?sr3 (StepsU.cons rfl ?sr4 (StepsU.cons rfl ?sr6 (StepsU.cons rfl ?sr7 StepsU.nil))))
    case sr1 =>
      rintro d u wx ⟨h1, h3, h4, h6, h7, hX⟩ hd K hK
      simp only [layS, List.foldl, Act.put, List.setIfInBounds_toArray, List.set_cons_zero, List.set_cons_succ]
      go_simp
      go_wp2_with (go_at_call 166; refine (H1.out _).mono ?_; rintro e x0 ⟨rfl, k0⟩)
      refine hK.out (upV u 5 (.agg (Ws A3))) _ (hX.keep k0) ⟨fun _ => rfl, fun h => h3 h, fun h => h4 h, fun h => h6 h, fun h => (h7 h).keep k0, hX.keep k0⟩ _ ?_
      simp only [layS, List.foldl, Act.put, List.setIfInBounds_toArray, List.set_cons_zero, List.set_cons_succ, upV, reduceIte, Nat.reduceEqDiff]
    case sr3 =>
      rintro d u wx ⟨h1, h3, h4, h6, h7, hX⟩ hd K hK
      simp only [layS, List.foldl, Act.put, List.setIfInBounds_toArray, List.set_cons_zero, List.set_cons_succ]
      go_simp
      go_wp2_with (go_at_call 166; refine (H3.out _).mono ?_; rintro e x0 ⟨rfl, k0⟩)
      refine hK.out (upV u 7 (.agg (Ws A1))) _ (hX.keep k0) ⟨fun h => h1 h, fun _ => rfl, fun h => h4 h, fun h => h6 h, fun h => (h7 h).keep k0, hX.keep k0⟩ _ ?_
      simp only [layS, List.foldl, Act.put, List.setIfInBounds_toArray, List.set_cons_zero, List.set_cons_succ, upV, reduceIte, Nat.reduceEqDiff]
    case sr4 =>
      rintro d u wx ⟨h1, h3, h4, h6, h7, hX⟩ hd K hK
      have e1 := h1 (hd 1 (by kernel_rfl))
      have e3 := h3 (hd 3 (by kernel_rfl))
      simp only [layS, List.foldl, Act.put, List.setIfInBounds_toArray, List.set_cons_zero, List.set_cons_succ, e1, e3]
      go_simp
      go_wp2_with (go_at_call 111; refine (H4.out _).mono ?_; rintro e x0 ⟨rfl, k0⟩)
      refine hK.out (upV u 8 (.agg (Ws B1))) _ (hX.keep k0) ⟨fun h => h1 h, fun h => h3 h, fun _ => rfl, fun h => h6 h, fun h => (h7 h).keep k0, hX.keep k0⟩ _ ?_
      simp only [layS, List.foldl, Act.put, List.setIfInBounds_toArray, List.set_cons_zero, List.set_cons_succ, upV, reduceIte, Nat.reduceEqDiff, e1, e3]
    case sr6 =>
      rintro d u wx ⟨h1, h3, h4, h6, h7, hX⟩ hd K hK
      have e4 := h4 (hd 4 (by kernel_rfl))
      simp only [layS, List.foldl, Act.put, List.setIfInBounds_toArray, List.set_cons_zero, List.set_cons_succ, e4]
      go_simp
      go_wp2_with (go_at_call 111; refine (H6.out _).mono ?_; rintro e x0 ⟨rfl, k0⟩)
      refine hK.out (upV u 10 (.agg (Ws EL))) _ (hX.keep k0) ⟨fun h => h1 h, fun h => h3 h, fun h => h4 h, fun _ => rfl, fun h => (h7 h).keep k0, hX.keep k0⟩ _ ?_
      simp only [layS, List.foldl, Act.put, List.setIfInBounds_toArray, List.set_cons_zero, List.set_cons_succ, upV, reduceIte, Nat.reduceEqDiff, e4]
    case sr7 =>
      rintro d u wx ⟨h1, h3, h4, h6, h7, hX⟩ hd K hK
      simp only [layS, List.foldl, Act.put, List.setIfInBounds_toArray, List.set_cons_zero, List.set_cons_succ]
      go_simp
      refine hK.out (upV u 3 (.pointer (some ⟨wx.heap.size, 0, none⟩))) _ (hX.alloc _) ⟨fun h => h1 h, fun h => h3 h, fun h => h4 h, fun h => h6 h, fun _ => Fresh.mk hX _ _, hX.alloc _⟩ _ ?_
      simp only [layS, List.foldl, Act.put, List.setIfInBounds_toArray, List.set_cons_zero, List.set_cons_succ, upV, reduceIte, Nat.reduceEqDiff]
  case finr =>
    rintro n' d u rx ⟨h1, h3, h4, h6, h7, hX⟩ hd
    have e5 := h1 (hd 1 rfl)
    have e7 := h3 (hd 3 rfl)
    have e8 := h4 (hd 4 rfl)
    have e10 := h6 (hd 6 rfl)
    obtain ⟨q, e3, bq, lq, mq⟩ := h7 (hd 7 rfl)
    simp only [layS, List.foldl, Act.put, List.setIfInBounds_toArray, List.set_cons_zero, List.set_cons_succ, e5, e7, e8, e10, e3]
    clear hd h1 h3 h4 h6 h7 e5 e7 e8 e10 e3
    change wpAnyM _ _ _ _ _ _ (n' + 1) _ _ _
    replace hX := hX.push bq mq
    have lq0 : w.heap.size < q := lq _ (List.mem_of_getElem? (i := 0) rfl)
    have lq1 : w.heap.size + 1 < q := lq _ (List.mem_of_getElem? (i := 1) rfl)
    refine wpAnyM_late (i := 8) (by kernel_rfl) rfl rfl (fun K hK => ?_)
    have hst := storeRow (l := EL) (hX.get 0 rfl) (by rw [hEL]; rfl)
    go_simp
    refine hK.out _ _ ?_
    clear hK K hst
    replace hX := hX.upd (q) (Ws EL) 69 [(q, Ws EL, 69), (w.heap.size, Ws a, 69), (w.heap.size + 1, #[.int .u64 0, .int .u64 0, .int .u64 0, .int .u64 0, .int .u64 0], 69)] ⟨_, List.mem_of_getElem? (i := 0) rfl⟩ (by intro x hx; simp only [List.mem_cons, List.not_mem_nil, or_false] at hx; rcases hx with rfl | rfl | rfl <;> first | exact Or.inl rfl | exact Or.inr ⟨by simp, by dsimp only; omega⟩)
    generalize rx.setRow (q) (Ws EL) = ry0 at hX ⊢
    refine wpAnyM_done (by kernel_rfl) ?_ _
    clear bq mq lq
    go_wp2_with fail
    refine wp_region_M (S := WS w (w.heap.size) [(q, Ws EL, 69), (w.heap.size, Ws a, 69), (w.heap.size + 1, #[.int .u64 0, .int .u64 0, .int .u64 0, .int .u64 0, .int .u64 0], 69)]) (ls := [5]) (by kernel_rfl) ?_
    have hX0 : WS w (w.heap.size) [(q, Ws EL, 69), (w.heap.size, Ws a, 69), (w.heap.size + 1, #[.int .u64 0, .int .u64 0, .int .u64 0, .int .u64 0, .int .u64 0], 69)] ry0.drew := hX.drew
    clear hX
    generalize World.drew ry0 = td at hX0 ⊢
    refine wpAnyM_take (i := 0) (dst := some 11) (v := .agg (Ws a)) rfl rfl (by kernel_rfl) (by kernel_rfl) (by kernel_rfl) (by kernel_rfl) (by kernel_rfl) (fun _ _ _ h => h) (Or.inl ⟨by rfl, ?hyt0⟩) hX0 ?ret0
    case hyt0 => exact fun wx hSx => exec_load_row 69 _ rfl (w.heap.size) rfl 69 _ (0, 0) _ (hSx.get 1 rfl) Tryz.underlying69 rfl (by rw [sa]; exact Tryz.infoF5)
    refine wpAnyM_take (i := 3) (dst := some 14) (v := .agg (Ws EL)) rfl rfl (by kernel_rfl) (by kernel_rfl) (by kernel_rfl) (by kernel_rfl) (by kernel_rfl) (fun _ _ _ h => h) (Or.inl ⟨by rfl, ?hyt3⟩) hX0 ?ret3
    case hyt3 => exact fun wx hSx => exec_load_row 69 _ rfl (q) rfl 69 _ (0, 0) _ (hSx.get 0 rfl) Tryz.underlying69 rfl (by rw [sEL]; exact Tryz.infoF5)
    simp only [Act.put, List.setIfInBounds_toArray, List.set_cons_zero, List.set_cons_succ]
    refine wpAnyM_one (i := 1) (by kernel_rfl) rfl (fun K hK => ?_)
    go_simp
    go_wp2_with (go_at_call 167; refine (J1.out _).mono ?_; rintro e tx0 ⟨rfl, k0⟩)
    have hX1 := hX0.keep k0
    refine hK.out _ _ hX1 ?_
    clear hK K k0 hX0
    refine wpAnyM_one (i := 2) (by kernel_rfl) rfl (fun K hK => ?_)
    go_simp
    go_wp2_with (go_at_call 166; refine (J2.out _).mono ?_; rintro e tx1 ⟨rfl, k0⟩)
    have hX2 := hX1.keep k0
    refine hK.out _ _ hX2 ?_
    clear hK K k0 hX1
    refine wpAnyM_one (i := 4) (by kernel_rfl) rfl (fun K hK => ?_)
    go_simp
    go_wp2_with (go_at_call 111; refine (J4.out _).mono ?_; rintro e tx2 ⟨rfl, k0⟩)
    have hX3 := hX2.keep k0
    refine hK.out _ _ hX3 ?_
    clear hK K k0 hX2
    refine wpAnyM_late (i := 5) (by kernel_rfl) rfl rfl (fun K hK => ?_)
    have hst := storeRow (l := RR) (hX3.get 2 rfl) (by rw [hVV]; rfl)
    go_simp
    refine hK.out _ _ ?_
    clear hK K hst
    replace hX3 := hX3.upd (w.heap.size + 1) (Ws RR) 69 [(q, Ws EL, 69), (w.heap.size, Ws a, 69), (w.heap.size + 1, Ws RR, 69)] ⟨_, List.mem_of_getElem? (i := 2) rfl⟩ (by intro x hx; simp only [List.mem_cons, List.not_mem_nil, or_false] at hx; rcases hx with rfl | rfl | rfl <;> first | exact Or.inl rfl | exact Or.inr ⟨by simp, by dsimp only; omega⟩)
    generalize tx2.setRow (w.heap.size + 1) (Ws RR) = ty0 at hX3 ⊢
    refine wpAnyM_done (by kernel_rfl) ?_ _
    go_wp2
    refine bodyPost_ret (v := .agg (Ws RR)) ?_ rfl ⟨rfl, hX3.below⟩
    exact results_cell_row rfl _ _ (w.heap.size + 1) 69 _ (0, 0) _ rfl (hX3.get 2 rfl) Tryz.underlying69 rfl (by rw [sVV]; exact Tryz.infoF5)

end Go.Proofs.YtclpbaokadfhhaaGreatDoor
