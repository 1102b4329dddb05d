/- Contract of sign's Right. -/
import Derived.Test.YtclpbaokadfhhaaDoorSn2
namespace Go.Proofs.YtclpbaokadfhhaaDoor
open Go.RowKit

set_option maxRecDepth 100000 in
set_option maxHeartbeats 8000000 in
theorem N_right' (K : Nat → BitVec 64) (id data sig fi la nb bb : ByteArray) (PT NU rB TI rX rN rS rZ : List (BitVec 64)) (found : Bool) (w : World) (hK : Hid (Tab K w)) (hsz : sig.size = 64) (x1 : sig.extract 0 32 = fi) (x2 : sig.extract 32 64 = la)
    (H1 : Hid (∀ wx : World, Calls Tryd.prog 41 #[.string id] wx fun e w' => e = .returned (.tuple #[.agg (Ws PT), .bool found]) ∧ Below wx.heap.size wx w'))
    (H2 : Hid (∀ wx : World, Calls Tryd.prog 33 #[.string la] wx fun e w' => e = .returned (.agg (Ws NU)) ∧ Below wx.heap.size wx w'))
    (H3 : Hid (∀ wx : World, Calls Tryd.prog 40 #[.agg (Ws NU)] wx fun e w' => e = .returned (.string nb) ∧ Below wx.heap.size wx w'))
    (H4 : Hid (∀ wx : World, Tab K wx → Calls Tryd.prog 38 #[.string fi, .string id, .string data] wx fun e w' => e = .returned (.agg (Ws TI)) ∧ Below wx.heap.size wx w'))
    (H5 : Hid (∀ wx : World, Calls Tryd.prog 35 #[.agg (Ws PT), .agg (Ws TI)] wx fun e w' => e = .returned (.agg (Ws rX)) ∧ Below wx.heap.size wx w'))
    (H6 : Hid (∀ wx : World, Calls Tryd.prog 42 #[.agg (Ws rX)] wx fun e w' => e = .returned (.agg (Ws rN)) ∧ Below wx.heap.size wx w'))
    (H7 : Hid (∀ wx : World, Calls Tryd.prog 34 #[] wx fun e w' => e = .returned (.agg (Ws rB)) ∧ Below wx.heap.size wx w'))
    (H8 : Hid (∀ wx : World, Calls Tryd.prog 35 #[.agg (Ws rB), .agg (Ws NU)] wx fun e w' => e = .returned (.agg (Ws rS)) ∧ Below wx.heap.size wx w'))
    (H9 : Hid (∀ wx : World, Calls Tryd.prog 43 #[.agg (Ws rS), .agg (Ws rN)] wx fun e w' => e = .returned (.agg (Ws rZ)) ∧ Below wx.heap.size wx w'))
    (J1 : Hid (∀ wx : World, Calls Tryd.prog 36 #[.agg (Ws rZ)] wx fun e w' => e = .returned (.string bb) ∧ Below wx.heap.size wx w'))
    (hPT : PT.length = 15) (hNU : NU.length = 4) (hrN : rN.length = 15) :
    Calls Tryd.prog 24 #[.string id, .string data, .string sig] w fun e w' => e = .returned (.bool (if found = true then (if nb = la then (bb.toList == fi.toList) else false) else false)) ∧ Below w.heap.size w w' := by
  have hK9 := hK
  have hz := zero15
  have sZ := Z15_len
  generalize Z15 = ZO at hz sZ
  have sZ' : (Ws ZO).size = 15 := by rw [Ws_size, sZ]
  have sPT : (Ws PT).size = 15 := by rw [Ws_size, hPT]
  have sNU : (Ws NU).size = 4 := by rw [Ws_size, hNU]
  have srN : (Ws rN).size = 15 := by rw [Ws_size, hrN]
  generalize hV : (if found = true then (if nb = la then (bb.toList == fi.toList) else false) else false) = V
  replace hV : Hid ((if found = true then (if nb = la then (bb.toList == fi.toList) else false) else false) = V) := hV
  go_enter Tryd.func24, Tryd.ntmps24
  go_wp2_with fail
  refine (H1.out _).mono ?_
  rintro e w2 ⟨rfl, k2⟩
  have hW := (WD.start (w := w)).keep k2
  clear k2
  have hN := hW.new (Ws ZO) 60
  have gz := hN.get 0 rfl
  dsimp only at gz
  unfold Blk at gz
  replace hW : WD w w.heap.size [(w2.heap.size, Ws PT, 60)] ((w2.alloc (.cells (Ws ZO) 60)).setRow w2.heap.size (Ws PT)) := hN.over 0 rfl (Ws PT)
  cases found with
  | false =>
    go_wp2_with (first
      | (refine wpList_store_row rfl 60 _ _ rfl w2.heap.size _ rfl rfl 60 _ gz (by rw [sPT]; exact Tryd.infoP15) (by rw [sPT, sZ']) (Ws_one _) ?_))
    have hV' : V = false := by rw [← show _ = V from hV.out]; first | rfl | simp
    go_ret
    exact ⟨by rw [hV']; rfl, hW.below⟩
  | true =>
    go_wp2_with (first
      | (refine wpList_store_row rfl 60 _ _ rfl w2.heap.size _ rfl rfl 60 _ gz (by rw [sPT]; exact Tryd.infoP15) (by rw [sPT, sZ']) (Ws_one _) ?_))
    clear hN gz
    generalize (w2.alloc (.cells (Ws ZO) 60)).setRow w2.heap.size (Ws PT) = w3 at hW ⊢
    generalize w2.heap.size = q7 at hW ⊢
    refine wp_region_M (S := WD w (w.heap.size) [(q7, Ws PT, 60)]) (ls := []) (by kernel_rfl) ?_
    have hW0 : WD w (w.heap.size) [(q7, Ws PT, 60)] w3.drew := hW.drew
    clear hW
    generalize World.drew w3 = ad at hW0 ⊢
    refine wpAnyM_take (i := 0) (dst := some 20) (v := ?va0) rfl rfl (by kernel_rfl) (by kernel_rfl) (by kernel_rfl) (by kernel_rfl) (by kernel_rfl) (fun _ _ _ h => h) (Or.inl ⟨by rfl, ?hya0⟩) hW0 ?rea0
    case hya0 => (intro wx hSx; clear hSx; go_simp; try (with_reducible rfl))
    refine wpAnyM_take (i := 1) (dst := some 21) (v := .string fi) rfl rfl (by kernel_rfl) (by kernel_rfl) (by kernel_rfl) (by kernel_rfl) (by kernel_rfl) (fun _ _ _ h => h) (Or.inl ⟨by rfl, ?hya1⟩) hW0 ?rea1
    case hya1 => exact fun wx _ => by go_simp; try (with_reducible rfl)
    refine wpAnyM_take (i := 2) (dst := some 22) (v := ?va2) rfl rfl (by kernel_rfl) (by kernel_rfl) (by kernel_rfl) (by kernel_rfl) (by kernel_rfl) (fun _ _ _ h => h) (Or.inl ⟨by rfl, ?hya2⟩) hW0 ?rea2
    case hya2 => (intro wx hSx; clear hSx; go_simp; try (with_reducible rfl))
    simp only [Act.put, List.setIfInBounds_toArray, List.set_cons_zero, List.set_cons_succ]
    refine wpAnyM_take (i := 3) (dst := some 23) (v := .string la) rfl rfl (by kernel_rfl) (by kernel_rfl) (by kernel_rfl) (by kernel_rfl) (by kernel_rfl) (fun _ _ _ h => h) (Or.inl ⟨by rfl, ?hya3⟩) hW0 ?rea3
    case hya3 => exact fun wx _ => by go_simp; try (with_reducible rfl)
    refine wpAnyM_take (i := 4) (dst := some 9) (v := .string fi) rfl rfl (by kernel_rfl) (by kernel_rfl) (by kernel_rfl) (by kernel_rfl) (by kernel_rfl) (fun _ _ _ h => h) (Or.inl ⟨by rfl, ?hya4⟩) hW0 ?rea4
    case hya4 => exact fun wx _ => by go_simp; try (with_reducible rfl)
    refine wpAnyM_take (i := 5) (dst := some 10) (v := .string la) rfl rfl (by kernel_rfl) (by kernel_rfl) (by kernel_rfl) (by kernel_rfl) (by kernel_rfl) (fun _ _ _ h => h) (Or.inl ⟨by rfl, ?hya5⟩) hW0 ?rea5
    case hya5 => exact fun wx _ => by go_simp; try (with_reducible rfl)
    try simp only [Act.put, List.setIfInBounds_toArray, List.set_cons_zero, List.set_cons_succ]
    refine wpAnyM_done (by kernel_rfl) ?_ _
    generalize ad = w4 at hW0 ⊢
    go_wp2_with fail
    refine (H2.out _).mono ?_
    rintro e w5 ⟨rfl, k5⟩
    have hW1 := hW0.keep k5
    clear k5 hW0
    have hN := hW1.new #[.int .u64 0, .int .u64 0, .int .u64 0, .int .u64 0] 52
    have gz := hN.get 0 rfl
    dsimp only at gz
    unfold Blk at gz
    replace hW1 : WD w w.heap.size [(w5.heap.size, Ws NU, 52), (q7, Ws PT, 60)] ((w5.alloc (.cells #[.int .u64 0, .int .u64 0, .int .u64 0, .int .u64 0] 52)).setRow w5.heap.size (Ws NU)) := hN.over 0 rfl (Ws NU)
    have g0 := hW1.get 0 rfl
    dsimp only at g0
    unfold Blk at g0
    go_wp2_with (first
      | (refine wpList_store_row rfl 52 _ _ rfl w5.heap.size _ rfl rfl 52 _ gz (by rw [sNU]; exact Tryd.infoS4) (by rw [sNU]; rfl) (Ws_one _) ?_)
      | (refine wpList_load_row rfl 52 _ rfl w5.heap.size rfl 52 _ (0, 0) _ g0 Tryd.underlying52 rfl (by rw [sNU]; exact Tryd.infoS4) ?_))
    clear hN gz g0
    generalize (w5.alloc (.cells #[.int .u64 0, .int .u64 0, .int .u64 0, .int .u64 0] 52)).setRow w5.heap.size (Ws NU) = w6 at hW1 ⊢
    generalize w5.heap.size = q11 at hW1 ⊢
    refine (H3.out _).mono ?_
    rintro e w7 ⟨rfl, k7⟩
    replace hW1 := hW1.keep k7
    clear k7
    by_cases hT : nb = la
    · have hT' : Hid (nb = la) := hT
      clear hT
      rw [hT'.out]
      go_wp2_with fail
      refine wp_region_M (S := WD w (w.heap.size) [(q11, Ws NU, 52), (q7, Ws PT, 60)]) (ls := [8]) (by kernel_rfl) ?_
      have hW10 : WD w (w.heap.size) [(q11, Ws NU, 52), (q7, Ws PT, 60)] w7.drew := hW1.drew
      clear hW1
      generalize World.drew w7 = bd at hW10 ⊢
      refine wpAnyM_take (i := 0) (dst := some 30) (v := .agg (Ws PT)) rfl rfl (by kernel_rfl) (by kernel_rfl) (by kernel_rfl) (by kernel_rfl) (by kernel_rfl) (fun _ _ _ h => h) (Or.inl ⟨by rfl, ?hyb0⟩) hW10 ?reb0
      case hyb0 => exact fun wx hSx => exec_load_row 60 _ rfl (q7) rfl 60 _ (0, 0) _ (hSx.get 1 rfl) Tryd.underlying60 rfl (by rw [sPT]; exact Tryd.infoP15)
      refine wpAnyM_take (i := 1) (dst := some 31) (v := ?vb1) rfl rfl (by kernel_rfl) (by kernel_rfl) (by kernel_rfl) (by kernel_rfl) (by kernel_rfl) (fun _ _ _ h => h) (Or.inl ⟨by rfl, ?hyb1⟩) hW10 ?reb1
      case hyb1 => (intro wx hSx; clear hSx; go_simp; try (with_reducible rfl))
      refine wpAnyM_take (i := 2) (dst := some 32) (v := ?vb2) rfl rfl (by kernel_rfl) (by kernel_rfl) (by kernel_rfl) (by kernel_rfl) (by kernel_rfl) (fun _ _ _ h => h) (Or.inl ⟨by rfl, ?hyb2⟩) hW10 ?reb2
      case hyb2 => (intro wx hSx; clear hSx; go_simp; try (with_reducible rfl))
      simp only [Act.put, List.setIfInBounds_toArray, List.set_cons_zero, List.set_cons_succ]
      refine wpAnyM_take (i := 3) (dst := some 33) (v := ?vb3) rfl rfl (by kernel_rfl) (by kernel_rfl) (by kernel_rfl) (by kernel_rfl) (by kernel_rfl) (fun _ _ _ h => h) (Or.inl ⟨by rfl, ?hyb3⟩) hW10 ?reb3
      case hyb3 => (intro wx hSx; clear hSx; go_simp; try (with_reducible rfl))
      try simp only [Act.put, List.setIfInBounds_toArray, List.set_cons_zero, List.set_cons_succ]
      change wpAnyM _ _ _ _ _ _ 5 #[true, true, true, true, false, false, false, false, false] _ _
      refine wpAnyM_phaseU2 (R := fun d u w' => (d 4 = true → u 34 = .agg (Ws TI)) ∧ (d 5 = true → u 35 = .agg (Ws rX)) ∧ (d 6 = true → u 36 = .agg (Ws rN)) ∧ (d 7 = true → Fresh w (w.heap.size) [(q11, Ws NU, 52), (q7, Ws PT, 60)] (Ws ZO) 60 (u 12) w') ∧ WD w (w.heap.size) [(q11, Ws NU, 52), (q7, Ws PT, 60)] w') [34, 35, 36, 12] [4, 5, 6, 7] #[true, true, true, true, true, true, true, true, false] (by kernel_rfl) (by kernel_rfl) (by kernel_rfl) ⟨fun h => Bool.noConfusion h, fun h => Bool.noConfusion h, fun h => Bool.noConfusion h, fun h => Bool.noConfusion h, hW10⟩ ?stepsb ?finb
      case stepsb =>
        refine StepsU.cons rfl ?sb4 (StepsU.cons rfl ?sb5 (StepsU.cons rfl ?sb6 (StepsU.cons rfl ?sb7 StepsU.nil)))
        case sb4 =>
          rintro d u wx ⟨h4, h5, h6, h7, hX⟩ hd K hK
          simp only [layS, List.foldl, Act.put, List.setIfInBounds_toArray, List.set_cons_zero, List.set_cons_succ]
          go_simp
          go_wp2_with (go_at_call 38; refine (H4.out _ (hK9.out.below hX.below)).mono ?_; rintro e x0 ⟨rfl, k0⟩)
          refine hK.out (upV u 34 (.agg (Ws TI))) _ (hX.keep k0) ⟨fun _ => rfl, fun h => h5 h, fun h => h6 h, fun h => (h7 h).keep k0, hX.keep k0⟩ _ ?_
          simp only [layS, List.foldl, Act.put, List.setIfInBounds_toArray, List.set_cons_zero, List.set_cons_succ, upV, reduceIte, Nat.reduceEqDiff]
        case sb5 =>
          rintro d u wx ⟨h4, h5, h6, h7, hX⟩ hd K hK
          have e4 := h4 (hd 4 (by kernel_rfl))
          simp only [layS, List.foldl, Act.put, List.setIfInBounds_toArray, List.set_cons_zero, List.set_cons_succ, e4]
          go_simp
          go_wp2_with (go_at_call 35; refine (H5.out _).mono ?_; rintro e x0 ⟨rfl, k0⟩)
          refine hK.out (upV u 35 (.agg (Ws rX))) _ (hX.keep k0) ⟨fun h => h4 h, fun _ => rfl, fun h => h6 h, fun h => (h7 h).keep k0, hX.keep k0⟩ _ ?_
          simp only [layS, List.foldl, Act.put, List.setIfInBounds_toArray, List.set_cons_zero, List.set_cons_succ, upV, reduceIte, Nat.reduceEqDiff, e4]
        case sb6 =>
          rintro d u wx ⟨h4, h5, h6, h7, hX⟩ hd K hK
          have e5 := h5 (hd 5 (by kernel_rfl))
          simp only [layS, List.foldl, Act.put, List.setIfInBounds_toArray, List.set_cons_zero, List.set_cons_succ, e5]
          go_simp
          go_wp2_with (go_at_call 42; refine (H6.out _).mono ?_; rintro e x0 ⟨rfl, k0⟩)
          refine hK.out (upV u 36 (.agg (Ws rN))) _ (hX.keep k0) ⟨fun h => h4 h, fun h => h5 h, fun _ => rfl, fun h => (h7 h).keep k0, hX.keep k0⟩ _ ?_
          simp only [layS, List.foldl, Act.put, List.setIfInBounds_toArray, List.set_cons_zero, List.set_cons_succ, upV, reduceIte, Nat.reduceEqDiff, e5]
        case sb7 =>
          rintro d u wx ⟨h4, h5, h6, h7, hX⟩ hd K hK
          simp only [layS, List.foldl, Act.put, List.setIfInBounds_toArray, List.set_cons_zero, List.set_cons_succ]
          go_simp
          refine hK.out (upV u 12 (.pointer (some ⟨wx.heap.size, 0, none⟩))) _ (hX.alloc _) ⟨fun h => h4 h, fun h => h5 h, fun h => h6 h, fun _ => FreshD hX _ _, hX.alloc _⟩ _ ?_
          simp only [layS, List.foldl, Act.put, List.setIfInBounds_toArray, List.set_cons_zero, List.set_cons_succ, upV, reduceIte, Nat.reduceEqDiff]
      case finb =>
        rintro n' d u bx ⟨h4, h5, h6, h7, hX⟩ hd
        have e34 := h4 (hd 4 rfl)
        have e35 := h5 (hd 5 rfl)
        have e36 := h6 (hd 6 rfl)
        obtain ⟨q12, e12, bq12, lq12, mq12⟩ := h7 (hd 7 rfl)
        simp only [layS, List.foldl, Act.put, List.setIfInBounds_toArray, List.set_cons_zero, List.set_cons_succ, e34, e35, e36, e12]
        clear hd h4 h5 h6 h7 e34 e35 e36 e12
        change wpAnyM _ _ _ _ _ _ (n' + 1) _ _ _
        replace hX := hX.push bq12 mq12 (fun x hx => Nat.ne_of_lt (lq12 x hx))
        clear bq12 lq12 mq12
        refine wpAnyM_late (i := 8) (by kernel_rfl) rfl rfl (fun K hK => ?_)
        have hst := storeRow (l := rN) (hX.get 0 rfl) (by rw [sZ', hrN])
        go_simp
        refine hK.out _ _ ?_
        clear hK K hst
        replace hX : WD w (w.heap.size) [(q12, Ws rN, 60), (q11, Ws NU, 52), (q7, Ws PT, 60)] (bx.setRow (q12) (Ws rN)) := hX.over 0 rfl (Ws rN)
        generalize bx.setRow (q12) (Ws rN) = by0 at hX ⊢
        refine wpAnyM_done (by kernel_rfl) ?_ _
        go_wp2_with fail
        refine wp_region_M (S := WD w (w.heap.size) [(q12, Ws rN, 60), (q11, Ws NU, 52), (q7, Ws PT, 60)]) (ls := []) (by kernel_rfl) ?_
        have hX0 : WD w (w.heap.size) [(q12, Ws rN, 60), (q11, Ws NU, 52), (q7, Ws PT, 60)] by0.drew := hX.drew
        clear hX
        generalize World.drew by0 = cd at hX0 ⊢
        refine wpAnyM_take (i := 1) (dst := some 38) (v := .agg (Ws NU)) rfl rfl (by kernel_rfl) (by kernel_rfl) (by kernel_rfl) (by kernel_rfl) (by kernel_rfl) (fun _ _ _ h => h) (Or.inl ⟨by rfl, ?hyc1⟩) hX0 ?rec1
        case hyc1 => exact fun wx hSx => exec_load_row 52 _ rfl (q11) rfl 52 _ (0, 0) _ (hSx.get 1 rfl) Tryd.underlying52 rfl (by rw [sNU]; exact Tryd.infoS4)
        refine wpAnyM_take (i := 3) (dst := some 40) (v := .agg (Ws rN)) rfl rfl (by kernel_rfl) (by kernel_rfl) (by kernel_rfl) (by kernel_rfl) (by kernel_rfl) (fun _ _ _ h => h) (Or.inl ⟨by rfl, ?hyc3⟩) hX0 ?rec3
        case hyc3 => exact fun wx hSx => exec_load_row 60 _ rfl (q12) rfl 60 _ (0, 0) _ (hSx.get 0 rfl) Tryd.underlying60 rfl (by rw [srN]; exact Tryd.infoP15)
        refine wpAnyM_take (i := 6) (dst := some 43) (v := ?vc6) rfl rfl (by kernel_rfl) (by kernel_rfl) (by kernel_rfl) (by kernel_rfl) (by kernel_rfl) (fun _ _ _ h => h) (Or.inl ⟨by rfl, ?hyc6⟩) hX0 ?rec6
        case hyc6 => (intro wx hSx; clear hSx; go_simp; try (with_reducible rfl))
        try simp only [Act.put, List.setIfInBounds_toArray, List.set_cons_zero, List.set_cons_succ]
        refine wpAnyM_one (i := 0) (by kernel_rfl) rfl (fun K hK => ?_)
        go_simp
        go_wp2_with (go_at_call 34; refine (H7.out _).mono ?_; rintro e cx0 ⟨rfl, k0⟩)
        have hX1 := hX0.keep k0
        refine hK.out _ _ hX1 ?_
        try simp only [Act.put, List.setIfInBounds_toArray, List.set_cons_zero, List.set_cons_succ]
        clear hK K k0 hX0
        refine wpAnyM_one (i := 2) (by kernel_rfl) rfl (fun K hK => ?_)
        go_simp
        go_wp2_with (go_at_call 35; refine (H8.out _).mono ?_; rintro e cx1 ⟨rfl, k0⟩)
        have hX2 := hX1.keep k0
        refine hK.out _ _ hX2 ?_
        try simp only [Act.put, List.setIfInBounds_toArray, List.set_cons_zero, List.set_cons_succ]
        clear hK K k0 hX1
        refine wpAnyM_one (i := 4) (by kernel_rfl) rfl (fun K hK => ?_)
        go_simp
        go_wp2_with (go_at_call 43; refine (H9.out _).mono ?_; rintro e cx2 ⟨rfl, k0⟩)
        have hX3 := hX2.keep k0
        refine hK.out _ _ hX3 ?_
        try simp only [Act.put, List.setIfInBounds_toArray, List.set_cons_zero, List.set_cons_succ]
        clear hK K k0 hX2
        refine wpAnyM_one (i := 5) (by kernel_rfl) rfl (fun K hK => ?_)
        go_simp
        go_wp2_with (go_at_call 36; refine (J1.out _).mono ?_; rintro e cx3 ⟨rfl, k0⟩)
        have hX4 := hX3.keep k0
        refine hK.out _ _ hX4 ?_
        try simp only [Act.put, List.setIfInBounds_toArray, List.set_cons_zero, List.set_cons_succ]
        clear hK K k0 hX3
        refine wpAnyM_take (i := 7) (dst := some 44) (v := .bool (bb.toList == fi.toList)) rfl rfl (by kernel_rfl) (by kernel_rfl) (by kernel_rfl) (by kernel_rfl) (by kernel_rfl) (fun _ _ _ h => h) (Or.inl ⟨by rfl, ?hyc7⟩) hX4 ?rec7
        case hyc7 => (intro wx hSx; clear hSx; go_simp; try (with_reducible rfl))
        try simp only [Act.put, List.setIfInBounds_toArray, List.set_cons_zero, List.set_cons_succ]
        refine wpAnyM_take (i := 8) (dst := some 6) (v := .bool (bb.toList == fi.toList)) rfl rfl (by kernel_rfl) (by kernel_rfl) (by kernel_rfl) (by kernel_rfl) (by kernel_rfl) (fun _ _ _ h => h) (Or.inl ⟨by rfl, ?hyc8⟩) hX4 ?rec8
        case hyc8 => (intro wx hSx; clear hSx; go_simp; try (with_reducible rfl))
        try simp only [Act.put, List.setIfInBounds_toArray, List.set_cons_zero, List.set_cons_succ]
        refine wpAnyM_done (by kernel_rfl) ?_ _
        have hV' : V = (bb.toList == fi.toList) := by rw [← show _ = V from hV.out, if_pos trivial, if_pos hT'.out]
        go_wp2
        go_ret
        exact ⟨by rw [hV']; rfl, hX4.below⟩
    · have hcmp := bytes_ne hT
      go_wp2
      have hV' : V = false := by rw [← show _ = V from hV.out, if_pos trivial, if_neg hT]
      go_ret
      exact ⟨by rw [hV']; rfl, hW1.below⟩

theorem toList_data (s : ByteArray) : s.toList = s.data.toList := ByteArray.toList_eq s
/-- the contract of Right -/
theorem N_right (K : Nat → BitVec 64) (id data sig : ByteArray) (w : World) (hi : id.size = 32) (hd : data.size ≤ 100000) (hg : sig.size = 64) (hK : Tab K w) :
    Calls Tryd.prog 24 #[.string id, .string data, .string sig] w fun e w' => e = .returned (.bool (Sg.right (Sha.digest K) id.data.toList data.data.toList sig.data.toList)) ∧ Below w.heap.size w w' := by
  have H1 := fun wx => C_of id wx hi
  have e1 : (sig.extract 0 32).data.toList = sig.data.toList.take 32 := ext_take _ _
  have e2 : (sig.extract 32 64).data.toList = sig.data.toList.drop 32 := by rw [← hg, ext_drop]
  have z1 : (sig.extract 0 32).size = 32 := by simp; omega
  have z2 : (sig.extract 32 64).size = 32 := by simp; omega
  have hE : Sg.right (Sha.digest K) id.data.toList data.data.toList sig.data.toList = if (Cv.of id.data.toList).2 = true then (if Sc.bytes (Sc.of (sig.data.toList.drop 32)) = sig.data.toList.drop 32 then decide (Sg.want (Sha.digest K) (Cv.of id.data.toList).1 id.data.toList data.data.toList (sig.data.toList.take 32) (Sc.of (sig.data.toList.drop 32)) = sig.data.toList.take 32) else false) else false := by unfold Sg.right; with_reducible rfl
  have hwant : Sg.want (Sha.digest K) (Cv.of id.data.toList).1 id.data.toList data.data.toList (sig.data.toList.take 32) (Sc.of (sig.data.toList.drop 32)) = Cv.bytes (Cv.plus (Cv.timesN Cv.base (Sc.of (sig.data.toList.drop 32))) (Cv.negated (Cv.timesN (Cv.of id.data.toList).1 (Sg.tie (Sha.digest K) (sig.data.toList.take 32) id.data.toList data.data.toList)))) := by unfold Sg.want; with_reducible rfl
  have okP : Cv.Ok (Cv.of id.data.toList).1 := Cv.of_ok _
  rw [hwant] at hE
  clear hwant
  rw [← e1, ← e2] at hE
  generalize Sg.right (Sha.digest K) id.data.toList data.data.toList sig.data.toList = RES at hE ⊢
  generalize (Cv.of id.data.toList).1 = Pq at H1 hE okP
  generalize (Cv.of id.data.toList).2 = found at H1 hE
  obtain ⟨fi, x1⟩ : ∃ f, sig.extract 0 32 = f := ⟨_, rfl⟩
  obtain ⟨la, x2⟩ : ∃ f, sig.extract 32 64 = f := ⟨_, rfl⟩
  rw [x1] at hE z1
  rw [x2] at hE z2
  have H2 := fun wx => S_of la wx (by omega)
  have lN := Sc.of_length la.data.toList
  generalize Sc.of la.data.toList = NU at H2 hE lN
  have H3 := fun wx => S_bytes NU wx lN
  have hby : Sc.bytes NU = Ff.bytesTo NU 32 := by unfold Sc.bytes; with_reducible rfl
  rw [hby] at hE
  generalize Ff.bytesTo NU 32 = NB at H3 hE
  have H4 := fun wx h => N_tie K fi id data wx (by omega) (by omega) (by omega) h
  have lT : (Sg.tie (Sha.digest K) fi.data.toList id.data.toList data.data.toList).length = 4 := Sc.of_length _
  generalize Sg.tie (Sha.digest K) fi.data.toList id.data.toList data.data.toList = TI at H4 hE lT
  have H5 := fun wx => C_times Pq TI wx okP lT
  have ok5 := Cv.timesN_ok Pq TI
  generalize Cv.timesN Pq TI = X at H5 hE ok5
  have H6 := fun wx => C_negated X wx ok5
  have ok6 : Cv.Ok (Cv.negated X) := ok_mk (Ff.negated_length _) ok5.2.1 ok5.2.2
  generalize Cv.negated X = XN at H6 hE ok6
  have H8 := fun wx => C_times Cv.base NU wx (ok_mk rfl rfl rfl) lN
  have ok8 := Cv.timesN_ok Cv.base NU
  generalize Cv.timesN Cv.base NU = XS at H8 hE ok8
  have H9 := fun wx => C_plus XS XN wx ok8 ok6
  have ok9 := Cv.plus_ok XS XN
  generalize Cv.plus XS XN = XZ at H9 hE ok9
  have J1 := fun wx => C_bytes XZ wx ok9
  generalize Cv.bytes XZ = BB at J1 hE
  have hh := N_right' K id data sig fi la ⟨NB.toArray⟩ ⟨BB.toArray⟩ (Cv.row Pq) NU _ TI _ _ _ _ found w hK hg x1 x2 H1 H2 H3 H4 H5 H6 C_base H8 H9 J1 okP.row lN ok6.row
  have hr : (if found = true then (if (⟨NB.toArray⟩ : ByteArray) = la then ((⟨BB.toArray⟩ : ByteArray).toList == fi.toList) else false) else false) = RES := by
    rw [hE]
    by_cases h1 : found = true
    · rw [if_pos h1, if_pos h1]
      by_cases h2 : NB = la.data.toList
      · rw [if_pos (mk_eq.2 h2), if_pos h2, toList_data, toList_data]
        show (BB == fi.data.toList) = _
        rw [Bool.eq_iff_iff]; simp
      · rw [if_neg (fun e => h2 (mk_eq.1 e)), if_neg h2]
    · rw [if_neg h1, if_neg h1]
  rw [hr] at hh
  exact hh
end Go.Proofs.YtclpbaokadfhhaaDoor
