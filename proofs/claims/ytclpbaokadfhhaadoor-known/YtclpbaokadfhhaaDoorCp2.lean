/- Contract of curve's Plus. -/
import Derived.Test.YtclpbaokadfhhaaDoorCp1
namespace Go.Proofs.YtclpbaokadfhhaaDoor
open Go.RowKit

set_option maxRecDepth 100000 in
set_option maxHeartbeats 20000000 in
theorem C_plus' (A B C D E F RR : List (BitVec 64)) (w : World) (hA : A.length = 5) (hB : B.length = 5) (hC : C.length = 5) (hD : D.length = 5) (hE : E.length = 5) (hF : F.length = 5)
    (HE : Hid (RR = pt (Ff.times (Ff.times (Ff.times C F) (Ff.plus (Ff.times A E) (Ff.times D B))) (Ff.minus (Ff.times (Ff.times C F) (Ff.times C F)) (Ff.times (Ff.times Ff.factor (Ff.times A D)) (Ff.times B E)))) (Ff.times (Ff.times (Ff.times C F) (Ff.plus (Ff.times B E) (Ff.times A D))) (Ff.plus (Ff.times (Ff.times C F) (Ff.times C F)) (Ff.times (Ff.times Ff.factor (Ff.times A D)) (Ff.times B E)))) (Ff.times (Ff.plus (Ff.times (Ff.times C F) (Ff.times C F)) (Ff.times (Ff.times Ff.factor (Ff.times A D)) (Ff.times B E))) (Ff.minus (Ff.times (Ff.times C F) (Ff.times C F)) (Ff.times (Ff.times Ff.factor (Ff.times A D)) (Ff.times B E)))))) :
    Calls Tryd.prog 43 #[.agg (Ws (pt A B C)), .agg (Ws (pt D E F))] w fun e w' => e = .returned (.agg (Ws RR)) ∧ Below w.heap.size w w' := by
  have hz := zero15
  have sA : (Ws A).size = 5 := by rw [Ws_size, hA]
  have sB : (Ws B).size = 5 := by rw [Ws_size, hB]
  have sC : (Ws C).size = 5 := by rw [Ws_size, hC]
  have sD : (Ws D).size = 5 := by rw [Ws_size, hD]
  have sE : (Ws E).size = 5 := by rw [Ws_size, hE]
  have sF : (Ws F).size = 5 := by rw [Ws_size, hF]
  have H1 : Hid (∀ wx : World, Calls Tryd.prog 60 #[.agg (Ws A), .agg (Ws D)] wx fun e w' => e = .returned (.agg (Ws (Ff.times A D))) ∧ Below wx.heap.size wx w') := fun wx => F_times A D wx hA hD
  have hXX : (Ff.times A D).length = 5 := Ff.times_length _ _
  generalize Ff.times A D = XX at H1 hXX HE
  have sXX : (Ws XX).size = 5 := by rw [Ws_size, hXX]
  have H2 : Hid (∀ wx : World, Calls Tryd.prog 60 #[.agg (Ws B), .agg (Ws E)] wx fun e w' => e = .returned (.agg (Ws (Ff.times B E))) ∧ Below wx.heap.size wx w') := fun wx => F_times B E wx hB hE
  have hYY : (Ff.times B E).length = 5 := Ff.times_length _ _
  generalize Ff.times B E = YY at H2 hYY HE
  have sYY : (Ws YY).size = 5 := by rw [Ws_size, hYY]
  have H3 : Hid (∀ wx : World, Calls Tryd.prog 60 #[.agg (Ws A), .agg (Ws E)] wx fun e w' => e = .returned (.agg (Ws (Ff.times A E))) ∧ Below wx.heap.size wx w') := fun wx => F_times A E wx hA hE
  have hU1 : (Ff.times A E).length = 5 := Ff.times_length _ _
  generalize Ff.times A E = U1 at H3 hU1 HE
  have sU1 : (Ws U1).size = 5 := by rw [Ws_size, hU1]
  have H4 : Hid (∀ wx : World, Calls Tryd.prog 60 #[.agg (Ws D), .agg (Ws B)] wx fun e w' => e = .returned (.agg (Ws (Ff.times D B))) ∧ Below wx.heap.size wx w') := fun wx => F_times D B wx hD hB
  have hU2 : (Ff.times D B).length = 5 := Ff.times_length _ _
  generalize Ff.times D B = U2 at H4 hU2 HE
  have sU2 : (Ws U2).size = 5 := by rw [Ws_size, hU2]
  have H5 : Hid (∀ wx : World, Calls Tryd.prog 68 #[.agg (Ws U1), .agg (Ws U2)] wx fun e w' => e = .returned (.agg (Ws (Ff.plus U1 U2))) ∧ Below wx.heap.size wx w') := fun wx => F_plus U1 U2 wx hU1 hU2
  have hAC : (Ff.plus U1 U2).length = 5 := by rw [Ff.plus_length, hU1]
  generalize Ff.plus U1 U2 = AC at H5 hAC HE
  have sAC : (Ws AC).size = 5 := by rw [Ws_size, hAC]
  have H6 : Hid (∀ wx : World, Calls Tryd.prog 60 #[.agg (Ws C), .agg (Ws F)] wx fun e w' => e = .returned (.agg (Ws (Ff.times C F))) ∧ Below wx.heap.size wx w') := fun wx => F_times C F wx hC hF
  have hZZ : (Ff.times C F).length = 5 := Ff.times_length _ _
  generalize Ff.times C F = ZZ at H6 hZZ HE
  have sZZ : (Ws ZZ).size = 5 := by rw [Ws_size, hZZ]
  have H7 : Hid (∀ wx : World, Calls Tryd.prog 65 #[.agg (Ws ZZ)] wx fun e w' => e = .returned (.agg (Ws (Ff.times ZZ ZZ))) ∧ Below wx.heap.size wx w') := fun wx => F_square ZZ wx hZZ
  have hWH : (Ff.times ZZ ZZ).length = 5 := Ff.times_length _ _
  generalize Ff.times ZZ ZZ = WH at H7 hWH HE
  have sWH : (Ws WH).size = 5 := by rw [Ws_size, hWH]
  have H8 : Hid (∀ wx : World, Calls Tryd.prog 67 #[] wx fun e w' => e = .returned (.agg (Ws Ff.factor)) ∧ Below wx.heap.size wx w') := fun wx => C_factor wx
  have hFA : (Ff.factor).length = 5 := rfl
  generalize Ff.factor = FA at H8 hFA HE
  have sFA : (Ws FA).size = 5 := by rw [Ws_size, hFA]
  have H9 : Hid (∀ wx : World, Calls Tryd.prog 60 #[.agg (Ws FA), .agg (Ws XX)] wx fun e w' => e = .returned (.agg (Ws (Ff.times FA XX))) ∧ Below wx.heap.size wx w') := fun wx => F_times FA XX wx hFA hXX
  have hFX : (Ff.times FA XX).length = 5 := Ff.times_length _ _
  generalize Ff.times FA XX = FX at H9 hFX HE
  have sFX : (Ws FX).size = 5 := by rw [Ws_size, hFX]
  have H10 : Hid (∀ wx : World, Calls Tryd.prog 60 #[.agg (Ws FX), .agg (Ws YY)] wx fun e w' => e = .returned (.agg (Ws (Ff.times FX YY))) ∧ Below wx.heap.size wx w') := fun wx => F_times FX YY wx hFX hYY
  have hCH : (Ff.times FX YY).length = 5 := Ff.times_length _ _
  generalize Ff.times FX YY = CH at H10 hCH HE
  have sCH : (Ws CH).size = 5 := by rw [Ws_size, hCH]
  have J1 : Hid (∀ wx : World, Calls Tryd.prog 68 #[.agg (Ws WH), .agg (Ws CH)] wx fun e w' => e = .returned (.agg (Ws (Ff.plus WH CH))) ∧ Below wx.heap.size wx w') := fun wx => F_plus WH CH wx hWH hCH
  have hMO : (Ff.plus WH CH).length = 5 := by rw [Ff.plus_length, hWH]
  generalize Ff.plus WH CH = MO at J1 hMO HE
  have sMO : (Ws MO).size = 5 := by rw [Ws_size, hMO]
  have J2 : Hid (∀ wx : World, Calls Tryd.prog 66 #[.agg (Ws WH), .agg (Ws CH)] wx fun e w' => e = .returned (.agg (Ws (Ff.minus WH CH))) ∧ Below wx.heap.size wx w') := fun wx => F_minus WH CH wx hWH hCH
  have hLE : (Ff.minus WH CH).length = 5 := by rw [Ff.minus_length, hWH]
  generalize Ff.minus WH CH = LE at J2 hLE HE
  have sLE : (Ws LE).size = 5 := by rw [Ws_size, hLE]
  have J3 : Hid (∀ wx : World, Calls Tryd.prog 60 #[.agg (Ws ZZ), .agg (Ws AC)] wx fun e w' => e = .returned (.agg (Ws (Ff.times ZZ AC))) ∧ Below wx.heap.size wx w') := fun wx => F_times ZZ AC wx hZZ hAC
  have hZA : (Ff.times ZZ AC).length = 5 := Ff.times_length _ _
  generalize Ff.times ZZ AC = ZA at J3 hZA HE
  have sZA : (Ws ZA).size = 5 := by rw [Ws_size, hZA]
  have J4 : Hid (∀ wx : World, Calls Tryd.prog 60 #[.agg (Ws ZA), .agg (Ws LE)] wx fun e w' => e = .returned (.agg (Ws (Ff.times ZA LE))) ∧ Below wx.heap.size wx w') := fun wx => F_times ZA LE wx hZA hLE
  have hRX : (Ff.times ZA LE).length = 5 := Ff.times_length _ _
  generalize Ff.times ZA LE = RX at J4 hRX HE
  have sRX : (Ws RX).size = 5 := by rw [Ws_size, hRX]
  have J5 : Hid (∀ wx : World, Calls Tryd.prog 68 #[.agg (Ws YY), .agg (Ws XX)] wx fun e w' => e = .returned (.agg (Ws (Ff.plus YY XX))) ∧ Below wx.heap.size wx w') := fun wx => F_plus YY XX wx hYY hXX
  have hYX : (Ff.plus YY XX).length = 5 := by rw [Ff.plus_length, hYY]
  generalize Ff.plus YY XX = YX at J5 hYX HE
  have sYX : (Ws YX).size = 5 := by rw [Ws_size, hYX]
  have J6 : Hid (∀ wx : World, Calls Tryd.prog 60 #[.agg (Ws ZZ), .agg (Ws YX)] wx fun e w' => e = .returned (.agg (Ws (Ff.times ZZ YX))) ∧ Below wx.heap.size wx w') := fun wx => F_times ZZ YX wx hZZ hYX
  have hZY : (Ff.times ZZ YX).length = 5 := Ff.times_length _ _
  generalize Ff.times ZZ YX = ZY at J6 hZY HE
  have sZY : (Ws ZY).size = 5 := by rw [Ws_size, hZY]
  have J7 : Hid (∀ wx : World, Calls Tryd.prog 60 #[.agg (Ws ZY), .agg (Ws MO)] wx fun e w' => e = .returned (.agg (Ws (Ff.times ZY MO))) ∧ Below wx.heap.size wx w') := fun wx => F_times ZY MO wx hZY hMO
  have hRY : (Ff.times ZY MO).length = 5 := Ff.times_length _ _
  generalize Ff.times ZY MO = RY at J7 hRY HE
  have sRY : (Ws RY).size = 5 := by rw [Ws_size, hRY]
  have J8 : Hid (∀ wx : World, Calls Tryd.prog 60 #[.agg (Ws MO), .agg (Ws LE)] wx fun e w' => e = .returned (.agg (Ws (Ff.times MO LE))) ∧ Below wx.heap.size wx w') := fun wx => F_times MO LE wx hMO hLE
  have hRZ : (Ff.times MO LE).length = 5 := Ff.times_length _ _
  generalize Ff.times MO LE = RZ at J8 hRZ HE
  have sRZ : (Ws RZ).size = 5 := by rw [Ws_size, hRZ]
  have hr : RR = pt RX RY RZ := HE.out
  subst hr
  clear HE
  have sR : (Ws (pt RX RY RZ)).size = 15 := pt_size hRX hRY hRZ
  have lR : (pt RX RY RZ).length = 15 := pt_length hRX hRY hRZ
  have sZ := Z15_len
  generalize Z15 = ZO at hz sZ
  have sZ' : (Ws ZO).size = 15 := by rw [Ws_size, sZ]
  have sP : (Ws (pt A B C)).size = 15 := pt_size hA hB hC
  have sQ : (Ws (pt D E F)).size = 15 := pt_size hD hE hF
  have hW : WD w w.heap.size [(w.heap.size + 1 + 1, Ws ZO, 60), (w.heap.size + 1, Ws (pt D E F), 60), (w.heap.size, Ws (pt A B C), 60)] (((w.alloc (.cells (Ws (pt A B C)) 60)).alloc (.cells (Ws (pt D E F)) 60)).alloc (.cells (Ws ZO) 60)) := by
    have h1 := (WD.start (w := w)).new (Ws (pt A B C)) 60
    have h2 := h1.new (Ws (pt D E F)) 60
    rw [show (w.alloc (.cells (Ws (pt A B C)) 60)).heap.size = w.heap.size + 1 by simp] at h2
    have h3 := h2.new (Ws ZO) 60
    rw [show ((w.alloc (.cells (Ws (pt A B C)) 60)).alloc (.cells (Ws (pt D E F)) 60)).heap.size = w.heap.size + 1 + 1 by simp] at h3
    exact h3
  generalize hPa : Ws (pt A B C) = PA at sP ⊢
  replace hPa : Hid (Ws (pt A B C) = PA) := hPa
  generalize hPb : Ws (pt D E F) = PB at sQ ⊢
  replace hPb : Hid (Ws (pt D E F) = PB) := hPb
  rw [hPa.out, hPb.out] at hW
  go_enter Tryd.func43, Tryd.ntmps43
  go_wp2_with fail
  rw [← hPa.out, ← hPb.out] at hW ⊢
  clear sP sQ hPa hPb
  generalize ((w.alloc (.cells (Ws (pt A B C)) 60)).alloc (.cells (Ws (pt D E F)) 60)).alloc (.cells (Ws ZO) 60) = w1 at hW ⊢
  refine wp_region_M (S := WD w (w.heap.size) [(w.heap.size + 1 + 1, Ws ZO, 60), (w.heap.size + 1, Ws (pt D E F), 60), (w.heap.size, Ws (pt A B C), 60)]) (ls := [12, 13]) (by kernel_rfl) ?_
  have hW0 : WD w (w.heap.size) [(w.heap.size + 1 + 1, Ws ZO, 60), (w.heap.size + 1, Ws (pt D E F), 60), (w.heap.size, Ws (pt A B C), 60)] w1.drew := hW.drew
  clear hW
  generalize World.drew w1 = ad at hW0 ⊢
  refine wpAnyM_take (i := 0) (dst := some 13) (v := ?va0) rfl rfl (by kernel_rfl) (by kernel_rfl) (by kernel_rfl) (by kernel_rfl) (by kernel_rfl) (fun _ _ _ h => h) (Or.inl ⟨by rfl, ?hya0⟩) hW0 ?rea0
  case hya0 => (intro wx hSx; clear hSx; go_simp; try (with_reducible rfl))
  refine wpAnyM_take (i := 1) (dst := some 14) (v := .agg (Ws A)) rfl rfl (by kernel_rfl) (by kernel_rfl) (by kernel_rfl) (by kernel_rfl) (by kernel_rfl) (fun _ _ _ h => h) (Or.inl ⟨by rfl, ?hya1⟩) hW0 ?rea1
  case hya1 => exact fun wx hSx => exec_mid 58 _ rfl (w.heap.size) 0 rfl (Ws A) _ (ptX (hSx.get 2 rfl)) Tryd.underlying58 rfl (by rw [sA]; exact Tryd.infoF5)
  refine wpAnyM_take (i := 2) (dst := some 15) (v := ?va2) rfl rfl (by kernel_rfl) (by kernel_rfl) (by kernel_rfl) (by kernel_rfl) (by kernel_rfl) (fun _ _ _ h => h) (Or.inl ⟨by rfl, ?hya2⟩) hW0 ?rea2
  case hya2 => (intro wx hSx; clear hSx; go_simp; try (with_reducible rfl))
  simp only [Act.put, List.setIfInBounds_toArray, List.set_cons_zero, List.set_cons_succ]
  refine wpAnyM_take (i := 3) (dst := some 16) (v := .agg (Ws D)) rfl rfl (by kernel_rfl) (by kernel_rfl) (by kernel_rfl) (by kernel_rfl) (by kernel_rfl) (fun _ _ _ h => h) (Or.inl ⟨by rfl, ?hya3⟩) hW0 ?rea3
  case hya3 => exact fun wx hSx => exec_mid 58 _ rfl (w.heap.size + 1) 0 rfl (Ws D) _ (ptX (hSx.get 1 rfl)) Tryd.underlying58 rfl (by rw [sD]; exact Tryd.infoF5)
  refine wpAnyM_take (i := 5) (dst := some 18) (v := ?va5) rfl rfl (by kernel_rfl) (by kernel_rfl) (by kernel_rfl) (by kernel_rfl) (by kernel_rfl) (fun _ _ _ h => h) (Or.inl ⟨by rfl, ?hya5⟩) hW0 ?rea5
  case hya5 => (intro wx hSx; clear hSx; go_simp; try (with_reducible rfl))
  refine wpAnyM_take (i := 6) (dst := some 19) (v := .agg (Ws B)) rfl rfl (by kernel_rfl) (by kernel_rfl) (by kernel_rfl) (by kernel_rfl) (by kernel_rfl) (fun _ _ _ h => h) (Or.inl ⟨by rfl, ?hya6⟩) hW0 ?rea6
  case hya6 => exact fun wx hSx => exec_mid 58 _ rfl (w.heap.size) 5 rfl (Ws B) _ (ptY (hSx.get 2 rfl) hA) Tryd.underlying58 rfl (by rw [sB]; exact Tryd.infoF5)
  simp only [Act.put, List.setIfInBounds_toArray, List.set_cons_zero, List.set_cons_succ]
  refine wpAnyM_take (i := 7) (dst := some 20) (v := ?va7) rfl rfl (by kernel_rfl) (by kernel_rfl) (by kernel_rfl) (by kernel_rfl) (by kernel_rfl) (fun _ _ _ h => h) (Or.inl ⟨by rfl, ?hya7⟩) hW0 ?rea7
  case hya7 => (intro wx hSx; clear hSx; go_simp; try (with_reducible rfl))
  refine wpAnyM_take (i := 8) (dst := some 21) (v := .agg (Ws E)) rfl rfl (by kernel_rfl) (by kernel_rfl) (by kernel_rfl) (by kernel_rfl) (by kernel_rfl) (fun _ _ _ h => h) (Or.inl ⟨by rfl, ?hya8⟩) hW0 ?rea8
  case hya8 => exact fun wx hSx => exec_mid 58 _ rfl (w.heap.size + 1) 5 rfl (Ws E) _ (ptY (hSx.get 1 rfl) hD) Tryd.underlying58 rfl (by rw [sE]; exact Tryd.infoF5)
  try simp only [Act.put, List.setIfInBounds_toArray, List.set_cons_zero, List.set_cons_succ]
  change wpAnyM _ _ _ _ _ _ 6 #[true, true, true, true, false, true, true, true, true, false, false, false, false, false] _ _
  refine wpAnyM_phaseU2 (R := fun d u w' => (d 4 = true → u 17 = .agg (Ws XX)) ∧ (d 9 = true → u 22 = .agg (Ws YY)) ∧ (d 10 = true → Fresh w (w.heap.size) [(w.heap.size + 1 + 1, Ws ZO, 60), (w.heap.size + 1, Ws (pt D E F), 60), (w.heap.size, Ws (pt A B C), 60)] #[.int .u64 0, .int .u64 0, .int .u64 0, .int .u64 0, .int .u64 0] 58 (u 5) w') ∧ (d 11 = true → Fresh w (w.heap.size) [(w.heap.size + 1 + 1, Ws ZO, 60), (w.heap.size + 1, Ws (pt D E F), 60), (w.heap.size, Ws (pt A B C), 60)] #[.int .u64 0, .int .u64 0, .int .u64 0, .int .u64 0, .int .u64 0] 58 (u 6) w') ∧ (d 10 = true → d 11 = true → u 5 ≠ u 6) ∧ WD w (w.heap.size) [(w.heap.size + 1 + 1, Ws ZO, 60), (w.heap.size + 1, Ws (pt D E F), 60), (w.heap.size, Ws (pt A B C), 60)] w') [17, 22, 5, 6] [4, 9, 10, 11] #[true, true, true, true, true, true, true, true, true, true, true, true, false, false] (by kernel_rfl) (by kernel_rfl) (by kernel_rfl) ⟨fun h => Bool.noConfusion h, fun h => Bool.noConfusion h, fun h => Bool.noConfusion h, fun h => Bool.noConfusion h, fun h => Bool.noConfusion h, hW0⟩ ?stepsa ?fina
  case stepsa =>
    refine StepsU.cons rfl ?sa4 (StepsU.cons rfl ?sa9 (StepsU.cons rfl ?sa10 (StepsU.cons rfl ?sa11 StepsU.nil)))
    case sa4 =>
      rintro d u wx ⟨h4, h9, h10, h11, hne, hX⟩ hd K hK
      simp only [layS, List.foldl, Act.put, List.setIfInBounds_toArray, List.set_cons_zero, List.set_cons_succ]
      go_simp
      go_wp2_with (go_at_call 60; refine (H1.out _).mono ?_; rintro e x0 ⟨rfl, k0⟩)
      refine hK.out (upV u 17 (.agg (Ws XX))) _ (hX.keep k0) ⟨fun _ => rfl, fun h => h9 h, fun h => (h10 h).keep k0, fun h => (h11 h).keep k0, fun h h' => hne h h', hX.keep k0⟩ _ ?_
      simp only [layS, List.foldl, Act.put, List.setIfInBounds_toArray, List.set_cons_zero, List.set_cons_succ, upV, reduceIte, Nat.reduceEqDiff]
    case sa9 =>
      rintro d u wx ⟨h4, h9, h10, h11, hne, hX⟩ hd K hK
      simp only [layS, List.foldl, Act.put, List.setIfInBounds_toArray, List.set_cons_zero, List.set_cons_succ]
      go_simp
      go_wp2_with (go_at_call 60; refine (H2.out _).mono ?_; rintro e x0 ⟨rfl, k0⟩)
      refine hK.out (upV u 22 (.agg (Ws YY))) _ (hX.keep k0) ⟨fun h => h4 h, fun _ => rfl, fun h => (h10 h).keep k0, fun h => (h11 h).keep k0, fun h h' => hne h h', hX.keep k0⟩ _ ?_
      simp only [layS, List.foldl, Act.put, List.setIfInBounds_toArray, List.set_cons_zero, List.set_cons_succ, upV, reduceIte, Nat.reduceEqDiff]
    case sa10 =>
      rintro d u wx ⟨h4, h9, h10, h11, hne, hX⟩ hd K hK
      simp only [layS, List.foldl, Act.put, List.setIfInBounds_toArray, List.set_cons_zero, List.set_cons_succ]
      go_simp
      refine hK.out (upV u 5 (.pointer (some ⟨wx.heap.size, 0, none⟩))) _ (hX.alloc _) ⟨fun h => h4 h, fun h => h9 h, fun _ => FreshD hX _ _, fun h => (h11 h).alloc _, fun _ h' => Ne.symm (h11 h').ne, hX.alloc _⟩ _ ?_
      simp only [layS, List.foldl, Act.put, List.setIfInBounds_toArray, List.set_cons_zero, List.set_cons_succ, upV, reduceIte, Nat.reduceEqDiff]
    case sa11 =>
      rintro d u wx ⟨h4, h9, h10, h11, hne, hX⟩ hd K hK
      simp only [layS, List.foldl, Act.put, List.setIfInBounds_toArray, List.set_cons_zero, List.set_cons_succ]
      go_simp
      refine hK.out (upV u 6 (.pointer (some ⟨wx.heap.size, 0, none⟩))) _ (hX.alloc _) ⟨fun h => h4 h, fun h => h9 h, fun h => (h10 h).alloc _, fun _ => FreshD hX _ _, fun h _ => (h10 h).ne, hX.alloc _⟩ _ ?_
      simp only [layS, List.foldl, Act.put, List.setIfInBounds_toArray, List.set_cons_zero, List.set_cons_succ, upV, reduceIte, Nat.reduceEqDiff]
  case fina =>
    rintro n' d u ax ⟨h4, h9, h10, h11, hne, hX⟩ hd
    have e17 := h4 (hd 4 rfl)
    have e22 := h9 (hd 9 rfl)
    obtain ⟨q5, e5, bq5, lq5, mq5⟩ := h10 (hd 10 rfl)
    obtain ⟨q6, e6, bq6, lq6, mq6⟩ := h11 (hd 11 rfl)
    have na : Hid (q5 ≠ q6) := fun hq => hne (hd 10 rfl) (hd 11 rfl) (by rw [e5, e6, hq])
    simp only [layS, List.foldl, Act.put, List.setIfInBounds_toArray, List.set_cons_zero, List.set_cons_succ, e17, e22, e5, e6]
    clear hd h4 h9 h10 h11 hne e17 e22 e5 e6
    change wpAnyM _ _ _ _ _ _ (n' + 2) _ _ _
    replace hX := hX.push bq6 mq6 (fun x hx => Nat.ne_of_lt (lq6 x hx))
    replace hX := hX.push bq5 mq5 (fun x hx => by rcases List.mem_cons.1 hx with rfl | hx; exact fun e => na.out e.symm; exact Nat.ne_of_lt (lq5 x hx))
    clear bq6 lq6 mq6 bq5 lq5 mq5 na
    refine wpAnyM_late (i := 12) (by kernel_rfl) rfl rfl (fun K hK => ?_)
    have hst := storeRow (l := XX) (hX.get 0 rfl) (by rw [hXX]; rfl)
    go_simp
    refine hK.out _ _ ?_
    clear hK K hst
    replace hX : WD w (w.heap.size) [(q5, Ws XX, 58), (q6, #[.int .u64 0, .int .u64 0, .int .u64 0, .int .u64 0, .int .u64 0], 58), (w.heap.size + 1 + 1, Ws ZO, 60), (w.heap.size + 1, Ws (pt D E F), 60), (w.heap.size, Ws (pt A B C), 60)] (ax.setRow (q5) (Ws XX)) := hX.over 0 rfl (Ws XX)
    generalize ax.setRow (q5) (Ws XX) = ay0 at hX ⊢
    refine wpAnyM_late (i := 13) (by kernel_rfl) rfl rfl (fun K hK => ?_)
    have hst := storeRow (l := YY) (hX.get 1 rfl) (by rw [hYY]; rfl)
    go_simp
    refine hK.out _ _ ?_
    clear hK K hst
    replace hX : WD w (w.heap.size) [(q5, Ws XX, 58), (q6, Ws YY, 58), (w.heap.size + 1 + 1, Ws ZO, 60), (w.heap.size + 1, Ws (pt D E F), 60), (w.heap.size, Ws (pt A B C), 60)] (ay0.setRow (q6) (Ws YY)) := hX.over 1 rfl (Ws YY)
    generalize ay0.setRow (q6) (Ws YY) = ay1 at hX ⊢
    refine wpAnyM_done (by kernel_rfl) ?_ _
    go_wp2_with fail
    refine wp_region_M (S := WD w (w.heap.size) [(q5, Ws XX, 58), (q6, Ws YY, 58), (w.heap.size + 1 + 1, Ws ZO, 60), (w.heap.size + 1, Ws (pt D E F), 60), (w.heap.size, Ws (pt A B C), 60)]) (ls := [12]) (by kernel_rfl) ?_
    have hX0 : WD w (w.heap.size) [(q5, Ws XX, 58), (q6, Ws YY, 58), (w.heap.size + 1 + 1, Ws ZO, 60), (w.heap.size + 1, Ws (pt D E F), 60), (w.heap.size, Ws (pt A B C), 60)] ay1.drew := hX.drew
    clear hX
    generalize World.drew ay1 = bd at hX0 ⊢
    refine wpAnyM_take (i := 0) (dst := some 23) (v := ?vb0) rfl rfl (by kernel_rfl) (by kernel_rfl) (by kernel_rfl) (by kernel_rfl) (by kernel_rfl) (fun _ _ _ h => h) (Or.inl ⟨by rfl, ?hyb0⟩) hX0 ?reb0
    case hyb0 => (intro wx hSx; clear hSx; go_simp; try (with_reducible rfl))
    refine wpAnyM_take (i := 1) (dst := some 24) (v := .agg (Ws A)) rfl rfl (by kernel_rfl) (by kernel_rfl) (by kernel_rfl) (by kernel_rfl) (by kernel_rfl) (fun _ _ _ h => h) (Or.inl ⟨by rfl, ?hyb1⟩) hX0 ?reb1
    case hyb1 => exact fun wx hSx => exec_mid 58 _ rfl (w.heap.size) 0 rfl (Ws A) _ (ptX (hSx.get 4 rfl)) Tryd.underlying58 rfl (by rw [sA]; exact Tryd.infoF5)
    refine wpAnyM_take (i := 2) (dst := some 25) (v := ?vb2) rfl rfl (by kernel_rfl) (by kernel_rfl) (by kernel_rfl) (by kernel_rfl) (by kernel_rfl) (fun _ _ _ h => h) (Or.inl ⟨by rfl, ?hyb2⟩) hX0 ?reb2
    case hyb2 => (intro wx hSx; clear hSx; go_simp; try (with_reducible rfl))
    simp only [Act.put, List.setIfInBounds_toArray, List.set_cons_zero, List.set_cons_succ]
    refine wpAnyM_take (i := 3) (dst := some 26) (v := .agg (Ws E)) rfl rfl (by kernel_rfl) (by kernel_rfl) (by kernel_rfl) (by kernel_rfl) (by kernel_rfl) (fun _ _ _ h => h) (Or.inl ⟨by rfl, ?hyb3⟩) hX0 ?reb3
    case hyb3 => exact fun wx hSx => exec_mid 58 _ rfl (w.heap.size + 1) 5 rfl (Ws E) _ (ptY (hSx.get 3 rfl) hD) Tryd.underlying58 rfl (by rw [sE]; exact Tryd.infoF5)
    refine wpAnyM_take (i := 5) (dst := some 28) (v := ?vb5) rfl rfl (by kernel_rfl) (by kernel_rfl) (by kernel_rfl) (by kernel_rfl) (by kernel_rfl) (fun _ _ _ h => h) (Or.inl ⟨by rfl, ?hyb5⟩) hX0 ?reb5
    case hyb5 => (intro wx hSx; clear hSx; go_simp; try (with_reducible rfl))
    refine wpAnyM_take (i := 6) (dst := some 29) (v := .agg (Ws D)) rfl rfl (by kernel_rfl) (by kernel_rfl) (by kernel_rfl) (by kernel_rfl) (by kernel_rfl) (fun _ _ _ h => h) (Or.inl ⟨by rfl, ?hyb6⟩) hX0 ?reb6
    case hyb6 => exact fun wx hSx => exec_mid 58 _ rfl (w.heap.size + 1) 0 rfl (Ws D) _ (ptX (hSx.get 3 rfl)) Tryd.underlying58 rfl (by rw [sD]; exact Tryd.infoF5)
    simp only [Act.put, List.setIfInBounds_toArray, List.set_cons_zero, List.set_cons_succ]
    refine wpAnyM_take (i := 7) (dst := some 30) (v := ?vb7) rfl rfl (by kernel_rfl) (by kernel_rfl) (by kernel_rfl) (by kernel_rfl) (by kernel_rfl) (fun _ _ _ h => h) (Or.inl ⟨by rfl, ?hyb7⟩) hX0 ?reb7
    case hyb7 => (intro wx hSx; clear hSx; go_simp; try (with_reducible rfl))
    refine wpAnyM_take (i := 8) (dst := some 31) (v := .agg (Ws B)) rfl rfl (by kernel_rfl) (by kernel_rfl) (by kernel_rfl) (by kernel_rfl) (by kernel_rfl) (fun _ _ _ h => h) (Or.inl ⟨by rfl, ?hyb8⟩) hX0 ?reb8
    case hyb8 => exact fun wx hSx => exec_mid 58 _ rfl (w.heap.size) 5 rfl (Ws B) _ (ptY (hSx.get 4 rfl) hA) Tryd.underlying58 rfl (by rw [sB]; exact Tryd.infoF5)
    try simp only [Act.put, List.setIfInBounds_toArray, List.set_cons_zero, List.set_cons_succ]
    change wpAnyM _ _ _ _ _ _ 5 #[true, true, true, true, false, true, true, true, true, false, false, false, false] _ _
    refine wpAnyM_phaseU2 (R := fun d u w' => (d 4 = true → u 27 = .agg (Ws U1)) ∧ (d 9 = true → u 32 = .agg (Ws U2)) ∧ (d 10 = true → u 33 = .agg (Ws AC)) ∧ (d 11 = true → Fresh w (w.heap.size) [(q5, Ws XX, 58), (q6, Ws YY, 58), (w.heap.size + 1 + 1, Ws ZO, 60), (w.heap.size + 1, Ws (pt D E F), 60), (w.heap.size, Ws (pt A B C), 60)] #[.int .u64 0, .int .u64 0, .int .u64 0, .int .u64 0, .int .u64 0] 58 (u 7) w') ∧ WD w (w.heap.size) [(q5, Ws XX, 58), (q6, Ws YY, 58), (w.heap.size + 1 + 1, Ws ZO, 60), (w.heap.size + 1, Ws (pt D E F), 60), (w.heap.size, Ws (pt A B C), 60)] w') [27, 32, 33, 7] [4, 9, 10, 11] #[true, true, true, true, true, true, true, true, true, true, true, true, false] (by kernel_rfl) (by kernel_rfl) (by kernel_rfl) ⟨fun h => Bool.noConfusion h, fun h => Bool.noConfusion h, fun h => Bool.noConfusion h, fun h => Bool.noConfusion h, hX0⟩ ?stepsb ?finb
    case stepsb =>
      refine StepsU.cons rfl ?sb4 (StepsU.cons rfl ?sb9 (StepsU.cons rfl ?sb10 (StepsU.cons rfl ?sb11 StepsU.nil)))
      case sb4 =>
        rintro d u wx ⟨h4, h9, h10, h11, hX⟩ hd K hK
        simp only [layS, List.foldl, Act.put, List.setIfInBounds_toArray, List.set_cons_zero, List.set_cons_succ]
        go_simp
        go_wp2_with (go_at_call 60; refine (H3.out _).mono ?_; rintro e x0 ⟨rfl, k0⟩)
        refine hK.out (upV u 27 (.agg (Ws U1))) _ (hX.keep k0) ⟨fun _ => rfl, fun h => h9 h, fun h => h10 h, fun h => (h11 h).keep k0, hX.keep k0⟩ _ ?_
        simp only [layS, List.foldl, Act.put, List.setIfInBounds_toArray, List.set_cons_zero, List.set_cons_succ, upV, reduceIte, Nat.reduceEqDiff]
      case sb9 =>
        rintro d u wx ⟨h4, h9, h10, h11, hX⟩ hd K hK
        simp only [layS, List.foldl, Act.put, List.setIfInBounds_toArray, List.set_cons_zero, List.set_cons_succ]
        go_simp
        go_wp2_with (go_at_call 60; refine (H4.out _).mono ?_; rintro e x0 ⟨rfl, k0⟩)
        refine hK.out (upV u 32 (.agg (Ws U2))) _ (hX.keep k0) ⟨fun h => h4 h, fun _ => rfl, fun h => h10 h, fun h => (h11 h).keep k0, hX.keep k0⟩ _ ?_
        simp only [layS, List.foldl, Act.put, List.setIfInBounds_toArray, List.set_cons_zero, List.set_cons_succ, upV, reduceIte, Nat.reduceEqDiff]
      case sb10 =>
        rintro d u wx ⟨h4, h9, h10, h11, hX⟩ hd K hK
        have e4 := h4 (hd 4 (by kernel_rfl))
        have e9 := h9 (hd 9 (by kernel_rfl))
        simp only [layS, List.foldl, Act.put, List.setIfInBounds_toArray, List.set_cons_zero, List.set_cons_succ, e4, e9]
        go_simp
        go_wp2_with (go_at_call 68; refine (H5.out _).mono ?_; rintro e x0 ⟨rfl, k0⟩)
        refine hK.out (upV u 33 (.agg (Ws AC))) _ (hX.keep k0) ⟨fun h => h4 h, fun h => h9 h, fun _ => rfl, fun h => (h11 h).keep k0, hX.keep k0⟩ _ ?_
        simp only [layS, List.foldl, Act.put, List.setIfInBounds_toArray, List.set_cons_zero, List.set_cons_succ, upV, reduceIte, Nat.reduceEqDiff, e4, e9]
      case sb11 =>
        rintro d u wx ⟨h4, h9, h10, h11, hX⟩ hd K hK
        simp only [layS, List.foldl, Act.put, List.setIfInBounds_toArray, List.set_cons_zero, List.set_cons_succ]
        go_simp
        refine hK.out (upV u 7 (.pointer (some ⟨wx.heap.size, 0, none⟩))) _ (hX.alloc _) ⟨fun h => h4 h, fun h => h9 h, fun h => h10 h, fun _ => FreshD hX _ _, hX.alloc _⟩ _ ?_
        simp only [layS, List.foldl, Act.put, List.setIfInBounds_toArray, List.set_cons_zero, List.set_cons_succ, upV, reduceIte, Nat.reduceEqDiff]
    case finb =>
      rintro n' d u bx ⟨h4, h9, h10, h11, hX⟩ hd
      have e27 := h4 (hd 4 rfl)
      have e32 := h9 (hd 9 rfl)
      have e33 := h10 (hd 10 rfl)
      obtain ⟨q7, e7, bq7, lq7, mq7⟩ := h11 (hd 11 rfl)
      simp only [layS, List.foldl, Act.put, List.setIfInBounds_toArray, List.set_cons_zero, List.set_cons_succ, e27, e32, e33, e7]
      clear hd h4 h9 h10 h11 e27 e32 e33 e7
      change wpAnyM _ _ _ _ _ _ (n' + 1) _ _ _
      replace hX := hX.push bq7 mq7 (fun x hx => Nat.ne_of_lt (lq7 x hx))
      clear bq7 lq7 mq7
      refine wpAnyM_late (i := 12) (by kernel_rfl) rfl rfl (fun K hK => ?_)
      have hst := storeRow (l := AC) (hX.get 0 rfl) (by rw [hAC]; rfl)
      go_simp
      refine hK.out _ _ ?_
      clear hK K hst
      replace hX : WD w (w.heap.size) [(q7, Ws AC, 58), (q5, Ws XX, 58), (q6, Ws YY, 58), (w.heap.size + 1 + 1, Ws ZO, 60), (w.heap.size + 1, Ws (pt D E F), 60), (w.heap.size, Ws (pt A B C), 60)] (bx.setRow (q7) (Ws AC)) := hX.over 0 rfl (Ws AC)
      generalize bx.setRow (q7) (Ws AC) = by0 at hX ⊢
      refine wpAnyM_done (by kernel_rfl) ?_ _
      have c1 := ptZ (hX.get 5 rfl) hA hB
      have c2 := ptZ (hX.get 4 rfl) hD hE
      go_wp2_with (first
        | (refine wpList_mid rfl 58 _ rfl w.heap.size 10 rfl (Ws C) _ c1 Tryd.underlying58 rfl (by rw [sC]; exact Tryd.infoF5) ?_)
        | (refine wpList_mid rfl 58 _ rfl (w.heap.size + 1) 10 rfl (Ws F) _ c2 Tryd.underlying58 rfl (by rw [sF]; exact Tryd.infoF5) ?_))
      refine (H6.out _).mono ?_
      rintro e x5 ⟨rfl, k5⟩
      replace hX := hX.keep k5
      clear k5 c1 c2
      have hN := hX.new #[.int .u64 0, .int .u64 0, .int .u64 0, .int .u64 0, .int .u64 0] 58
      have gz := hN.get 0 rfl
      dsimp only at gz
      unfold Blk at gz
      go_wp2_with (refine wpList_store_row rfl 58 _ _ rfl x5.heap.size _ rfl rfl 58 _ gz (by rw [sZZ]; exact Tryd.infoF5) (by rw [sZZ]; rfl) (Ws_one _) ?_)
      replace hX : WD w (w.heap.size) [(x5.heap.size, Ws ZZ, 58), (q7, Ws AC, 58), (q5, Ws XX, 58), (q6, Ws YY, 58), (w.heap.size + 1 + 1, Ws ZO, 60), (w.heap.size + 1, Ws (pt D E F), 60), (w.heap.size, Ws (pt A B C), 60)] ((x5.alloc (.cells #[.int .u64 0, .int .u64 0, .int .u64 0, .int .u64 0, .int .u64 0] 58)).setRow x5.heap.size (Ws ZZ)) := hN.over 0 rfl (Ws ZZ)
      clear hN gz
      generalize (x5.alloc (.cells #[.int .u64 0, .int .u64 0, .int .u64 0, .int .u64 0, .int .u64 0] 58)).setRow x5.heap.size (Ws ZZ) = w6 at hX ⊢
      generalize x5.heap.size = q8 at hX ⊢
      replace hX := hX.sub (l' := [(q8, Ws ZZ, 58), (q7, Ws AC, 58), (q5, Ws XX, 58), (q6, Ws YY, 58), (w.heap.size + 1 + 1, Ws ZO, 60)]) (List.sublist_append_left _ [_, _])
      refine wp_region_M (S := WD w (w.heap.size) [(q8, Ws ZZ, 58), (q7, Ws AC, 58), (q5, Ws XX, 58), (q6, Ws YY, 58), (w.heap.size + 1 + 1, Ws ZO, 60)]) (ls := [9, 10]) (by kernel_rfl) ?_
      have hX0 : WD w (w.heap.size) [(q8, Ws ZZ, 58), (q7, Ws AC, 58), (q5, Ws XX, 58), (q6, Ws YY, 58), (w.heap.size + 1 + 1, Ws ZO, 60)] w6.drew := hX.drew
      clear hX
      generalize World.drew w6 = dd at hX0 ⊢
      refine wpAnyM_take (i := 0) (dst := some 39) (v := .agg (Ws ZZ)) rfl rfl (by kernel_rfl) (by kernel_rfl) (by kernel_rfl) (by kernel_rfl) (by kernel_rfl) (fun _ _ _ h => h) (Or.inl ⟨by rfl, ?hyd0⟩) hX0 ?red0
      case hyd0 => exact fun wx hSx => exec_load_row 58 _ rfl (q8) rfl 58 _ (0, 0) _ (hSx.get 0 rfl) Tryd.underlying58 rfl (by rw [sZZ]; exact Tryd.infoF5)
      refine wpAnyM_take (i := 3) (dst := some 42) (v := .agg (Ws XX)) rfl rfl (by kernel_rfl) (by kernel_rfl) (by kernel_rfl) (by kernel_rfl) (by kernel_rfl) (fun _ _ _ h => h) (Or.inl ⟨by rfl, ?hyd3⟩) hX0 ?red3
      case hyd3 => exact fun wx hSx => exec_load_row 58 _ rfl (q5) rfl 58 _ (0, 0) _ (hSx.get 2 rfl) Tryd.underlying58 rfl (by rw [sXX]; exact Tryd.infoF5)
      refine wpAnyM_take (i := 5) (dst := some 44) (v := .agg (Ws YY)) rfl rfl (by kernel_rfl) (by kernel_rfl) (by kernel_rfl) (by kernel_rfl) (by kernel_rfl) (fun _ _ _ h => h) (Or.inl ⟨by rfl, ?hyd5⟩) hX0 ?red5
      case hyd5 => exact fun wx hSx => exec_load_row 58 _ rfl (q6) rfl 58 _ (0, 0) _ (hSx.get 3 rfl) Tryd.underlying58 rfl (by rw [sYY]; exact Tryd.infoF5)
      try simp only [Act.put, List.setIfInBounds_toArray, List.set_cons_zero, List.set_cons_succ]
      change wpAnyM _ _ _ _ _ _ 8 #[true, false, false, true, false, true, false, false, false, false, false] _ _
      refine wpAnyM_phaseU2 (R := fun d u w' => (d 1 = true → u 40 = .agg (Ws WH)) ∧ (d 2 = true → u 41 = .agg (Ws FA)) ∧ (d 4 = true → u 43 = .agg (Ws FX)) ∧ (d 6 = true → u 45 = .agg (Ws CH)) ∧ (d 7 = true → Fresh w (w.heap.size) [(q8, Ws ZZ, 58), (q7, Ws AC, 58), (q5, Ws XX, 58), (q6, Ws YY, 58), (w.heap.size + 1 + 1, Ws ZO, 60)] #[.int .u64 0, .int .u64 0, .int .u64 0, .int .u64 0, .int .u64 0] 58 (u 9) w') ∧ (d 8 = true → Fresh w (w.heap.size) [(q8, Ws ZZ, 58), (q7, Ws AC, 58), (q5, Ws XX, 58), (q6, Ws YY, 58), (w.heap.size + 1 + 1, Ws ZO, 60)] #[.int .u64 0, .int .u64 0, .int .u64 0, .int .u64 0, .int .u64 0] 58 (u 10) w') ∧ (d 7 = true → d 8 = true → u 9 ≠ u 10) ∧ WD w (w.heap.size) [(q8, Ws ZZ, 58), (q7, Ws AC, 58), (q5, Ws XX, 58), (q6, Ws YY, 58), (w.heap.size + 1 + 1, Ws ZO, 60)] w') [40, 41, 43, 45, 9, 10] [1, 2, 4, 6, 7, 8] #[true, true, true, true, true, true, true, true, true, false, false] (by kernel_rfl) (by kernel_rfl) (by kernel_rfl) ⟨fun h => Bool.noConfusion h, fun h => Bool.noConfusion h, fun h => Bool.noConfusion h, fun h => Bool.noConfusion h, fun h => Bool.noConfusion h, fun h => Bool.noConfusion h, fun h => Bool.noConfusion h, hX0⟩ ?stepsd ?find
      case stepsd =>
        refine StepsU.cons rfl ?sd1 (StepsU.cons rfl ?sd2 (StepsU.cons rfl ?sd4 (StepsU.cons rfl ?sd6 (StepsU.cons rfl ?sd7 (StepsU.cons rfl ?sd8 StepsU.nil)))))
        case sd1 =>
          rintro d u wx ⟨h1, h2, h4, h6, h7, h8, hne, hX⟩ hd K hK
          simp only [layS, List.foldl, Act.put, List.setIfInBounds_toArray, List.set_cons_zero, List.set_cons_succ]
          go_simp
          go_wp2_with (go_at_call 65; refine (H7.out _).mono ?_; rintro e x0 ⟨rfl, k0⟩)
          refine hK.out (upV u 40 (.agg (Ws WH))) _ (hX.keep k0) ⟨fun _ => rfl, fun h => h2 h, fun h => h4 h, fun h => h6 h, fun h => (h7 h).keep k0, fun h => (h8 h).keep k0, fun h h' => hne h h', hX.keep k0⟩ _ ?_
          simp only [layS, List.foldl, Act.put, List.setIfInBounds_toArray, List.set_cons_zero, List.set_cons_succ, upV, reduceIte, Nat.reduceEqDiff]
        case sd2 =>
          rintro d u wx ⟨h1, h2, h4, h6, h7, h8, hne, hX⟩ hd K hK
          simp only [layS, List.foldl, Act.put, List.setIfInBounds_toArray, List.set_cons_zero, List.set_cons_succ]
          go_simp
          go_wp2_with (go_at_call 67; refine (H8.out _).mono ?_; rintro e x0 ⟨rfl, k0⟩)
          refine hK.out (upV u 41 (.agg (Ws FA))) _ (hX.keep k0) ⟨fun h => h1 h, fun _ => rfl, fun h => h4 h, fun h => h6 h, fun h => (h7 h).keep k0, fun h => (h8 h).keep k0, fun h h' => hne h h', hX.keep k0⟩ _ ?_
          simp only [layS, List.foldl, Act.put, List.setIfInBounds_toArray, List.set_cons_zero, List.set_cons_succ, upV, reduceIte, Nat.reduceEqDiff]
        case sd4 =>
          rintro d u wx ⟨h1, h2, h4, h6, h7, h8, hne, hX⟩ hd K hK
          have e2 := h2 (hd 2 (by kernel_rfl))
          simp only [layS, List.foldl, Act.put, List.setIfInBounds_toArray, List.set_cons_zero, List.set_cons_succ, e2]
          go_simp
          go_wp2_with (go_at_call 60; refine (H9.out _).mono ?_; rintro e x0 ⟨rfl, k0⟩)
          refine hK.out (upV u 43 (.agg (Ws FX))) _ (hX.keep k0) ⟨fun h => h1 h, fun h => h2 h, fun _ => rfl, fun h => h6 h, fun h => (h7 h).keep k0, fun h => (h8 h).keep k0, fun h h' => hne h h', hX.keep k0⟩ _ ?_
          simp only [layS, List.foldl, Act.put, List.setIfInBounds_toArray, List.set_cons_zero, List.set_cons_succ, upV, reduceIte, Nat.reduceEqDiff, e2]
        case sd6 =>
          rintro d u wx ⟨h1, h2, h4, h6, h7, h8, hne, hX⟩ hd K hK
          have e4 := h4 (hd 4 (by kernel_rfl))
          simp only [layS, List.foldl, Act.put, List.setIfInBounds_toArray, List.set_cons_zero, List.set_cons_succ, e4]
          go_simp
          go_wp2_with (go_at_call 60; refine (H10.out _).mono ?_; rintro e x0 ⟨rfl, k0⟩)
          refine hK.out (upV u 45 (.agg (Ws CH))) _ (hX.keep k0) ⟨fun h => h1 h, fun h => h2 h, fun h => h4 h, fun _ => rfl, fun h => (h7 h).keep k0, fun h => (h8 h).keep k0, fun h h' => hne h h', hX.keep k0⟩ _ ?_
          simp only [layS, List.foldl, Act.put, List.setIfInBounds_toArray, List.set_cons_zero, List.set_cons_succ, upV, reduceIte, Nat.reduceEqDiff, e4]
        case sd7 =>
          rintro d u wx ⟨h1, h2, h4, h6, h7, h8, hne, hX⟩ hd K hK
          simp only [layS, List.foldl, Act.put, List.setIfInBounds_toArray, List.set_cons_zero, List.set_cons_succ]
          go_simp
          refine hK.out (upV u 9 (.pointer (some ⟨wx.heap.size, 0, none⟩))) _ (hX.alloc _) ⟨fun h => h1 h, fun h => h2 h, fun h => h4 h, fun h => h6 h, fun _ => FreshD hX _ _, fun h => (h8 h).alloc _, fun _ h' => Ne.symm (h8 h').ne, hX.alloc _⟩ _ ?_
          simp only [layS, List.foldl, Act.put, List.setIfInBounds_toArray, List.set_cons_zero, List.set_cons_succ, upV, reduceIte, Nat.reduceEqDiff]
        case sd8 =>
          rintro d u wx ⟨h1, h2, h4, h6, h7, h8, hne, hX⟩ hd K hK
          simp only [layS, List.foldl, Act.put, List.setIfInBounds_toArray, List.set_cons_zero, List.set_cons_succ]
          go_simp
          refine hK.out (upV u 10 (.pointer (some ⟨wx.heap.size, 0, none⟩))) _ (hX.alloc _) ⟨fun h => h1 h, fun h => h2 h, fun h => h4 h, fun h => h6 h, fun h => (h7 h).alloc _, fun _ => FreshD hX _ _, fun h _ => (h7 h).ne, hX.alloc _⟩ _ ?_
          simp only [layS, List.foldl, Act.put, List.setIfInBounds_toArray, List.set_cons_zero, List.set_cons_succ, upV, reduceIte, Nat.reduceEqDiff]
      case find =>
        rintro n' d u dx ⟨h1, h2, h4, h6, h7, h8, hne, hX⟩ hd
        have e40 := h1 (hd 1 rfl)
        have e41 := h2 (hd 2 rfl)
        have e43 := h4 (hd 4 rfl)
        have e45 := h6 (hd 6 rfl)
        obtain ⟨q9, e9, bq9, lq9, mq9⟩ := h7 (hd 7 rfl)
        obtain ⟨q10, e10, bq10, lq10, mq10⟩ := h8 (hd 8 rfl)
        have nd : Hid (q9 ≠ q10) := fun hq => hne (hd 7 rfl) (hd 8 rfl) (by rw [e9, e10, hq])
        simp only [layS, List.foldl, Act.put, List.setIfInBounds_toArray, List.set_cons_zero, List.set_cons_succ, e40, e41, e43, e45, e9, e10]
        clear hd h1 h2 h4 h6 h7 h8 hne e40 e41 e43 e45 e9 e10
        change wpAnyM _ _ _ _ _ _ (n' + 2) _ _ _
        replace hX := hX.push bq10 mq10 (fun x hx => Nat.ne_of_lt (lq10 x hx))
        replace hX := hX.push bq9 mq9 (fun x hx => by rcases List.mem_cons.1 hx with rfl | hx; exact fun e => nd.out e.symm; exact Nat.ne_of_lt (lq9 x hx))
        clear bq10 lq10 mq10 bq9 lq9 mq9 nd
        refine wpAnyM_late (i := 9) (by kernel_rfl) rfl rfl (fun K hK => ?_)
        have hst := storeRow (l := WH) (hX.get 0 rfl) (by rw [hWH]; rfl)
        go_simp
        refine hK.out _ _ ?_
        clear hK K hst
        replace hX : WD w (w.heap.size) [(q9, Ws WH, 58), (q10, #[.int .u64 0, .int .u64 0, .int .u64 0, .int .u64 0, .int .u64 0], 58), (q8, Ws ZZ, 58), (q7, Ws AC, 58), (q5, Ws XX, 58), (q6, Ws YY, 58), (w.heap.size + 1 + 1, Ws ZO, 60)] (dx.setRow (q9) (Ws WH)) := hX.over 0 rfl (Ws WH)
        generalize dx.setRow (q9) (Ws WH) = dy0 at hX ⊢
        refine wpAnyM_late (i := 10) (by kernel_rfl) rfl rfl (fun K hK => ?_)
        have hst := storeRow (l := CH) (hX.get 1 rfl) (by rw [hCH]; rfl)
        go_simp
        refine hK.out _ _ ?_
        clear hK K hst
        replace hX : WD w (w.heap.size) [(q9, Ws WH, 58), (q10, Ws CH, 58), (q8, Ws ZZ, 58), (q7, Ws AC, 58), (q5, Ws XX, 58), (q6, Ws YY, 58), (w.heap.size + 1 + 1, Ws ZO, 60)] (dy0.setRow (q10) (Ws CH)) := hX.over 1 rfl (Ws CH)
        generalize dy0.setRow (q10) (Ws CH) = dy1 at hX ⊢
        refine wpAnyM_done (by kernel_rfl) ?_ _
        go_wp2_with fail
        refine wp_region_M (S := WD w (w.heap.size) [(q9, Ws WH, 58), (q10, Ws CH, 58), (q8, Ws ZZ, 58), (q7, Ws AC, 58), (q5, Ws XX, 58), (q6, Ws YY, 58), (w.heap.size + 1 + 1, Ws ZO, 60)]) (ls := [8, 9]) (by kernel_rfl) ?_
        have hX0 : WD w (w.heap.size) [(q9, Ws WH, 58), (q10, Ws CH, 58), (q8, Ws ZZ, 58), (q7, Ws AC, 58), (q5, Ws XX, 58), (q6, Ws YY, 58), (w.heap.size + 1 + 1, Ws ZO, 60)] dy1.drew := hX.drew
        clear hX
        generalize World.drew dy1 = fd at hX0 ⊢
        refine wpAnyM_take (i := 0) (dst := some 46) (v := .agg (Ws WH)) rfl rfl (by kernel_rfl) (by kernel_rfl) (by kernel_rfl) (by kernel_rfl) (by kernel_rfl) (fun _ _ _ h => h) (Or.inl ⟨by rfl, ?hyf0⟩) hX0 ?ref0
        case hyf0 => exact fun wx hSx => exec_load_row 58 _ rfl (q9) rfl 58 _ (0, 0) _ (hSx.get 0 rfl) Tryd.underlying58 rfl (by rw [sWH]; exact Tryd.infoF5)
        refine wpAnyM_take (i := 1) (dst := some 47) (v := .agg (Ws CH)) rfl rfl (by kernel_rfl) (by kernel_rfl) (by kernel_rfl) (by kernel_rfl) (by kernel_rfl) (fun _ _ _ h => h) (Or.inl ⟨by rfl, ?hyf1⟩) hX0 ?ref1
        case hyf1 => exact fun wx hSx => exec_load_row 58 _ rfl (q10) rfl 58 _ (0, 0) _ (hSx.get 1 rfl) Tryd.underlying58 rfl (by rw [sCH]; exact Tryd.infoF5)
        refine wpAnyM_take (i := 3) (dst := some 49) (v := .agg (Ws WH)) rfl rfl (by kernel_rfl) (by kernel_rfl) (by kernel_rfl) (by kernel_rfl) (by kernel_rfl) (fun _ _ _ h => h) (Or.inl ⟨by rfl, ?hyf3⟩) hX0 ?ref3
        case hyf3 => exact fun wx hSx => exec_load_row 58 _ rfl (q9) rfl 58 _ (0, 0) _ (hSx.get 0 rfl) Tryd.underlying58 rfl (by rw [sWH]; exact Tryd.infoF5)
        simp only [Act.put, List.setIfInBounds_toArray, List.set_cons_zero, List.set_cons_succ]
        refine wpAnyM_take (i := 4) (dst := some 50) (v := .agg (Ws CH)) rfl rfl (by kernel_rfl) (by kernel_rfl) (by kernel_rfl) (by kernel_rfl) (by kernel_rfl) (fun _ _ _ h => h) (Or.inl ⟨by rfl, ?hyf4⟩) hX0 ?ref4
        case hyf4 => exact fun wx hSx => exec_load_row 58 _ rfl (q10) rfl 58 _ (0, 0) _ (hSx.get 1 rfl) Tryd.underlying58 rfl (by rw [sCH]; exact Tryd.infoF5)
        try simp only [Act.put, List.setIfInBounds_toArray, List.set_cons_zero, List.set_cons_succ]
        change wpAnyM _ _ _ _ _ _ 6 #[true, true, false, true, true, false, false, false, false, false] _ _
        refine wpAnyM_phaseU2 (R := fun d u w' => (d 2 = true → u 48 = .agg (Ws MO)) ∧ (d 5 = true → u 51 = .agg (Ws LE)) ∧ (d 6 = true → Fresh w (w.heap.size) [(q9, Ws WH, 58), (q10, Ws CH, 58), (q8, Ws ZZ, 58), (q7, Ws AC, 58), (q5, Ws XX, 58), (q6, Ws YY, 58), (w.heap.size + 1 + 1, Ws ZO, 60)] #[.int .u64 0, .int .u64 0, .int .u64 0, .int .u64 0, .int .u64 0] 58 (u 11) w') ∧ (d 7 = true → Fresh w (w.heap.size) [(q9, Ws WH, 58), (q10, Ws CH, 58), (q8, Ws ZZ, 58), (q7, Ws AC, 58), (q5, Ws XX, 58), (q6, Ws YY, 58), (w.heap.size + 1 + 1, Ws ZO, 60)] #[.int .u64 0, .int .u64 0, .int .u64 0, .int .u64 0, .int .u64 0] 58 (u 12) w') ∧ (d 6 = true → d 7 = true → u 11 ≠ u 12) ∧ WD w (w.heap.size) [(q9, Ws WH, 58), (q10, Ws CH, 58), (q8, Ws ZZ, 58), (q7, Ws AC, 58), (q5, Ws XX, 58), (q6, Ws YY, 58), (w.heap.size + 1 + 1, Ws ZO, 60)] w') [48, 51, 11, 12] [2, 5, 6, 7] #[true, true, true, true, true, true, true, true, false, false] (by kernel_rfl) (by kernel_rfl) (by kernel_rfl) ⟨fun h => Bool.noConfusion h, fun h => Bool.noConfusion h, fun h => Bool.noConfusion h, fun h => Bool.noConfusion h, fun h => Bool.noConfusion h, hX0⟩ ?stepsf ?finf
        case stepsf =>
          refine StepsU.cons rfl ?sf2 (StepsU.cons rfl ?sf5 (StepsU.cons rfl ?sf6 (StepsU.cons rfl ?sf7 StepsU.nil)))
          case sf2 =>
            rintro d u wx ⟨h2, h5, h6, h7, hne, hX⟩ hd K hK
            simp only [layS, List.foldl, Act.put, List.setIfInBounds_toArray, List.set_cons_zero, List.set_cons_succ]
            go_simp
            go_wp2_with (go_at_call 68; refine (J1.out _).mono ?_; rintro e x0 ⟨rfl, k0⟩)
            refine hK.out (upV u 48 (.agg (Ws MO))) _ (hX.keep k0) ⟨fun _ => rfl, fun h => h5 h, fun h => (h6 h).keep k0, fun h => (h7 h).keep k0, fun h h' => hne h h', hX.keep k0⟩ _ ?_
            simp only [layS, List.foldl, Act.put, List.setIfInBounds_toArray, List.set_cons_zero, List.set_cons_succ, upV, reduceIte, Nat.reduceEqDiff]
          case sf5 =>
            rintro d u wx ⟨h2, h5, h6, h7, hne, hX⟩ hd K hK
            simp only [layS, List.foldl, Act.put, List.setIfInBounds_toArray, List.set_cons_zero, List.set_cons_succ]
            go_simp
            go_wp2_with (go_at_call 66; refine (J2.out _).mono ?_; rintro e x0 ⟨rfl, k0⟩)
            refine hK.out (upV u 51 (.agg (Ws LE))) _ (hX.keep k0) ⟨fun h => h2 h, fun _ => rfl, fun h => (h6 h).keep k0, fun h => (h7 h).keep k0, fun h h' => hne h h', hX.keep k0⟩ _ ?_
            simp only [layS, List.foldl, Act.put, List.setIfInBounds_toArray, List.set_cons_zero, List.set_cons_succ, upV, reduceIte, Nat.reduceEqDiff]
          case sf6 =>
            rintro d u wx ⟨h2, h5, h6, h7, hne, hX⟩ hd K hK
            simp only [layS, List.foldl, Act.put, List.setIfInBounds_toArray, List.set_cons_zero, List.set_cons_succ]
            go_simp
            refine hK.out (upV u 11 (.pointer (some ⟨wx.heap.size, 0, none⟩))) _ (hX.alloc _) ⟨fun h => h2 h, fun h => h5 h, fun _ => FreshD hX _ _, fun h => (h7 h).alloc _, fun _ h' => Ne.symm (h7 h').ne, hX.alloc _⟩ _ ?_
            simp only [layS, List.foldl, Act.put, List.setIfInBounds_toArray, List.set_cons_zero, List.set_cons_succ, upV, reduceIte, Nat.reduceEqDiff]
          case sf7 =>
            rintro d u wx ⟨h2, h5, h6, h7, hne, hX⟩ hd K hK
            simp only [layS, List.foldl, Act.put, List.setIfInBounds_toArray, List.set_cons_zero, List.set_cons_succ]
            go_simp
            refine hK.out (upV u 12 (.pointer (some ⟨wx.heap.size, 0, none⟩))) _ (hX.alloc _) ⟨fun h => h2 h, fun h => h5 h, fun h => (h6 h).alloc _, fun _ => FreshD hX _ _, fun h _ => (h6 h).ne, hX.alloc _⟩ _ ?_
            simp only [layS, List.foldl, Act.put, List.setIfInBounds_toArray, List.set_cons_zero, List.set_cons_succ, upV, reduceIte, Nat.reduceEqDiff]
        case finf =>
          rintro n' d u fx ⟨h2, h5, h6, h7, hne, hX⟩ hd
          have e48 := h2 (hd 2 rfl)
          have e51 := h5 (hd 5 rfl)
          obtain ⟨q11, e11, bq11, lq11, mq11⟩ := h6 (hd 6 rfl)
          obtain ⟨q12, e12, bq12, lq12, mq12⟩ := h7 (hd 7 rfl)
          have nf : Hid (q11 ≠ q12) := fun hq => hne (hd 6 rfl) (hd 7 rfl) (by rw [e11, e12, hq])
          simp only [layS, List.foldl, Act.put, List.setIfInBounds_toArray, List.set_cons_zero, List.set_cons_succ, e48, e51, e11, e12]
          clear hd h2 h5 h6 h7 hne e48 e51 e11 e12
          change wpAnyM _ _ _ _ _ _ (n' + 2) _ _ _
          replace hX := hX.push bq12 mq12 (fun x hx => Nat.ne_of_lt (lq12 x hx))
          replace hX := hX.push bq11 mq11 (fun x hx => by rcases List.mem_cons.1 hx with rfl | hx; exact fun e => nf.out e.symm; exact Nat.ne_of_lt (lq11 x hx))
          clear bq12 lq12 mq12 bq11 lq11 mq11 nf
          refine wpAnyM_late (i := 8) (by kernel_rfl) rfl rfl (fun K hK => ?_)
          have hst := storeRow (l := MO) (hX.get 0 rfl) (by rw [hMO]; rfl)
          go_simp
          refine hK.out _ _ ?_
          clear hK K hst
          replace hX : WD w (w.heap.size) [(q11, Ws MO, 58), (q12, #[.int .u64 0, .int .u64 0, .int .u64 0, .int .u64 0, .int .u64 0], 58), (q9, Ws WH, 58), (q10, Ws CH, 58), (q8, Ws ZZ, 58), (q7, Ws AC, 58), (q5, Ws XX, 58), (q6, Ws YY, 58), (w.heap.size + 1 + 1, Ws ZO, 60)] (fx.setRow (q11) (Ws MO)) := hX.over 0 rfl (Ws MO)
          generalize fx.setRow (q11) (Ws MO) = fy0 at hX ⊢
          refine wpAnyM_late (i := 9) (by kernel_rfl) rfl rfl (fun K hK => ?_)
          have hst := storeRow (l := LE) (hX.get 1 rfl) (by rw [hLE]; rfl)
          go_simp
          refine hK.out _ _ ?_
          clear hK K hst
          replace hX : WD w (w.heap.size) [(q11, Ws MO, 58), (q12, Ws LE, 58), (q9, Ws WH, 58), (q10, Ws CH, 58), (q8, Ws ZZ, 58), (q7, Ws AC, 58), (q5, Ws XX, 58), (q6, Ws YY, 58), (w.heap.size + 1 + 1, Ws ZO, 60)] (fy0.setRow (q12) (Ws LE)) := hX.over 1 rfl (Ws LE)
          generalize fy0.setRow (q12) (Ws LE) = fy1 at hX ⊢
          refine wpAnyM_done (by kernel_rfl) ?_ _
          have HB : Hid (∀ wx : World, (Instr.build 60 #[(0, .agg (Ws RX)), (1, .agg (Ws RY)), (2, .agg (Ws RZ))]).run Tryd.prog wx = .ok (.agg (Ws (pt RX RY RZ))) wx) := build15 RX RY RZ hRX hRY hRZ
          go_wp2_with fail
          refine wp_region_M (S := WD w (w.heap.size) [(q11, Ws MO, 58), (q12, Ws LE, 58), (q9, Ws WH, 58), (q10, Ws CH, 58), (q8, Ws ZZ, 58), (q7, Ws AC, 58), (q5, Ws XX, 58), (q6, Ws YY, 58), (w.heap.size + 1 + 1, Ws ZO, 60)]) (ls := [16]) (by kernel_rfl) ?_
          have hX0 : WD w (w.heap.size) [(q11, Ws MO, 58), (q12, Ws LE, 58), (q9, Ws WH, 58), (q10, Ws CH, 58), (q8, Ws ZZ, 58), (q7, Ws AC, 58), (q5, Ws XX, 58), (q6, Ws YY, 58), (w.heap.size + 1 + 1, Ws ZO, 60)] fy1.drew := hX.drew
          clear hX
          generalize World.drew fy1 = md at hX0 ⊢
          refine wpAnyM_take (i := 0) (dst := some 52) (v := .agg (Ws ZZ)) rfl rfl (by kernel_rfl) (by kernel_rfl) (by kernel_rfl) (by kernel_rfl) (by kernel_rfl) (fun _ _ _ h => h) (Or.inl ⟨by rfl, ?hym0⟩) hX0 ?rem0
          case hym0 => exact fun wx hSx => exec_load_row 58 _ rfl (q8) rfl 58 _ (0, 0) _ (hSx.get 4 rfl) Tryd.underlying58 rfl (by rw [sZZ]; exact Tryd.infoF5)
          refine wpAnyM_take (i := 1) (dst := some 53) (v := .agg (Ws AC)) rfl rfl (by kernel_rfl) (by kernel_rfl) (by kernel_rfl) (by kernel_rfl) (by kernel_rfl) (fun _ _ _ h => h) (Or.inl ⟨by rfl, ?hym1⟩) hX0 ?rem1
          case hym1 => exact fun wx hSx => exec_load_row 58 _ rfl (q7) rfl 58 _ (0, 0) _ (hSx.get 5 rfl) Tryd.underlying58 rfl (by rw [sAC]; exact Tryd.infoF5)
          refine wpAnyM_take (i := 3) (dst := some 55) (v := .agg (Ws LE)) rfl rfl (by kernel_rfl) (by kernel_rfl) (by kernel_rfl) (by kernel_rfl) (by kernel_rfl) (fun _ _ _ h => h) (Or.inl ⟨by rfl, ?hym3⟩) hX0 ?rem3
          case hym3 => exact fun wx hSx => exec_load_row 58 _ rfl (q12) rfl 58 _ (0, 0) _ (hSx.get 1 rfl) Tryd.underlying58 rfl (by rw [sLE]; exact Tryd.infoF5)
          simp only [Act.put, List.setIfInBounds_toArray, List.set_cons_zero, List.set_cons_succ]
          refine wpAnyM_take (i := 5) (dst := some 57) (v := .agg (Ws ZZ)) rfl rfl (by kernel_rfl) (by kernel_rfl) (by kernel_rfl) (by kernel_rfl) (by kernel_rfl) (fun _ _ _ h => h) (Or.inl ⟨by rfl, ?hym5⟩) hX0 ?rem5
          case hym5 => exact fun wx hSx => exec_load_row 58 _ rfl (q8) rfl 58 _ (0, 0) _ (hSx.get 4 rfl) Tryd.underlying58 rfl (by rw [sZZ]; exact Tryd.infoF5)
          refine wpAnyM_take (i := 6) (dst := some 58) (v := .agg (Ws YY)) rfl rfl (by kernel_rfl) (by kernel_rfl) (by kernel_rfl) (by kernel_rfl) (by kernel_rfl) (fun _ _ _ h => h) (Or.inl ⟨by rfl, ?hym6⟩) hX0 ?rem6
          case hym6 => exact fun wx hSx => exec_load_row 58 _ rfl (q6) rfl 58 _ (0, 0) _ (hSx.get 7 rfl) Tryd.underlying58 rfl (by rw [sYY]; exact Tryd.infoF5)
          refine wpAnyM_take (i := 7) (dst := some 59) (v := .agg (Ws XX)) rfl rfl (by kernel_rfl) (by kernel_rfl) (by kernel_rfl) (by kernel_rfl) (by kernel_rfl) (fun _ _ _ h => h) (Or.inl ⟨by rfl, ?hym7⟩) hX0 ?rem7
          case hym7 => exact fun wx hSx => exec_load_row 58 _ rfl (q5) rfl 58 _ (0, 0) _ (hSx.get 6 rfl) Tryd.underlying58 rfl (by rw [sXX]; exact Tryd.infoF5)
          simp only [Act.put, List.setIfInBounds_toArray, List.set_cons_zero, List.set_cons_succ]
          refine wpAnyM_take (i := 10) (dst := some 62) (v := .agg (Ws MO)) rfl rfl (by kernel_rfl) (by kernel_rfl) (by kernel_rfl) (by kernel_rfl) (by kernel_rfl) (fun _ _ _ h => h) (Or.inl ⟨by rfl, ?hym10⟩) hX0 ?rem10
          case hym10 => exact fun wx hSx => exec_load_row 58 _ rfl (q11) rfl 58 _ (0, 0) _ (hSx.get 0 rfl) Tryd.underlying58 rfl (by rw [sMO]; exact Tryd.infoF5)
          refine wpAnyM_take (i := 12) (dst := some 64) (v := .agg (Ws MO)) rfl rfl (by kernel_rfl) (by kernel_rfl) (by kernel_rfl) (by kernel_rfl) (by kernel_rfl) (fun _ _ _ h => h) (Or.inl ⟨by rfl, ?hym12⟩) hX0 ?rem12
          case hym12 => exact fun wx hSx => exec_load_row 58 _ rfl (q11) rfl 58 _ (0, 0) _ (hSx.get 0 rfl) Tryd.underlying58 rfl (by rw [sMO]; exact Tryd.infoF5)
          refine wpAnyM_take (i := 13) (dst := some 65) (v := .agg (Ws LE)) rfl rfl (by kernel_rfl) (by kernel_rfl) (by kernel_rfl) (by kernel_rfl) (by kernel_rfl) (fun _ _ _ h => h) (Or.inl ⟨by rfl, ?hym13⟩) hX0 ?rem13
          case hym13 => exact fun wx hSx => exec_load_row 58 _ rfl (q12) rfl 58 _ (0, 0) _ (hSx.get 1 rfl) Tryd.underlying58 rfl (by rw [sLE]; exact Tryd.infoF5)
          try simp only [Act.put, List.setIfInBounds_toArray, List.set_cons_zero, List.set_cons_succ]
          refine wpAnyM_one (i := 2) (by kernel_rfl) rfl (fun K hK => ?_)
          go_simp
          go_wp2_with (go_at_call 60; refine (J3.out _).mono ?_; rintro e mx0 ⟨rfl, k0⟩)
          have hX1 := hX0.keep k0
          refine hK.out _ _ hX1 ?_
          try simp only [Act.put, List.setIfInBounds_toArray, List.set_cons_zero, List.set_cons_succ]
          clear hK K k0 hX0
          refine wpAnyM_one (i := 4) (by kernel_rfl) rfl (fun K hK => ?_)
          go_simp
          go_wp2_with (go_at_call 60; refine (J4.out _).mono ?_; rintro e mx1 ⟨rfl, k0⟩)
          have hX2 := hX1.keep k0
          refine hK.out _ _ hX2 ?_
          try simp only [Act.put, List.setIfInBounds_toArray, List.set_cons_zero, List.set_cons_succ]
          clear hK K k0 hX1
          refine wpAnyM_one (i := 8) (by kernel_rfl) rfl (fun K hK => ?_)
          go_simp
          go_wp2_with (go_at_call 68; refine (J5.out _).mono ?_; rintro e mx2 ⟨rfl, k0⟩)
          have hX3 := hX2.keep k0
          refine hK.out _ _ hX3 ?_
          try simp only [Act.put, List.setIfInBounds_toArray, List.set_cons_zero, List.set_cons_succ]
          clear hK K k0 hX2
          refine wpAnyM_one (i := 9) (by kernel_rfl) rfl (fun K hK => ?_)
          go_simp
          go_wp2_with (go_at_call 60; refine (J6.out _).mono ?_; rintro e mx3 ⟨rfl, k0⟩)
          have hX4 := hX3.keep k0
          refine hK.out _ _ hX4 ?_
          try simp only [Act.put, List.setIfInBounds_toArray, List.set_cons_zero, List.set_cons_succ]
          clear hK K k0 hX3
          refine wpAnyM_one (i := 11) (by kernel_rfl) rfl (fun K hK => ?_)
          go_simp
          go_wp2_with (go_at_call 60; refine (J7.out _).mono ?_; rintro e mx4 ⟨rfl, k0⟩)
          have hX5 := hX4.keep k0
          refine hK.out _ _ hX5 ?_
          try simp only [Act.put, List.setIfInBounds_toArray, List.set_cons_zero, List.set_cons_succ]
          clear hK K k0 hX4
          refine wpAnyM_one (i := 14) (by kernel_rfl) rfl (fun K hK => ?_)
          go_simp
          go_wp2_with (go_at_call 60; refine (J8.out _).mono ?_; rintro e mx5 ⟨rfl, k0⟩)
          have hX6 := hX5.keep k0
          refine hK.out _ _ hX6 ?_
          try simp only [Act.put, List.setIfInBounds_toArray, List.set_cons_zero, List.set_cons_succ]
          clear hK K k0 hX5
          refine wpAnyM_take (i := 15) (dst := some 67) (v := .agg (Ws (pt RX RY RZ))) rfl rfl (by kernel_rfl) (by kernel_rfl) (by kernel_rfl) (by kernel_rfl) (by kernel_rfl) (fun _ _ _ h => h) (Or.inl ⟨by rfl, ?hym15⟩) hX6 ?rem15
          case hym15 => exact fun wx _ => exec_made 60 _ rfl [(0, .agg (Ws RX)), (1, .agg (Ws RY)), (2, .agg (Ws RZ))] rfl _ (HB.out wx)
          simp only [Act.put, List.setIfInBounds_toArray, List.set_cons_zero, List.set_cons_succ]
          generalize hLR : pt RX RY RZ = LR at sR lR ⊢
          replace hLR : Hid (pt RX RY RZ = LR) := hLR
          refine wpAnyM_late (i := 16) (by kernel_rfl) rfl rfl (fun K hK => ?_)
          have hst := storeRow (l := LR) (hX6.get 8 rfl) (by rw [sZ', lR])
          go_simp
          refine hK.out _ _ ?_
          clear hK K hst
          replace hX6 : WD w (w.heap.size) [(q11, Ws MO, 58), (q12, Ws LE, 58), (q9, Ws WH, 58), (q10, Ws CH, 58), (q8, Ws ZZ, 58), (q7, Ws AC, 58), (q5, Ws XX, 58), (q6, Ws YY, 58), (w.heap.size + 1 + 1, Ws LR, 60)] (mx5.setRow (w.heap.size + 1 + 1) (Ws LR)) := hX6.over 8 rfl (Ws LR)
          generalize mx5.setRow (w.heap.size + 1 + 1) (Ws LR) = my0 at hX6 ⊢
          refine wpAnyM_done (by kernel_rfl) ?_ _
          go_wp2
          refine bodyPost_ret (v := .agg (Ws LR)) ?_ rfl ⟨by rw [hLR.out], hX6.below⟩
          exact results_cell_row rfl _ _ (w.heap.size + 1 + 1) 60 _ (0, 0) _ rfl (hX6.get 8 rfl) Tryd.underlying60 rfl (by rw [sR]; exact Tryd.infoP15)

theorem Cv.row_pt (p : Cv.Pn) : Cv.row p = pt p.x p.y p.z := rfl
theorem C_plus (a b : Cv.Pn) (w : World) (ha : Cv.Ok a) (hb : Cv.Ok b) :
    Calls Tryd.prog 43 #[.agg (Ws (Cv.row a)), .agg (Ws (Cv.row b))] w fun e w' => e = .returned (.agg (Ws (Cv.row (Cv.plus a b)))) ∧ Below w.heap.size w w' := by
  have := C_plus' a.x a.y a.z b.x b.y b.z (Cv.row (Cv.plus a b)) w ha.1 ha.2.1 ha.2.2 hb.1 hb.2.1 hb.2.2 (by
    show Cv.row (Cv.plus a b) = _
    rw [Cv.row_pt, Cv.plus_x, Cv.plus_y, Cv.plus_z]
    unfold Cv.less Cv.more Cv.whole Cv.change Cv.across Cv.zz Cv.xx Cv.yy
    with_reducible rfl)
  exact this

end Go.Proofs.YtclpbaokadfhhaaDoor
