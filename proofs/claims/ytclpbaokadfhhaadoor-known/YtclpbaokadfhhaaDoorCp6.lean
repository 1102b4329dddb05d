/- Contract of curve's Of. -/
import Derived.Test.YtclpbaokadfhhaaDoorFr
import Derived.Test.YtclpbaokadfhhaaDoorCp5
namespace Go.Proofs.YtclpbaokadfhhaaDoor
open Go.RowKit

theorem bytes_ne {a b : ByteArray} (h : ¬ a = b) : (a.toList == b.toList) = false := by
  cases hc : a.toList == b.toList with
  | false => rfl
  | true =>
    have h1 : a.toList = b.toList := eq_of_beq hc
    rw [ByteArray.toList_eq, ByteArray.toList_eq] at h1
    exact absurd (ByteArray.ext (Array.toList_inj.mp h1)) h

set_option maxRecDepth 100000 in
set_option maxHeartbeats 20000000 in
theorem C_of' (s : ByteArray) (Y YY ON M1 FA FY FP IV XX RT NG : List (BitVec 64)) (found : Bool) (lb hb s31 : UInt8) (T1 T2 : ByteArray) (V : Value) (w : World)
    (hix : ∀ wx : World, (Instr.index 9 (.string s) (.int .i64 31)).run Tryd.prog wx = .ok (.int .u8 (s31.toNat : Int)) wx) (hsh : (s31.toNat : Int) / 128 = (hb.toNat : Int))
    (H1 : Hid (∀ wx : World, Calls Tryd.prog 45 #[.string s] wx fun e w' => e = .returned (.agg (Ws Y)) ∧ Below wx.heap.size wx w'))
    (H2 : Hid (∀ wx : World, Calls Tryd.prog 65 #[.agg (Ws Y)] wx fun e w' => e = .returned (.agg (Ws YY)) ∧ Below wx.heap.size wx w'))
    (H3 : Hid (∀ wx : World, Calls Tryd.prog 56 #[] wx fun e w' => e = .returned (.agg (Ws ON)) ∧ Below wx.heap.size wx w'))
    (H4 : Hid (∀ wx : World, Calls Tryd.prog 66 #[.agg (Ws YY), .agg (Ws ON)] wx fun e w' => e = .returned (.agg (Ws M1)) ∧ Below wx.heap.size wx w'))
    (H5 : Hid (∀ wx : World, Calls Tryd.prog 67 #[] wx fun e w' => e = .returned (.agg (Ws FA)) ∧ Below wx.heap.size wx w'))
    (H6 : Hid (∀ wx : World, Calls Tryd.prog 60 #[.agg (Ws FA), .agg (Ws YY)] wx fun e w' => e = .returned (.agg (Ws FY)) ∧ Below wx.heap.size wx w'))
    (H7 : Hid (∀ wx : World, Calls Tryd.prog 68 #[.agg (Ws FY), .agg (Ws ON)] wx fun e w' => e = .returned (.agg (Ws FP)) ∧ Below wx.heap.size wx w'))
    (H8 : Hid (∀ wx : World, Calls Tryd.prog 59 #[.agg (Ws FP)] wx fun e w' => e = .returned (.agg (Ws IV)) ∧ Below wx.heap.size wx w'))
    (H9 : Hid (∀ wx : World, Calls Tryd.prog 60 #[.agg (Ws M1), .agg (Ws IV)] wx fun e w' => e = .returned (.agg (Ws XX)) ∧ Below wx.heap.size wx w'))
    (J1 : Hid (∀ wx : World, Calls Tryd.prog 69 #[.agg (Ws XX)] wx fun e w' => e = .returned (.tuple #[.agg (Ws RT), .bool found]) ∧ Below wx.heap.size wx w'))
    (J2 : Hid (∀ wx : World, Calls Tryd.prog 61 #[.agg (Ws RT)] wx fun e w' => e = .returned (.int .u8 (lb.toNat : Int)) ∧ Below wx.heap.size wx w'))
    (J3 : Hid (∀ wx : World, Calls Tryd.prog 70 #[.agg (Ws RT)] wx fun e w' => e = .returned (.agg (Ws NG)) ∧ Below wx.heap.size wx w'))
    (J4 : Hid (∀ wx : World, Calls Tryd.prog 36 #[.agg (Ws (pt RT Y ON))] wx fun e w' => e = .returned (.string T1) ∧ Below wx.heap.size wx w'))
    (J5 : Hid (∀ wx : World, Calls Tryd.prog 36 #[.agg (Ws (pt NG Y ON))] wx fun e w' => e = .returned (.string T2) ∧ Below wx.heap.size wx w'))
    (hY : Y.length = 5) (hYY : YY.length = 5) (hON : ON.length = 5) (hXX : XX.length = 5) (hRT : RT.length = 5) (hNG : NG.length = 5)
    (v0 : Hid (found = false → V = .tuple #[.agg (Ws Z15), .bool false])) (v1 : Hid (found = true → lb = hb → T1 = s → V = .tuple #[.agg (Ws (pt RT Y ON)), .bool true])) (v2 : Hid (found = true → lb = hb → ¬ T1 = s → V = .tuple #[.agg (Ws Z15), .bool false]))
    (v3 : Hid (found = true → ¬ lb = hb → T2 = s → V = .tuple #[.agg (Ws (pt NG Y ON)), .bool true])) (v4 : Hid (found = true → ¬ lb = hb → ¬ T2 = s → V = .tuple #[.agg (Ws Z15), .bool false])) :
    Calls Tryd.prog 41 #[.string s] w fun e w' => e = .returned V ∧ Below w.heap.size w w' := by
  have hz := zero15
  have hbn := build15_none
  have sZ := Z15_len
  have B1 : Hid (∀ wx : World, (Instr.build 60 #[(0, .agg (Ws RT)), (1, .agg (Ws Y)), (2, .agg (Ws ON))]).run Tryd.prog wx = .ok (.agg (Ws (pt RT Y ON))) wx) := build15 RT Y ON hRT hY hON
  have B2 : Hid (∀ wx : World, (Instr.build 60 #[(0, .agg (Ws NG)), (1, .agg (Ws Y)), (2, .agg (Ws ON))]).run Tryd.prog wx = .ok (.agg (Ws (pt NG Y ON))) wx) := build15 NG Y ON hNG hY hON
  have lP1 : (pt RT Y ON).length = 15 := pt_length hRT hY hON
  have lP2 : (pt NG Y ON).length = 15 := pt_length hNG hY hON
  generalize pt RT Y ON = P1 at B1 lP1 J4 v1
  generalize pt NG Y ON = P2 at B2 lP2 J5 v3
  generalize Z15 = ZO at hz sZ hbn v0 v2 v4
  have sZ' : (Ws ZO).size = 15 := by rw [Ws_size, sZ]
  have sP1 : (Ws P1).size = 15 := by rw [Ws_size, lP1]
  have sP2 : (Ws P2).size = 15 := by rw [Ws_size, lP2]
  have sY : (Ws Y).size = 5 := by rw [Ws_size, hY]
  have sYY : (Ws YY).size = 5 := by rw [Ws_size, hYY]
  have sXX : (Ws XX).size = 5 := by rw [Ws_size, hXX]
  have sRT : (Ws RT).size = 5 := by rw [Ws_size, hRT]
  have sNG : (Ws NG).size = 5 := by rw [Ws_size, hNG]
  replace hbn : Hid (∀ wx : World, (Instr.build 60 #[]).run Tryd.prog wx = .ok (.agg (Ws ZO)) wx) := hbn
  have hW : WD w w.heap.size [(w.heap.size, Ws ZO, 60)] (w.alloc (.cells (Ws ZO) 60)) := (WD.start (w := w)).new (Ws ZO) 60
  go_enter Tryd.func41, Tryd.ntmps41
  go_wp2_with fail
  generalize w.alloc (.cells (Ws ZO) 60) = w1 at hW ⊢
  refine (H1.out _).mono ?_
  rintro e w2 ⟨rfl, k2⟩
  replace hW := hW.keep k2
  clear k2
  have hN := hW.new #[.int .u64 0, .int .u64 0, .int .u64 0, .int .u64 0, .int .u64 0] 58
  have gz := hN.get 0 rfl
  dsimp only at gz
  unfold Blk at gz
  replace hW : WD w w.heap.size [(w2.heap.size, Ws Y, 58), (w.heap.size, Ws ZO, 60)] ((w2.alloc (.cells #[.int .u64 0, .int .u64 0, .int .u64 0, .int .u64 0, .int .u64 0] 58)).setRow w2.heap.size (Ws Y)) := hN.over 0 rfl (Ws Y)
  have g0 := hW.get 0 rfl
  dsimp only at g0
  unfold Blk at g0
  go_wp2_with (first
    | (refine wpList_store_row rfl 58 _ _ rfl w2.heap.size _ rfl rfl 58 _ gz (by rw [sY]; exact Tryd.infoF5) (by rw [sY]; rfl) (Ws_one _) ?_)
    | (refine wpList_load_row rfl 58 _ rfl w2.heap.size rfl 58 _ (0, 0) _ g0 Tryd.underlying58 rfl (by rw [sY]; exact Tryd.infoF5) ?_))
  clear hN gz g0
  generalize (w2.alloc (.cells #[.int .u64 0, .int .u64 0, .int .u64 0, .int .u64 0, .int .u64 0] 58)).setRow w2.heap.size (Ws Y) = w3 at hW ⊢
  generalize w2.heap.size = q4 at hW ⊢
  refine (H2.out _).mono ?_
  rintro e w4 ⟨rfl, k4⟩
  replace hW := hW.keep k4
  clear k4
  have hN := hW.new #[.int .u64 0, .int .u64 0, .int .u64 0, .int .u64 0, .int .u64 0] 58
  have gz := hN.get 0 rfl
  dsimp only at gz
  unfold Blk at gz
  go_wp2_with (first
    | (refine wpList_store_row rfl 58 _ _ rfl w4.heap.size _ rfl rfl 58 _ gz (by rw [sYY]; exact Tryd.infoF5) (by rw [sYY]; rfl) (Ws_one _) ?_))
  replace hW : WD w w.heap.size [(w4.heap.size, Ws YY, 58), (q4, Ws Y, 58), (w.heap.size, Ws ZO, 60)] ((w4.alloc (.cells #[.int .u64 0, .int .u64 0, .int .u64 0, .int .u64 0, .int .u64 0] 58)).setRow w4.heap.size (Ws YY)) := hN.over 0 rfl (Ws YY)
  clear hN gz
  generalize (w4.alloc (.cells #[.int .u64 0, .int .u64 0, .int .u64 0, .int .u64 0, .int .u64 0] 58)).setRow w4.heap.size (Ws YY) = w5 at hW ⊢
  generalize w4.heap.size = q5 at hW ⊢
  refine wp_region_M (S := WD w (w.heap.size) [(q5, Ws YY, 58), (q4, Ws Y, 58), (w.heap.size, Ws ZO, 60)]) (ls := [11]) (by kernel_rfl) ?_
  have hW0 : WD w (w.heap.size) [(q5, Ws YY, 58), (q4, Ws Y, 58), (w.heap.size, Ws ZO, 60)] w5.drew := hW.drew
  clear hW
  generalize World.drew w5 = cd at hW0 ⊢
  refine wpAnyM_take (i := 0) (dst := some 14) (v := .agg (Ws YY)) rfl rfl (by kernel_rfl) (by kernel_rfl) (by kernel_rfl) (by kernel_rfl) (by kernel_rfl) (fun _ _ _ h => h) (Or.inl ⟨by rfl, ?hyc0⟩) hW0 ?rec0
  case hyc0 => exact fun wx hSx => exec_load_row 58 _ rfl (q5) rfl 58 _ (0, 0) _ (hSx.get 0 rfl) Tryd.underlying58 rfl (by rw [sYY]; exact Tryd.infoF5)
  refine wpAnyM_take (i := 4) (dst := some 18) (v := .agg (Ws YY)) rfl rfl (by kernel_rfl) (by kernel_rfl) (by kernel_rfl) (by kernel_rfl) (by kernel_rfl) (fun _ _ _ h => h) (Or.inl ⟨by rfl, ?hyc4⟩) hW0 ?rec4
  case hyc4 => exact fun wx hSx => exec_load_row 58 _ rfl (q5) rfl 58 _ (0, 0) _ (hSx.get 0 rfl) Tryd.underlying58 rfl (by rw [sYY]; exact Tryd.infoF5)
  try simp only [Act.put, List.setIfInBounds_toArray, List.set_cons_zero, List.set_cons_succ]
  change wpAnyM _ _ _ _ _ _ 10 #[true, false, false, false, true, false, false, false, false, false, false, false] _ _
  refine wpAnyM_phaseU2 (R := fun d u w' => (d 1 = true → u 15 = .agg (Ws ON)) ∧ (d 2 = true → u 16 = .agg (Ws M1)) ∧ (d 3 = true → u 17 = .agg (Ws FA)) ∧ (d 5 = true → u 19 = .agg (Ws FY)) ∧ (d 6 = true → u 20 = .agg (Ws ON)) ∧ (d 7 = true → u 21 = .agg (Ws FP)) ∧ (d 8 = true → u 22 = .agg (Ws IV)) ∧ (d 9 = true → u 23 = .agg (Ws XX)) ∧ (d 10 = true → Fresh w (w.heap.size) [(q5, Ws YY, 58), (q4, Ws Y, 58), (w.heap.size, Ws ZO, 60)] #[.int .u64 0, .int .u64 0, .int .u64 0, .int .u64 0, .int .u64 0] 58 (u 6) w') ∧ WD w (w.heap.size) [(q5, Ws YY, 58), (q4, Ws Y, 58), (w.heap.size, Ws ZO, 60)] w') [15, 16, 17, 19, 20, 21, 22, 23, 6] [1, 2, 3, 5, 6, 7, 8, 9, 10] #[true, true, true, true, true, true, true, true, true, true, true, false] (by kernel_rfl) (by kernel_rfl) (by kernel_rfl) ⟨fun h => Bool.noConfusion h, fun h => Bool.noConfusion h, fun h => Bool.noConfusion h, fun h => Bool.noConfusion h, fun h => Bool.noConfusion h, fun h => Bool.noConfusion h, fun h => Bool.noConfusion h, fun h => Bool.noConfusion h, fun h => Bool.noConfusion h, hW0⟩ ?stepsc ?finc
  case stepsc =>
    refine StepsU.cons rfl ?sc1 (StepsU.cons rfl ?sc2 (StepsU.cons rfl ?sc3 (StepsU.cons rfl ?sc5 (StepsU.cons rfl ?sc6 (StepsU.cons rfl ?sc7 (StepsU.cons rfl ?sc8 (StepsU.cons rfl ?sc9 (StepsU.cons rfl ?sc10 StepsU.nil))))))))
    case sc1 =>
      rintro d u wx ⟨h1, h2, h3, h5, h6, h7, h8, h9, h10, hX⟩ hd K hK
      simp only [layS, List.foldl, Act.put, List.setIfInBounds_toArray, List.set_cons_zero, List.set_cons_succ]
      go_simp
      go_wp2_with (go_at_call 56; refine (H3.out _).mono ?_; rintro e x0 ⟨rfl, k0⟩)
      refine hK.out (upV u 15 (.agg (Ws ON))) _ (hX.keep k0) ⟨fun _ => rfl, fun h => h2 h, fun h => h3 h, fun h => h5 h, fun h => h6 h, fun h => h7 h, fun h => h8 h, fun h => h9 h, fun h => (h10 h).keep k0, hX.keep k0⟩ _ ?_
      simp only [layS, List.foldl, Act.put, List.setIfInBounds_toArray, List.set_cons_zero, List.set_cons_succ, upV, reduceIte, Nat.reduceEqDiff]
    case sc2 =>
      rintro d u wx ⟨h1, h2, h3, h5, h6, h7, h8, h9, h10, hX⟩ hd K hK
      have e1 := h1 (hd 1 (by kernel_rfl))
      simp only [layS, List.foldl, Act.put, List.setIfInBounds_toArray, List.set_cons_zero, List.set_cons_succ, e1]
      go_simp
      go_wp2_with (go_at_call 66; refine (H4.out _).mono ?_; rintro e x0 ⟨rfl, k0⟩)
      refine hK.out (upV u 16 (.agg (Ws M1))) _ (hX.keep k0) ⟨fun h => h1 h, fun _ => rfl, fun h => h3 h, fun h => h5 h, fun h => h6 h, fun h => h7 h, fun h => h8 h, fun h => h9 h, fun h => (h10 h).keep k0, hX.keep k0⟩ _ ?_
      simp only [layS, List.foldl, Act.put, List.setIfInBounds_toArray, List.set_cons_zero, List.set_cons_succ, upV, reduceIte, Nat.reduceEqDiff, e1]
    case sc3 =>
      rintro d u wx ⟨h1, h2, h3, h5, h6, h7, h8, h9, h10, hX⟩ hd K hK
      simp only [layS, List.foldl, Act.put, List.setIfInBounds_toArray, List.set_cons_zero, List.set_cons_succ]
      go_simp
      go_wp2_with (go_at_call 67; refine (H5.out _).mono ?_; rintro e x0 ⟨rfl, k0⟩)
      refine hK.out (upV u 17 (.agg (Ws FA))) _ (hX.keep k0) ⟨fun h => h1 h, fun h => h2 h, fun _ => rfl, fun h => h5 h, fun h => h6 h, fun h => h7 h, fun h => h8 h, fun h => h9 h, fun h => (h10 h).keep k0, hX.keep k0⟩ _ ?_
      simp only [layS, List.foldl, Act.put, List.setIfInBounds_toArray, List.set_cons_zero, List.set_cons_succ, upV, reduceIte, Nat.reduceEqDiff]
    case sc5 =>
      rintro d u wx ⟨h1, h2, h3, h5, h6, h7, h8, h9, h10, hX⟩ hd K hK
      have e3 := h3 (hd 3 (by kernel_rfl))
      simp only [layS, List.foldl, Act.put, List.setIfInBounds_toArray, List.set_cons_zero, List.set_cons_succ, e3]
      go_simp
      go_wp2_with (go_at_call 60; refine (H6.out _).mono ?_; rintro e x0 ⟨rfl, k0⟩)
      refine hK.out (upV u 19 (.agg (Ws FY))) _ (hX.keep k0) ⟨fun h => h1 h, fun h => h2 h, fun h => h3 h, fun _ => rfl, fun h => h6 h, fun h => h7 h, fun h => h8 h, fun h => h9 h, fun h => (h10 h).keep k0, hX.keep k0⟩ _ ?_
      simp only [layS, List.foldl, Act.put, List.setIfInBounds_toArray, List.set_cons_zero, List.set_cons_succ, upV, reduceIte, Nat.reduceEqDiff, e3]
    case sc6 =>
      rintro d u wx ⟨h1, h2, h3, h5, h6, h7, h8, h9, h10, hX⟩ hd K hK
      simp only [layS, List.foldl, Act.put, List.setIfInBounds_toArray, List.set_cons_zero, List.set_cons_succ]
      go_simp
      go_wp2_with (go_at_call 56; refine (H3.out _).mono ?_; rintro e x0 ⟨rfl, k0⟩)
      refine hK.out (upV u 20 (.agg (Ws ON))) _ (hX.keep k0) ⟨fun h => h1 h, fun h => h2 h, fun h => h3 h, fun h => h5 h, fun _ => rfl, fun h => h7 h, fun h => h8 h, fun h => h9 h, fun h => (h10 h).keep k0, hX.keep k0⟩ _ ?_
      simp only [layS, List.foldl, Act.put, List.setIfInBounds_toArray, List.set_cons_zero, List.set_cons_succ, upV, reduceIte, Nat.reduceEqDiff]
    case sc7 =>
      rintro d u wx ⟨h1, h2, h3, h5, h6, h7, h8, h9, h10, hX⟩ hd K hK
      have e5 := h5 (hd 5 (by kernel_rfl))
      have e6 := h6 (hd 6 (by kernel_rfl))
      simp only [layS, List.foldl, Act.put, List.setIfInBounds_toArray, List.set_cons_zero, List.set_cons_succ, e5, e6]
      go_simp
      go_wp2_with (go_at_call 68; refine (H7.out _).mono ?_; rintro e x0 ⟨rfl, k0⟩)
      refine hK.out (upV u 21 (.agg (Ws FP))) _ (hX.keep k0) ⟨fun h => h1 h, fun h => h2 h, fun h => h3 h, fun h => h5 h, fun h => h6 h, fun _ => rfl, fun h => h8 h, fun h => h9 h, fun h => (h10 h).keep k0, hX.keep k0⟩ _ ?_
      simp only [layS, List.foldl, Act.put, List.setIfInBounds_toArray, List.set_cons_zero, List.set_cons_succ, upV, reduceIte, Nat.reduceEqDiff, e5, e6]
    case sc8 =>
      rintro d u wx ⟨h1, h2, h3, h5, h6, h7, h8, h9, h10, hX⟩ hd K hK
      have e7 := h7 (hd 7 (by kernel_rfl))
      simp only [layS, List.foldl, Act.put, List.setIfInBounds_toArray, List.set_cons_zero, List.set_cons_succ, e7]
      go_simp
      go_wp2_with (go_at_call 59; refine (H8.out _).mono ?_; rintro e x0 ⟨rfl, k0⟩)
      refine hK.out (upV u 22 (.agg (Ws IV))) _ (hX.keep k0) ⟨fun h => h1 h, fun h => h2 h, fun h => h3 h, fun h => h5 h, fun h => h6 h, fun h => h7 h, fun _ => rfl, fun h => h9 h, fun h => (h10 h).keep k0, hX.keep k0⟩ _ ?_
      simp only [layS, List.foldl, Act.put, List.setIfInBounds_toArray, List.set_cons_zero, List.set_cons_succ, upV, reduceIte, Nat.reduceEqDiff, e7]
    case sc9 =>
      rintro d u wx ⟨h1, h2, h3, h5, h6, h7, h8, h9, h10, hX⟩ hd K hK
      have e2 := h2 (hd 2 (by kernel_rfl))
      have e8 := h8 (hd 8 (by kernel_rfl))
      simp only [layS, List.foldl, Act.put, List.setIfInBounds_toArray, List.set_cons_zero, List.set_cons_succ, e2, e8]
      go_simp
      go_wp2_with (go_at_call 60; refine (H9.out _).mono ?_; rintro e x0 ⟨rfl, k0⟩)
      refine hK.out (upV u 23 (.agg (Ws XX))) _ (hX.keep k0) ⟨fun h => h1 h, fun h => h2 h, fun h => h3 h, fun h => h5 h, fun h => h6 h, fun h => h7 h, fun h => h8 h, fun _ => rfl, fun h => (h10 h).keep k0, hX.keep k0⟩ _ ?_
      simp only [layS, List.foldl, Act.put, List.setIfInBounds_toArray, List.set_cons_zero, List.set_cons_succ, upV, reduceIte, Nat.reduceEqDiff, e2, e8]
    case sc10 =>
      rintro d u wx ⟨h1, h2, h3, h5, h6, h7, h8, h9, h10, hX⟩ hd K hK
      simp only [layS, List.foldl, Act.put, List.setIfInBounds_toArray, List.set_cons_zero, List.set_cons_succ]
      go_simp
      refine hK.out (upV u 6 (.pointer (some ⟨wx.heap.size, 0, none⟩))) _ (hX.alloc _) ⟨fun h => h1 h, fun h => h2 h, fun h => h3 h, fun h => h5 h, fun h => h6 h, fun h => h7 h, fun h => h8 h, fun h => h9 h, fun _ => FreshD hX _ _, hX.alloc _⟩ _ ?_
      simp only [layS, List.foldl, Act.put, List.setIfInBounds_toArray, List.set_cons_zero, List.set_cons_succ, upV, reduceIte, Nat.reduceEqDiff]
  case finc =>
    rintro n' d u cx ⟨h1, h2, h3, h5, h6, h7, h8, h9, h10, hX⟩ hd
    have e15 := h1 (hd 1 rfl)
    have e16 := h2 (hd 2 rfl)
    have e17 := h3 (hd 3 rfl)
    have e19 := h5 (hd 5 rfl)
    have e20 := h6 (hd 6 rfl)
    have e21 := h7 (hd 7 rfl)
    have e22 := h8 (hd 8 rfl)
    have e23 := h9 (hd 9 rfl)
    obtain ⟨q6, e6, bq6, lq6, mq6⟩ := h10 (hd 10 rfl)
    simp only [layS, List.foldl, Act.put, List.setIfInBounds_toArray, List.set_cons_zero, List.set_cons_succ, e15, e16, e17, e19, e20, e21, e22, e23, e6]
    clear hd h1 h2 h3 h5 h6 h7 h8 h9 h10 e15 e16 e17 e19 e20 e21 e22 e23 e6
    change wpAnyM _ _ _ _ _ _ (n' + 1) _ _ _
    replace hX := hX.push bq6 mq6 (fun x hx => Nat.ne_of_lt (lq6 x hx))
    clear bq6 lq6 mq6
    refine wpAnyM_late (i := 11) (by kernel_rfl) rfl rfl (fun K hK => ?_)
    have hst := storeRow (l := XX) (hX.get 0 rfl) (by rw [hXX]; rfl)
    go_simp
    refine hK.out _ _ ?_
    clear hK K hst
    replace hX : WD w (w.heap.size) [(q6, Ws XX, 58), (q5, Ws YY, 58), (q4, Ws Y, 58), (w.heap.size, Ws ZO, 60)] (cx.setRow (q6) (Ws XX)) := hX.over 0 rfl (Ws XX)
    generalize cx.setRow (q6) (Ws XX) = cy0 at hX ⊢
    refine wpAnyM_done (by kernel_rfl) ?_ _
    have g0 := hX.get 0 rfl
    dsimp only at g0
    unfold Blk at g0
    go_wp2_with (first
      | (refine wpList_load_row rfl 58 _ rfl q6 rfl 58 _ (0, 0) _ g0 Tryd.underlying58 rfl (by rw [sXX]; exact Tryd.infoF5) ?_))
    clear g0
    refine (J1.out _).mono ?_
    rintro e w6 ⟨rfl, k6⟩
    replace hX := hX.keep k6
    clear k6 H1 H2 H4 H5 H6 H7 H8 H9
    have hN := hX.new #[.int .u64 0, .int .u64 0, .int .u64 0, .int .u64 0, .int .u64 0] 58
    have gz := hN.get 0 rfl
    dsimp only at gz
    unfold Blk at gz
    cases found with
    | false =>
      have hX7 : WD w (w.heap.size) [(w6.heap.size, Ws RT, 58), (q6, Ws XX, 58), (q5, Ws YY, 58), (q4, Ws Y, 58), (w.heap.size, Ws ZO, 60)] ((w6.alloc (.cells #[.int .u64 0, .int .u64 0, .int .u64 0, .int .u64 0, .int .u64 0] 58)).setRow w6.heap.size (Ws RT)) := hN.over 0 rfl (Ws RT)
      have g0 := hX7.get 4 rfl
      dsimp only at g0
      unfold Blk at g0
      go_wp2_with (first
        | (refine wpList_store_row rfl 58 _ _ rfl w6.heap.size _ rfl rfl 58 _ gz (by rw [sRT]; exact Tryd.infoF5) (by rw [sRT]; rfl) (Ws_one _) ?_)
        | (refine wpList_made rfl 60 _ rfl [] rfl _ (hbn.out _) ?_)
        | (refine wpList_store_row rfl 60 _ _ rfl w.heap.size _ rfl rfl 60 _ g0 (by rw [sZ']; exact Tryd.infoP15) rfl (Ws_one _) ?_))
      have hE := hX7.over 4 rfl (Ws ZO)
      refine bodyPost_ret (v := .tuple #[.agg (Ws ZO), .bool false]) ?_ rfl ⟨by rw [v0.out trivial], hE.below⟩
      exact results_cell_slot rfl _ _ w.heap.size 60 _ (0, 0) _ (.bool false) rfl rfl (hE.get 4 rfl) Tryd.underlying60 rfl (by rw [sZ']; exact Tryd.infoP15)
    | true =>
      go_wp2_with (first
        | (refine wpList_store_row rfl 58 _ _ rfl w6.heap.size _ rfl rfl 58 _ gz (by rw [sRT]; exact Tryd.infoF5) (by rw [sRT]; rfl) (Ws_one _) ?_))
      replace hX : WD w (w.heap.size) [(w6.heap.size, Ws RT, 58), (q6, Ws XX, 58), (q5, Ws YY, 58), (q4, Ws Y, 58), (w.heap.size, Ws ZO, 60)] ((w6.alloc (.cells #[.int .u64 0, .int .u64 0, .int .u64 0, .int .u64 0, .int .u64 0] 58)).setRow w6.heap.size (Ws RT)) := hN.over 0 rfl (Ws RT)
      clear hN gz
      generalize (w6.alloc (.cells #[.int .u64 0, .int .u64 0, .int .u64 0, .int .u64 0, .int .u64 0] 58)).setRow w6.heap.size (Ws RT) = w7 at hX ⊢
      generalize w6.heap.size = q7 at hX ⊢
      by_cases hl : lb = hb
      · have hl' : Hid (lb = hb) := hl
        clear hl
        refine wp_region_M (S := WD w (w.heap.size) [(q7, Ws RT, 58), (q6, Ws XX, 58), (q5, Ws YY, 58), (q4, Ws Y, 58), (w.heap.size, Ws ZO, 60)]) (ls := []) (by kernel_rfl) ?_
        have hX0 : WD w (w.heap.size) [(q7, Ws RT, 58), (q6, Ws XX, 58), (q5, Ws YY, 58), (q4, Ws Y, 58), (w.heap.size, Ws ZO, 60)] w7.drew := hX.drew
        clear hX
        generalize World.drew w7 = ed at hX0 ⊢
        refine wpAnyM_take (i := 0) (dst := some 32) (v := .agg (Ws RT)) rfl rfl (by kernel_rfl) (by kernel_rfl) (by kernel_rfl) (by kernel_rfl) (by kernel_rfl) (fun _ _ _ h => h) (Or.inl ⟨by rfl, ?hye0⟩) hX0 ?ree0
        case hye0 => exact fun wx hSx => exec_load_row 58 _ rfl (q7) rfl 58 _ (0, 0) _ (hSx.get 0 rfl) Tryd.underlying58 rfl (by rw [sRT]; exact Tryd.infoF5)
        refine wpAnyM_take (i := 2) (dst := some 34) (v := ?ve2) rfl rfl (by kernel_rfl) (by kernel_rfl) (by kernel_rfl) (by kernel_rfl) (by kernel_rfl) (fun _ _ _ h => h) (Or.inl ⟨by rfl, ?hye2⟩) hX0 ?ree2
        case hye2 => (intro wx hSx; clear hSx; go_simp; try (with_reducible rfl))
        refine wpAnyM_take (i := 3) (dst := some 35) (v := .int .u8 (s31.toNat : Int)) rfl rfl (by kernel_rfl) (by kernel_rfl) (by kernel_rfl) (by kernel_rfl) (by kernel_rfl) (fun _ _ _ h => h) (Or.inl ⟨by rfl, ?hye3⟩) hX0 ?ree3
        case hye3 => exact fun wx _ => by go_simp; try (with_reducible rfl)
        simp only [Act.put, List.setIfInBounds_toArray, List.set_cons_zero, List.set_cons_succ]
        refine wpAnyM_take (i := 4) (dst := some 36) (v := .int .u8 (hb.toNat : Int)) rfl rfl (by kernel_rfl) (by kernel_rfl) (by kernel_rfl) (by kernel_rfl) (by kernel_rfl) (fun _ _ _ h => h) (Or.inl ⟨by rfl, ?hye4⟩) hX0 ?ree4
        case hye4 => exact fun wx _ => by go_simp; try (with_reducible rfl)
        try simp only [Act.put, List.setIfInBounds_toArray, List.set_cons_zero, List.set_cons_succ]
        refine wpAnyM_one (i := 1) (by kernel_rfl) rfl (fun K hK => ?_)
        go_simp
        go_wp2_with (go_at_call 61; refine (J2.out _).mono ?_; rintro e ex0 ⟨rfl, k0⟩)
        have hX1 := hX0.keep k0
        refine hK.out _ _ hX1 ?_
        try simp only [Act.put, List.setIfInBounds_toArray, List.set_cons_zero, List.set_cons_succ]
        clear hK K k0 hX0
        have hl := hl'.out
        rw [hl]
        refine wpAnyM_take (i := 5) (dst := some 37) (v := .bool false) rfl rfl (by kernel_rfl) (by kernel_rfl) (by kernel_rfl) (by kernel_rfl) (by kernel_rfl) (fun _ _ _ h => h) (Or.inl ⟨by rfl, ?hye5⟩) hX1 ?ree5
        case hye5 => (intro wx hSx; clear hSx; go_simp; try (with_reducible rfl))
        simp only [Act.put, List.setIfInBounds_toArray, List.set_cons_zero, List.set_cons_succ]
        refine wpAnyM_done (by kernel_rfl) ?_ _
        clear hl
        go_wp2_with fail
        refine wp_region_M (S := WD w (w.heap.size) [(q7, Ws RT, 58), (q6, Ws XX, 58), (q5, Ws YY, 58), (q4, Ws Y, 58), (w.heap.size, Ws ZO, 60)]) (ls := [5]) (by kernel_rfl) ?_
        have hX10 : WD w (w.heap.size) [(q7, Ws RT, 58), (q6, Ws XX, 58), (q5, Ws YY, 58), (q4, Ws Y, 58), (w.heap.size, Ws ZO, 60)] ex0.drew := hX1.drew
        clear hX1
        generalize World.drew ex0 = gd at hX10 ⊢
        refine wpAnyM_take (i := 0) (dst := some 40) (v := .agg (Ws RT)) rfl rfl (by kernel_rfl) (by kernel_rfl) (by kernel_rfl) (by kernel_rfl) (by kernel_rfl) (fun _ _ _ h => h) (Or.inl ⟨by rfl, ?hyg0⟩) hX10 ?reg0
        case hyg0 => exact fun wx hSx => exec_load_row 58 _ rfl (q7) rfl 58 _ (0, 0) _ (hSx.get 0 rfl) Tryd.underlying58 rfl (by rw [sRT]; exact Tryd.infoF5)
        refine wpAnyM_take (i := 1) (dst := some 41) (v := .agg (Ws Y)) rfl rfl (by kernel_rfl) (by kernel_rfl) (by kernel_rfl) (by kernel_rfl) (by kernel_rfl) (fun _ _ _ h => h) (Or.inl ⟨by rfl, ?hyg1⟩) hX10 ?reg1
        case hyg1 => exact fun wx hSx => exec_load_row 58 _ rfl (q4) rfl 58 _ (0, 0) _ (hSx.get 3 rfl) Tryd.underlying58 rfl (by rw [sY]; exact Tryd.infoF5)
        try simp only [Act.put, List.setIfInBounds_toArray, List.set_cons_zero, List.set_cons_succ]
        change wpAnyM _ _ _ _ _ _ 4 #[true, true, false, false, false, false] _ _
        refine wpAnyM_phaseU2 (R := fun d u w' => (d 2 = true → u 42 = .agg (Ws ON)) ∧ (d 3 = true → u 43 = .agg (Ws P1)) ∧ (d 4 = true → Fresh w (w.heap.size) [(q7, Ws RT, 58), (q6, Ws XX, 58), (q5, Ws YY, 58), (q4, Ws Y, 58), (w.heap.size, Ws ZO, 60)] (Ws ZO) 60 (u 9) w') ∧ WD w (w.heap.size) [(q7, Ws RT, 58), (q6, Ws XX, 58), (q5, Ws YY, 58), (q4, Ws Y, 58), (w.heap.size, Ws ZO, 60)] w') [42, 43, 9] [2, 3, 4] #[true, true, true, true, true, false] (by kernel_rfl) (by kernel_rfl) (by kernel_rfl) ⟨fun h => Bool.noConfusion h, fun h => Bool.noConfusion h, fun h => Bool.noConfusion h, hX10⟩ ?stepsg ?fing
        case stepsg =>
          refine StepsU.cons rfl ?sg2 (StepsU.cons rfl ?sg3 (StepsU.cons rfl ?sg4 StepsU.nil))
          case sg2 =>
            rintro d u wx ⟨h2, h3, h4, hX⟩ hd K hK
            simp only [layS, List.foldl, Act.put, List.setIfInBounds_toArray, List.set_cons_zero, List.set_cons_succ]
            go_simp
            go_wp2_with (go_at_call 56; refine (H3.out _).mono ?_; rintro e x0 ⟨rfl, k0⟩)
            refine hK.out (upV u 42 (.agg (Ws ON))) _ (hX.keep k0) ⟨fun _ => rfl, fun h => h3 h, fun h => (h4 h).keep k0, hX.keep k0⟩ _ ?_
            simp only [layS, List.foldl, Act.put, List.setIfInBounds_toArray, List.set_cons_zero, List.set_cons_succ, upV, reduceIte, Nat.reduceEqDiff]
          case sg3 =>
            rintro d u wx ⟨h2, h3, h4, hX⟩ hd K hK
            have e2 := h2 (hd 2 (by kernel_rfl))
            simp only [layS, List.foldl, Act.put, List.setIfInBounds_toArray, List.set_cons_zero, List.set_cons_succ, e2]
            rw [if_pos (by rfl)]
            unfold Oper.wp
            rw [exec_made 60 _ rfl [(0, .agg (Ws RT)), (1, .agg (Ws Y)), (2, .agg (Ws ON))] rfl _ (B1.out wx)]
            refine hK.out (upV u 43 (.agg (Ws P1))) _ hX ⟨fun h => h2 h, fun _ => rfl, fun h => h4 h, hX⟩ _ ?_
            simp only [layS, List.foldl, Act.put, List.setIfInBounds_toArray, List.set_cons_zero, List.set_cons_succ, upV, reduceIte, Nat.reduceEqDiff, e2]
            rfl
          case sg4 =>
            rintro d u wx ⟨h2, h3, h4, hX⟩ hd K hK
            simp only [layS, List.foldl, Act.put, List.setIfInBounds_toArray, List.set_cons_zero, List.set_cons_succ]
            go_simp
            refine hK.out (upV u 9 (.pointer (some ⟨wx.heap.size, 0, none⟩))) _ (hX.alloc _) ⟨fun h => h2 h, fun h => h3 h, fun _ => FreshD hX _ _, hX.alloc _⟩ _ ?_
            simp only [layS, List.foldl, Act.put, List.setIfInBounds_toArray, List.set_cons_zero, List.set_cons_succ, upV, reduceIte, Nat.reduceEqDiff]
        case fing =>
          rintro n' d u gx ⟨h2, h3, h4, hX⟩ hd
          have e42 := h2 (hd 2 rfl)
          have e43 := h3 (hd 3 rfl)
          obtain ⟨q9, e9, bq9, lq9, mq9⟩ := h4 (hd 4 rfl)
          simp only [layS, List.foldl, Act.put, List.setIfInBounds_toArray, List.set_cons_zero, List.set_cons_succ, e42, e43, e9]
          clear hd h2 h3 h4 e42 e43 e9
          change wpAnyM _ _ _ _ _ _ (n' + 1) _ _ _
          replace hX := hX.push bq9 mq9 (fun x hx => Nat.ne_of_lt (lq9 x hx))
          clear bq9 lq9 mq9
          refine wpAnyM_late (i := 5) (by kernel_rfl) rfl rfl (fun K hK => ?_)
          have hst := storeRow (l := P1) (hX.get 0 rfl) (by rw [sZ', lP1])
          go_simp
          refine hK.out _ _ ?_
          clear hK K hst
          replace hX : WD w (w.heap.size) [(q9, Ws P1, 60), (q7, Ws RT, 58), (q6, Ws XX, 58), (q5, Ws YY, 58), (q4, Ws Y, 58), (w.heap.size, Ws ZO, 60)] (gx.setRow (q9) (Ws P1)) := hX.over 0 rfl (Ws P1)
          generalize gx.setRow (q9) (Ws P1) = gy0 at hX ⊢
          refine wpAnyM_done (by kernel_rfl) ?_ _
          have g0 := hX.get 0 rfl
          dsimp only at g0
          unfold Blk at g0
          go_wp2_with (first
            | (refine wpList_load_row rfl 60 _ rfl q9 rfl 60 _ (0, 0) _ g0 Tryd.underlying60 rfl (by rw [sP1]; exact Tryd.infoP15) ?_))
          clear g0
          refine (J4.out _).mono ?_
          rintro e w9 ⟨rfl, k9⟩
          replace hX := hX.keep k9
          clear k9
          by_cases hT : T1 = s
          · have hT' : Hid (T1 = s) := hT
            clear hT
            have g0 := hX.get 0 rfl
            have g1 := hX.get 5 rfl
            dsimp only at g0 g1
            unfold Blk at g0 g1
            rw [hT'.out]
            go_wp2_with (first
              | (refine wpList_load_row rfl 60 _ rfl q9 rfl 60 _ (0, 0) _ g0 Tryd.underlying60 rfl (by rw [sP1]; exact Tryd.infoP15) ?_)
              | (refine wpList_store_row rfl 60 _ _ rfl w.heap.size _ rfl rfl 60 _ g1 (by rw [sP1]; exact Tryd.infoP15) (by rw [sP1, sZ']) (Ws_one _) ?_))
            have hE := hX.over 5 rfl (Ws P1)
            refine bodyPost_ret (v := .tuple #[.agg (Ws P1), .bool true]) ?_ rfl ⟨by rw [v1.out trivial hl'.out hT'.out], hE.below⟩
            exact results_cell_slot rfl _ _ w.heap.size 60 _ (0, 0) _ (.bool true) rfl rfl (hE.get 5 rfl) Tryd.underlying60 rfl (by rw [sP1]; exact Tryd.infoP15)
          · have hcmp := bytes_ne hT
            have g0 := hX.get 5 rfl
            dsimp only at g0
            unfold Blk at g0
            go_wp2_with (first
              | (refine wpList_made rfl 60 _ rfl [] rfl _ (hbn.out _) ?_)
              | (refine wpList_store_row rfl 60 _ _ rfl w.heap.size _ rfl rfl 60 _ g0 (by rw [sZ']; exact Tryd.infoP15) rfl (Ws_one _) ?_))
            have hE := hX.over 5 rfl (Ws ZO)
            refine bodyPost_ret (v := .tuple #[.agg (Ws ZO), .bool false]) ?_ rfl ⟨by rw [v2.out trivial hl'.out hT], hE.below⟩
            exact results_cell_slot rfl _ _ w.heap.size 60 _ (0, 0) _ (.bool false) rfl rfl (hE.get 5 rfl) Tryd.underlying60 rfl (by rw [sZ']; exact Tryd.infoP15)
      · have hl' : Hid (¬ lb = hb) := hl
        have hln : ¬ (lb.toNat : Int) = (hb.toNat : Int) := fun e => hl (UInt8.toNat.inj (by omega))
        clear hl
        refine wp_region_M (S := WD w (w.heap.size) [(q7, Ws RT, 58), (q6, Ws XX, 58), (q5, Ws YY, 58), (q4, Ws Y, 58), (w.heap.size, Ws ZO, 60)]) (ls := []) (by kernel_rfl) ?_
        have hX0 : WD w (w.heap.size) [(q7, Ws RT, 58), (q6, Ws XX, 58), (q5, Ws YY, 58), (q4, Ws Y, 58), (w.heap.size, Ws ZO, 60)] w7.drew := hX.drew
        clear hX
        generalize World.drew w7 = fd at hX0 ⊢
        refine wpAnyM_take (i := 0) (dst := some 32) (v := .agg (Ws RT)) rfl rfl (by kernel_rfl) (by kernel_rfl) (by kernel_rfl) (by kernel_rfl) (by kernel_rfl) (fun _ _ _ h => h) (Or.inl ⟨by rfl, ?hyf0⟩) hX0 ?ref0
        case hyf0 => exact fun wx hSx => exec_load_row 58 _ rfl (q7) rfl 58 _ (0, 0) _ (hSx.get 0 rfl) Tryd.underlying58 rfl (by rw [sRT]; exact Tryd.infoF5)
        refine wpAnyM_take (i := 2) (dst := some 34) (v := ?vf2) rfl rfl (by kernel_rfl) (by kernel_rfl) (by kernel_rfl) (by kernel_rfl) (by kernel_rfl) (fun _ _ _ h => h) (Or.inl ⟨by rfl, ?hyf2⟩) hX0 ?ref2
        case hyf2 => (intro wx hSx; clear hSx; go_simp; try (with_reducible rfl))
        refine wpAnyM_take (i := 3) (dst := some 35) (v := .int .u8 (s31.toNat : Int)) rfl rfl (by kernel_rfl) (by kernel_rfl) (by kernel_rfl) (by kernel_rfl) (by kernel_rfl) (fun _ _ _ h => h) (Or.inl ⟨by rfl, ?hyf3⟩) hX0 ?ref3
        case hyf3 => exact fun wx _ => by go_simp; try (with_reducible rfl)
        simp only [Act.put, List.setIfInBounds_toArray, List.set_cons_zero, List.set_cons_succ]
        refine wpAnyM_take (i := 4) (dst := some 36) (v := .int .u8 (hb.toNat : Int)) rfl rfl (by kernel_rfl) (by kernel_rfl) (by kernel_rfl) (by kernel_rfl) (by kernel_rfl) (fun _ _ _ h => h) (Or.inl ⟨by rfl, ?hyf4⟩) hX0 ?ref4
        case hyf4 => exact fun wx _ => by go_simp; try (with_reducible rfl)
        try simp only [Act.put, List.setIfInBounds_toArray, List.set_cons_zero, List.set_cons_succ]
        refine wpAnyM_one (i := 1) (by kernel_rfl) rfl (fun K hK => ?_)
        go_simp
        go_wp2_with (go_at_call 61; refine (J2.out _).mono ?_; rintro e fx0 ⟨rfl, k0⟩)
        have hX1 := hX0.keep k0
        refine hK.out _ _ hX1 ?_
        try simp only [Act.put, List.setIfInBounds_toArray, List.set_cons_zero, List.set_cons_succ]
        clear hK K k0 hX0
        refine wpAnyM_take (i := 5) (dst := some 37) (v := .bool true) rfl rfl (by kernel_rfl) (by kernel_rfl) (by kernel_rfl) (by kernel_rfl) (by kernel_rfl) (fun _ _ _ h => h) (Or.inl ⟨by rfl, ?hyf5⟩) hX1 ?ref5
        case hyf5 => (intro wx hSx; clear hSx; go_simp; try (with_reducible rfl))
        simp only [Act.put, List.setIfInBounds_toArray, List.set_cons_zero, List.set_cons_succ]
        refine wpAnyM_done (by kernel_rfl) ?_ _
        clear hln
        have g0 := hX1.get 0 rfl
        dsimp only at g0
        unfold Blk at g0
        go_wp2_with (first
          | (refine wpList_load_row rfl 58 _ rfl q7 rfl 58 _ (0, 0) _ g0 Tryd.underlying58 rfl (by rw [sRT]; exact Tryd.infoF5) ?_))
        clear g0
        refine (J3.out _).mono ?_
        rintro e w8 ⟨rfl, k8⟩
        replace hX1 := hX1.keep k8
        clear k8
        have g0 := hX1.get 0 rfl
        dsimp only at g0
        unfold Blk at g0
        go_wp2_with (first
          | (refine wpList_store_row rfl 58 _ _ rfl q7 _ rfl rfl 58 _ g0 (by rw [sNG]; exact Tryd.infoF5) (by rw [sNG, sRT]) (Ws_one _) ?_))
        clear g0
        replace hX1 : WD w (w.heap.size) [(q7, Ws NG, 58), (q6, Ws XX, 58), (q5, Ws YY, 58), (q4, Ws Y, 58), (w.heap.size, Ws ZO, 60)] (w8.setRow q7 (Ws NG)) := hX1.over 0 rfl (Ws NG)
        generalize w8.setRow q7 (Ws NG) = wv at hX1 ⊢
        refine wp_region_M (S := WD w (w.heap.size) [(q7, Ws NG, 58), (q6, Ws XX, 58), (q5, Ws YY, 58), (q4, Ws Y, 58), (w.heap.size, Ws ZO, 60)]) (ls := [5]) (by kernel_rfl) ?_
        have hX10 : WD w (w.heap.size) [(q7, Ws NG, 58), (q6, Ws XX, 58), (q5, Ws YY, 58), (q4, Ws Y, 58), (w.heap.size, Ws ZO, 60)] wv.drew := hX1.drew
        clear hX1
        generalize World.drew wv = hd at hX10 ⊢
        refine wpAnyM_take (i := 0) (dst := some 40) (v := .agg (Ws NG)) rfl rfl (by kernel_rfl) (by kernel_rfl) (by kernel_rfl) (by kernel_rfl) (by kernel_rfl) (fun _ _ _ h => h) (Or.inl ⟨by rfl, ?hyh0⟩) hX10 ?reh0
        case hyh0 => exact fun wx hSx => exec_load_row 58 _ rfl (q7) rfl 58 _ (0, 0) _ (hSx.get 0 rfl) Tryd.underlying58 rfl (by rw [sNG]; exact Tryd.infoF5)
        refine wpAnyM_take (i := 1) (dst := some 41) (v := .agg (Ws Y)) rfl rfl (by kernel_rfl) (by kernel_rfl) (by kernel_rfl) (by kernel_rfl) (by kernel_rfl) (fun _ _ _ h => h) (Or.inl ⟨by rfl, ?hyh1⟩) hX10 ?reh1
        case hyh1 => exact fun wx hSx => exec_load_row 58 _ rfl (q4) rfl 58 _ (0, 0) _ (hSx.get 3 rfl) Tryd.underlying58 rfl (by rw [sY]; exact Tryd.infoF5)
        try simp only [Act.put, List.setIfInBounds_toArray, List.set_cons_zero, List.set_cons_succ]
        change wpAnyM _ _ _ _ _ _ 4 #[true, true, false, false, false, false] _ _
        refine wpAnyM_phaseU2 (R := fun d u w' => (d 2 = true → u 42 = .agg (Ws ON)) ∧ (d 3 = true → u 43 = .agg (Ws P2)) ∧ (d 4 = true → Fresh w (w.heap.size) [(q7, Ws NG, 58), (q6, Ws XX, 58), (q5, Ws YY, 58), (q4, Ws Y, 58), (w.heap.size, Ws ZO, 60)] (Ws ZO) 60 (u 9) w') ∧ WD w (w.heap.size) [(q7, Ws NG, 58), (q6, Ws XX, 58), (q5, Ws YY, 58), (q4, Ws Y, 58), (w.heap.size, Ws ZO, 60)] w') [42, 43, 9] [2, 3, 4] #[true, true, true, true, true, false] (by kernel_rfl) (by kernel_rfl) (by kernel_rfl) ⟨fun h => Bool.noConfusion h, fun h => Bool.noConfusion h, fun h => Bool.noConfusion h, hX10⟩ ?stepsh ?finh
        case stepsh =>
          refine StepsU.cons rfl ?sh2 (StepsU.cons rfl ?sh3 (StepsU.cons rfl ?sh4 StepsU.nil))
          case sh2 =>
            rintro d u wx ⟨h2, h3, h4, hX⟩ hd K hK
            simp only [layS, List.foldl, Act.put, List.setIfInBounds_toArray, List.set_cons_zero, List.set_cons_succ]
            go_simp
            go_wp2_with (go_at_call 56; refine (H3.out _).mono ?_; rintro e x0 ⟨rfl, k0⟩)
            refine hK.out (upV u 42 (.agg (Ws ON))) _ (hX.keep k0) ⟨fun _ => rfl, fun h => h3 h, fun h => (h4 h).keep k0, hX.keep k0⟩ _ ?_
            simp only [layS, List.foldl, Act.put, List.setIfInBounds_toArray, List.set_cons_zero, List.set_cons_succ, upV, reduceIte, Nat.reduceEqDiff]
          case sh3 =>
            rintro d u wx ⟨h2, h3, h4, hX⟩ hd K hK
            have e2 := h2 (hd 2 (by kernel_rfl))
            simp only [layS, List.foldl, Act.put, List.setIfInBounds_toArray, List.set_cons_zero, List.set_cons_succ, e2]
            rw [if_pos (by rfl)]
            unfold Oper.wp
            rw [exec_made 60 _ rfl [(0, .agg (Ws NG)), (1, .agg (Ws Y)), (2, .agg (Ws ON))] rfl _ (B2.out wx)]
            refine hK.out (upV u 43 (.agg (Ws P2))) _ hX ⟨fun h => h2 h, fun _ => rfl, fun h => h4 h, hX⟩ _ ?_
            simp only [layS, List.foldl, Act.put, List.setIfInBounds_toArray, List.set_cons_zero, List.set_cons_succ, upV, reduceIte, Nat.reduceEqDiff, e2]
            rfl
          case sh4 =>
            rintro d u wx ⟨h2, h3, h4, hX⟩ hd K hK
            simp only [layS, List.foldl, Act.put, List.setIfInBounds_toArray, List.set_cons_zero, List.set_cons_succ]
            go_simp
            refine hK.out (upV u 9 (.pointer (some ⟨wx.heap.size, 0, none⟩))) _ (hX.alloc _) ⟨fun h => h2 h, fun h => h3 h, fun _ => FreshD hX _ _, hX.alloc _⟩ _ ?_
            simp only [layS, List.foldl, Act.put, List.setIfInBounds_toArray, List.set_cons_zero, List.set_cons_succ, upV, reduceIte, Nat.reduceEqDiff]
        case finh =>
          rintro n' d u hx ⟨h2, h3, h4, hX⟩ hd
          have e42 := h2 (hd 2 rfl)
          have e43 := h3 (hd 3 rfl)
          obtain ⟨q9, e9, bq9, lq9, mq9⟩ := h4 (hd 4 rfl)
          simp only [layS, List.foldl, Act.put, List.setIfInBounds_toArray, List.set_cons_zero, List.set_cons_succ, e42, e43, e9]
          clear hd h2 h3 h4 e42 e43 e9
          change wpAnyM _ _ _ _ _ _ (n' + 1) _ _ _
          replace hX := hX.push bq9 mq9 (fun x hx => Nat.ne_of_lt (lq9 x hx))
          clear bq9 lq9 mq9
          refine wpAnyM_late (i := 5) (by kernel_rfl) rfl rfl (fun K hK => ?_)
          have hst := storeRow (l := P2) (hX.get 0 rfl) (by rw [sZ', lP2])
          go_simp
          refine hK.out _ _ ?_
          clear hK K hst
          replace hX : WD w (w.heap.size) [(q9, Ws P2, 60), (q7, Ws NG, 58), (q6, Ws XX, 58), (q5, Ws YY, 58), (q4, Ws Y, 58), (w.heap.size, Ws ZO, 60)] (hx.setRow (q9) (Ws P2)) := hX.over 0 rfl (Ws P2)
          generalize hx.setRow (q9) (Ws P2) = hy0 at hX ⊢
          refine wpAnyM_done (by kernel_rfl) ?_ _
          have g0 := hX.get 0 rfl
          dsimp only at g0
          unfold Blk at g0
          go_wp2_with (first
            | (refine wpList_load_row rfl 60 _ rfl q9 rfl 60 _ (0, 0) _ g0 Tryd.underlying60 rfl (by rw [sP2]; exact Tryd.infoP15) ?_))
          clear g0
          refine (J5.out _).mono ?_
          rintro e w9 ⟨rfl, k9⟩
          replace hX := hX.keep k9
          clear k9
          by_cases hT : T2 = s
          · have hT' : Hid (T2 = s) := hT
            clear hT
            have g0 := hX.get 0 rfl
            have g1 := hX.get 5 rfl
            dsimp only at g0 g1
            unfold Blk at g0 g1
            rw [hT'.out]
            go_wp2_with (first
              | (refine wpList_load_row rfl 60 _ rfl q9 rfl 60 _ (0, 0) _ g0 Tryd.underlying60 rfl (by rw [sP2]; exact Tryd.infoP15) ?_)
              | (refine wpList_store_row rfl 60 _ _ rfl w.heap.size _ rfl rfl 60 _ g1 (by rw [sP2]; exact Tryd.infoP15) (by rw [sP2, sZ']) (Ws_one _) ?_))
            have hE := hX.over 5 rfl (Ws P2)
            refine bodyPost_ret (v := .tuple #[.agg (Ws P2), .bool true]) ?_ rfl ⟨by rw [v3.out trivial hl'.out hT'.out], hE.below⟩
            exact results_cell_slot rfl _ _ w.heap.size 60 _ (0, 0) _ (.bool true) rfl rfl (hE.get 5 rfl) Tryd.underlying60 rfl (by rw [sP2]; exact Tryd.infoP15)
          · have hcmp := bytes_ne hT
            have g0 := hX.get 5 rfl
            dsimp only at g0
            unfold Blk at g0
            go_wp2_with (first
              | (refine wpList_made rfl 60 _ rfl [] rfl _ (hbn.out _) ?_)
              | (refine wpList_store_row rfl 60 _ _ rfl w.heap.size _ rfl rfl 60 _ g0 (by rw [sZ']; exact Tryd.infoP15) rfl (Ws_one _) ?_))
            have hE := hX.over 5 rfl (Ws ZO)
            refine bodyPost_ret (v := .tuple #[.agg (Ws ZO), .bool false]) ?_ rfl ⟨by rw [v4.out trivial hl'.out hT], hE.below⟩
            exact results_cell_slot rfl _ _ w.heap.size 60 _ (0, 0) _ (.bool false) rfl rfl (hE.get 5 rfl) Tryd.underlying60 rfl (by rw [sZ']; exact Tryd.infoP15)
end Go.Proofs.YtclpbaokadfhhaaDoor
