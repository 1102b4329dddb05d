/- Contract of sign's Of. -/
import Derived.Test.YtclpbaokadfhhaaDoorSn2
namespace Go.Proofs.YtclpbaokadfhhaaDoor
open Go.RowKit

set_option maxRecDepth 100000 in
set_option maxHeartbeats 8000000 in
theorem N_sign' (K : Nat → BitVec 64) (seed data rr ri rd d1 fb lb : ByteArray) (S ON rB rF TI TS LA : List (BitVec 64)) (w : World) (hK : Hid (Tab K w))
    (H1 : Hid (∀ wx : World, Tab K wx → Calls Tryd.prog 32 #[.string seed] wx fun e w' => e = .returned (.agg (sgr S rr ri)) ∧ Below wx.heap.size wx w'))
    (H2 : Hid (∀ wx : World, Tab K wx → Calls Tryd.prog 19 #[.string rd] wx fun e w' => e = .returned (.string d1) ∧ Below wx.heap.size wx w'))
    (H3 : Hid (∀ wx : World, Calls Tryd.prog 33 #[.string d1] wx fun e w' => e = .returned (.agg (Ws ON)) ∧ Below wx.heap.size wx w'))
    (H4 : Hid (∀ wx : World, Calls Tryd.prog 34 #[] wx fun e w' => e = .returned (.agg (Ws rB)) ∧ Below wx.heap.size wx w'))
    (H5 : Hid (∀ wx : World, Calls Tryd.prog 35 #[.agg (Ws rB), .agg (Ws ON)] wx fun e w' => e = .returned (.agg (Ws rF)) ∧ Below wx.heap.size wx w'))
    (H6 : Hid (∀ wx : World, Calls Tryd.prog 36 #[.agg (Ws rF)] wx fun e w' => e = .returned (.string fb) ∧ Below wx.heap.size wx w'))
    (H7 : Hid (∀ wx : World, Tab K wx → Calls Tryd.prog 38 #[.string fb, .string ri, .string data] wx fun e w' => e = .returned (.agg (Ws TI)) ∧ Below wx.heap.size wx w'))
    (H8 : Hid (∀ wx : World, Calls Tryd.prog 39 #[.agg (Ws TI), .agg (Ws S)] wx fun e w' => e = .returned (.agg (Ws TS)) ∧ Below wx.heap.size wx w'))
    (H9 : Hid (∀ wx : World, Calls Tryd.prog 37 #[.agg (Ws ON), .agg (Ws TS)] wx fun e w' => e = .returned (.agg (Ws LA)) ∧ Below wx.heap.size wx w'))
    (J1 : Hid (∀ wx : World, Calls Tryd.prog 40 #[.agg (Ws LA)] wx fun e w' => e = .returned (.string lb) ∧ Below wx.heap.size wx w'))
    (hS : S.length = 4) (hON : ON.length = 4) (hLA : LA.length = 4) (o1 : Op.stringOp .add rr data = pure (.string rd)) (o2 : Op.stringOp .add fb lb = pure (.string (fb ++ lb))) :
    Calls Tryd.prog 23 #[.string seed, .string data] w fun e w' => e = .returned (.string (fb ++ lb)) ∧ Below w.heap.size w w' := by
  have hK9 := hK
  have sON : (Ws ON).size = 4 := by rw [Ws_size, hON]
  have sLA : (Ws LA).size = 4 := by rw [Ws_size, hLA]
  have sS : (Ws S).size = 4 := by rw [Ws_size, hS]
  have sG := sgr_size S rr ri
  have oG := sgr_one S rr ri
  have g4 : (sgr S rr ri)[4]? = some (.string rr) := rfl
  have g5 : (sgr S rr ri)[5]? = some (.string ri) := rfl
  have hrg : Hid (∀ (w : World) (b t : Nat), Blk w b (sgr S rr ri) t → w.rangeAt b 0 (Ws S).toList) := fun w b t h => sgr_range h hS
  generalize sgr S rr ri = SG at H1 sG oG g4 g5 hrg
  generalize fb ++ lb = res at o2 ⊢
  go_enter Tryd.func23, Tryd.ntmps23
  go_wp2_with fail
  refine (H1.out _ hK.out).mono ?_
  rintro e w2 ⟨rfl, k2⟩
  have hW := (WD.start (w := w)).keep k2
  clear k2
  have hN := hW.new #[.int .u64 0, .int .u64 0, .int .u64 0, .int .u64 0, .string ⟨#[]⟩, .string ⟨#[]⟩] 54
  have gz := hN.get 0 rfl
  dsimp only at gz
  unfold Blk at gz
  replace hW : WD w w.heap.size [(w2.heap.size, SG, 54)] ((w2.alloc (.cells #[.int .u64 0, .int .u64 0, .int .u64 0, .int .u64 0, .string ⟨#[]⟩, .string ⟨#[]⟩] 54)).setRow w2.heap.size SG) := hN.over 0 rfl SG
  have c4 := (hW.get 0 rfl).cell 4
  dsimp only at c4
  rw [g4] at c4
  go_wp2_with (first
    | (refine wpList_store_row rfl 54 _ _ rfl w2.heap.size SG rfl rfl 54 _ gz (by rw [sG]; exact Tryd.infoG6) (by rw [sG]; rfl) oG ?_))
  clear hN gz c4
  generalize (w2.alloc (.cells #[.int .u64 0, .int .u64 0, .int .u64 0, .int .u64 0, .string ⟨#[]⟩, .string ⟨#[]⟩] 54)).setRow w2.heap.size SG = w3 at hW ⊢
  generalize w2.heap.size = q5 at hW ⊢
  refine (H2.out _ (hK.out.below hW.below)).mono ?_
  rintro e w4 ⟨rfl, k4⟩
  replace hW := hW.keep k4
  clear k4
  go_wp2_with fail
  refine (H3.out _).mono ?_
  rintro e w5 ⟨rfl, k5⟩
  replace hW := hW.keep k5
  clear k5
  have hN := hW.new #[.int .u64 0, .int .u64 0, .int .u64 0, .int .u64 0] 52
  have gz := hN.get 0 rfl
  dsimp only at gz
  unfold Blk at gz
  go_wp2_with (first
    | (refine wpList_store_row rfl 52 _ _ rfl w5.heap.size _ rfl rfl 52 _ gz (by rw [sON]; exact Tryd.infoS4) (by rw [sON]; rfl) (Ws_one _) ?_))
  replace hW : WD w w.heap.size [(w5.heap.size, Ws ON, 52), (q5, SG, 54)] ((w5.alloc (.cells #[.int .u64 0, .int .u64 0, .int .u64 0, .int .u64 0] 52)).setRow w5.heap.size (Ws ON)) := hN.over 0 rfl (Ws ON)
  clear hN gz
  generalize (w5.alloc (.cells #[.int .u64 0, .int .u64 0, .int .u64 0, .int .u64 0] 52)).setRow w5.heap.size (Ws ON) = w6 at hW ⊢
  generalize w5.heap.size = q6 at hW ⊢
  refine wp_region_M (S := WD w (w.heap.size) [(q6, Ws ON, 52), (q5, SG, 54)]) (ls := []) (by kernel_rfl) ?_
  have hW0 : WD w (w.heap.size) [(q6, Ws ON, 52), (q5, SG, 54)] w6.drew := hW.drew
  clear hW
  generalize World.drew w6 = ad at hW0 ⊢
  refine wpAnyM_take (i := 1) (dst := some 18) (v := .agg (Ws ON)) rfl rfl (by kernel_rfl) (by kernel_rfl) (by kernel_rfl) (by kernel_rfl) (by kernel_rfl) (fun _ _ _ h => h) (Or.inl ⟨by rfl, ?hya1⟩) hW0 ?rea1
  case hya1 => exact fun wx hSx => exec_load_row 52 _ rfl (q6) rfl 52 _ (0, 0) _ (hSx.get 0 rfl) Tryd.underlying52 rfl (by rw [sON]; exact Tryd.infoS4)
  try simp only [Act.put, List.setIfInBounds_toArray, List.set_cons_zero, List.set_cons_succ]
  refine wpAnyM_one (i := 0) (by kernel_rfl) rfl (fun K hK => ?_)
  go_simp
  go_wp2_with (go_at_call 34; refine (H4.out _).mono ?_; rintro e ax0 ⟨rfl, k0⟩)
  have hW1 := hW0.keep k0
  refine hK.out _ _ hW1 ?_
  try simp only [Act.put, List.setIfInBounds_toArray, List.set_cons_zero, List.set_cons_succ]
  clear hK K k0 hW0
  refine wpAnyM_one (i := 2) (by kernel_rfl) rfl (fun K hK => ?_)
  go_simp
  go_wp2_with (go_at_call 35; refine (H5.out _).mono ?_; rintro e ax1 ⟨rfl, k0⟩)
  have hW2 := hW1.keep k0
  refine hK.out _ _ hW2 ?_
  try simp only [Act.put, List.setIfInBounds_toArray, List.set_cons_zero, List.set_cons_succ]
  clear hK K k0 hW1
  refine wpAnyM_one (i := 3) (by kernel_rfl) rfl (fun K hK => ?_)
  go_simp
  go_wp2_with (go_at_call 36; refine (H6.out _).mono ?_; rintro e ax2 ⟨rfl, k0⟩)
  have hW3 := hW2.keep k0
  refine hK.out _ _ hW3 ?_
  try simp only [Act.put, List.setIfInBounds_toArray, List.set_cons_zero, List.set_cons_succ]
  clear hK K k0 hW2
  refine wpAnyM_take (i := 4) (dst := some 7) (v := .string fb) rfl rfl (by kernel_rfl) (by kernel_rfl) (by kernel_rfl) (by kernel_rfl) (by kernel_rfl) (fun _ _ _ h => h) (Or.inl ⟨by rfl, ?hya4⟩) hW3 ?rea4
  case hya4 => (intro wx hSx; clear hSx; go_simp; try (with_reducible rfl))
  try simp only [Act.put, List.setIfInBounds_toArray, List.set_cons_zero, List.set_cons_succ]
  refine wpAnyM_done (by kernel_rfl) ?_ _
  go_wp2_with fail
  refine wp_region_M (S := WD w (w.heap.size) [(q6, Ws ON, 52), (q5, SG, 54)]) (ls := [11]) (by kernel_rfl) ?_
  have hW30 : WD w (w.heap.size) [(q6, Ws ON, 52), (q5, SG, 54)] ax2.drew := hW3.drew
  clear hW3
  generalize World.drew ax2 = bd at hW30 ⊢
  refine wpAnyM_take (i := 0) (dst := some 21) (v := .agg (Ws ON)) rfl rfl (by kernel_rfl) (by kernel_rfl) (by kernel_rfl) (by kernel_rfl) (by kernel_rfl) (fun _ _ _ h => h) (Or.inl ⟨by rfl, ?hyb0⟩) hW30 ?reb0
  case hyb0 => exact fun wx hSx => exec_load_row 52 _ rfl (q6) rfl 52 _ (0, 0) _ (hSx.get 0 rfl) Tryd.underlying52 rfl (by rw [sON]; exact Tryd.infoS4)
  refine wpAnyM_take (i := 1) (dst := some 22) (v := ?vb1) rfl rfl (by kernel_rfl) (by kernel_rfl) (by kernel_rfl) (by kernel_rfl) (by kernel_rfl) (fun _ _ _ h => h) (Or.inl ⟨by rfl, ?hyb1⟩) hW30 ?reb1
  case hyb1 => (intro wx hSx; clear hSx; go_simp; try (with_reducible rfl))
  refine wpAnyM_take (i := 2) (dst := some 23) (v := ?vb2) rfl rfl (by kernel_rfl) (by kernel_rfl) (by kernel_rfl) (by kernel_rfl) (by kernel_rfl) (fun _ _ _ h => h) (Or.inl ⟨by rfl, ?hyb2⟩) hW30 ?reb2
  case hyb2 => (intro wx hSx; clear hSx; go_simp; try (with_reducible rfl))
  simp only [Act.put, List.setIfInBounds_toArray, List.set_cons_zero, List.set_cons_succ]
  refine wpAnyM_take (i := 3) (dst := some 24) (v := .string ri) rfl rfl (by kernel_rfl) (by kernel_rfl) (by kernel_rfl) (by kernel_rfl) (by kernel_rfl) (fun _ _ _ h => h) (Or.inl ⟨by rfl, ?hyb3⟩) hW30 ?reb3
  case hyb3 => exact fun wx hSx => (by have c5 := (hSx.get 1 rfl).cell 5; dsimp only at c5; rw [g5] at c5; clear hSx; go_simp; try (with_reducible rfl))
  refine wpAnyM_take (i := 4) (dst := some 25) (v := ?vb4) rfl rfl (by kernel_rfl) (by kernel_rfl) (by kernel_rfl) (by kernel_rfl) (by kernel_rfl) (fun _ _ _ h => h) (Or.inl ⟨by rfl, ?hyb4⟩) hW30 ?reb4
  case hyb4 => (intro wx hSx; clear hSx; go_simp; try (with_reducible rfl))
  refine wpAnyM_take (i := 6) (dst := some 27) (v := ?vb6) rfl rfl (by kernel_rfl) (by kernel_rfl) (by kernel_rfl) (by kernel_rfl) (by kernel_rfl) (fun _ _ _ h => h) (Or.inl ⟨by rfl, ?hyb6⟩) hW30 ?reb6
  case hyb6 => (intro wx hSx; clear hSx; go_simp; try (with_reducible rfl))
  simp only [Act.put, List.setIfInBounds_toArray, List.set_cons_zero, List.set_cons_succ]
  refine wpAnyM_take (i := 7) (dst := some 28) (v := .agg (Ws S)) rfl rfl (by kernel_rfl) (by kernel_rfl) (by kernel_rfl) (by kernel_rfl) (by kernel_rfl) (fun _ _ _ h => h) (Or.inl ⟨by rfl, ?hyb7⟩) hW30 ?reb7
  case hyb7 => exact fun wx hSx => exec_mid 52 _ rfl q5 0 rfl (Ws S) _ (hrg.out _ _ _ (hSx.get 1 rfl)) Tryd.underlying52 rfl (by rw [sS]; exact Tryd.infoS4)
  try simp only [Act.put, List.setIfInBounds_toArray, List.set_cons_zero, List.set_cons_succ]
  change wpAnyM _ _ _ _ _ _ 5 #[true, true, true, true, true, false, true, true, false, false, false, false] _ _
  refine wpAnyM_phaseU2 (R := fun d u w' => (d 5 = true → u 26 = .agg (Ws TI)) ∧ (d 8 = true → u 29 = .agg (Ws TS)) ∧ (d 9 = true → u 30 = .agg (Ws LA)) ∧ (d 10 = true → Fresh w (w.heap.size) [(q6, Ws ON, 52), (q5, SG, 54)] #[.int .u64 0, .int .u64 0, .int .u64 0, .int .u64 0] 52 (u 8) w') ∧ WD w (w.heap.size) [(q6, Ws ON, 52), (q5, SG, 54)] w') [26, 29, 30, 8] [5, 8, 9, 10] #[true, true, true, true, true, true, true, true, true, true, true, false] (by kernel_rfl) (by kernel_rfl) (by kernel_rfl) ⟨fun h => Bool.noConfusion h, fun h => Bool.noConfusion h, fun h => Bool.noConfusion h, fun h => Bool.noConfusion h, hW30⟩ ?stepsb ?finb
  case stepsb =>
    refine StepsU.cons rfl ?sb5 (StepsU.cons rfl ?sb8 (StepsU.cons rfl ?sb9 (StepsU.cons rfl ?sb10 StepsU.nil)))
    case sb5 =>
      rintro d u wx ⟨h5, h8, h9, h10, hX⟩ hd K hK
      simp only [layS, List.foldl, Act.put, List.setIfInBounds_toArray, List.set_cons_zero, List.set_cons_succ]
      go_simp
      go_wp2_with (go_at_call 38; refine (H7.out _ (hK9.out.below hX.below)).mono ?_; rintro e x0 ⟨rfl, k0⟩)
      refine hK.out (upV u 26 (.agg (Ws TI))) _ (hX.keep k0) ⟨fun _ => rfl, fun h => h8 h, fun h => h9 h, fun h => (h10 h).keep k0, hX.keep k0⟩ _ ?_
      simp only [layS, List.foldl, Act.put, List.setIfInBounds_toArray, List.set_cons_zero, List.set_cons_succ, upV, reduceIte, Nat.reduceEqDiff]
    case sb8 =>
      rintro d u wx ⟨h5, h8, h9, h10, hX⟩ hd K hK
      have e5 := h5 (hd 5 (by kernel_rfl))
      simp only [layS, List.foldl, Act.put, List.setIfInBounds_toArray, List.set_cons_zero, List.set_cons_succ, e5]
      go_simp
      go_wp2_with (go_at_call 39; refine (H8.out _).mono ?_; rintro e x0 ⟨rfl, k0⟩)
      refine hK.out (upV u 29 (.agg (Ws TS))) _ (hX.keep k0) ⟨fun h => h5 h, fun _ => rfl, fun h => h9 h, fun h => (h10 h).keep k0, hX.keep k0⟩ _ ?_
      simp only [layS, List.foldl, Act.put, List.setIfInBounds_toArray, List.set_cons_zero, List.set_cons_succ, upV, reduceIte, Nat.reduceEqDiff, e5]
    case sb9 =>
      rintro d u wx ⟨h5, h8, h9, h10, hX⟩ hd K hK
      have e8 := h8 (hd 8 (by kernel_rfl))
      simp only [layS, List.foldl, Act.put, List.setIfInBounds_toArray, List.set_cons_zero, List.set_cons_succ, e8]
      go_simp
      go_wp2_with (go_at_call 37; refine (H9.out _).mono ?_; rintro e x0 ⟨rfl, k0⟩)
      refine hK.out (upV u 30 (.agg (Ws LA))) _ (hX.keep k0) ⟨fun h => h5 h, fun h => h8 h, fun _ => rfl, fun h => (h10 h).keep k0, hX.keep k0⟩ _ ?_
      simp only [layS, List.foldl, Act.put, List.setIfInBounds_toArray, List.set_cons_zero, List.set_cons_succ, upV, reduceIte, Nat.reduceEqDiff, e8]
    case sb10 =>
      rintro d u wx ⟨h5, h8, h9, h10, hX⟩ hd K hK
      simp only [layS, List.foldl, Act.put, List.setIfInBounds_toArray, List.set_cons_zero, List.set_cons_succ]
      go_simp
      refine hK.out (upV u 8 (.pointer (some ⟨wx.heap.size, 0, none⟩))) _ (hX.alloc _) ⟨fun h => h5 h, fun h => h8 h, fun h => h9 h, fun _ => FreshD hX _ _, hX.alloc _⟩ _ ?_
      simp only [layS, List.foldl, Act.put, List.setIfInBounds_toArray, List.set_cons_zero, List.set_cons_succ, upV, reduceIte, Nat.reduceEqDiff]
  case finb =>
    rintro n' d u bx ⟨h5, h8, h9, h10, hX⟩ hd
    have e26 := h5 (hd 5 rfl)
    have e29 := h8 (hd 8 rfl)
    have e30 := h9 (hd 9 rfl)
    obtain ⟨q8, e8, bq8, lq8, mq8⟩ := h10 (hd 10 rfl)
    simp only [layS, List.foldl, Act.put, List.setIfInBounds_toArray, List.set_cons_zero, List.set_cons_succ, e26, e29, e30, e8]
    clear hd h5 h8 h9 h10 e26 e29 e30 e8
    change wpAnyM _ _ _ _ _ _ (n' + 1) _ _ _
    replace hX := hX.push bq8 mq8 (fun x hx => Nat.ne_of_lt (lq8 x hx))
    clear bq8 lq8 mq8
    refine wpAnyM_late (i := 11) (by kernel_rfl) rfl rfl (fun K hK => ?_)
    have hst := storeRow (l := LA) (hX.get 0 rfl) (by rw [hLA]; rfl)
    go_simp
    refine hK.out _ _ ?_
    clear hK K hst
    replace hX : WD w (w.heap.size) [(q8, Ws LA, 52), (q6, Ws ON, 52), (q5, SG, 54)] (bx.setRow (q8) (Ws LA)) := hX.over 0 rfl (Ws LA)
    generalize bx.setRow (q8) (Ws LA) = by0 at hX ⊢
    refine wpAnyM_done (by kernel_rfl) ?_ _
    have g0 := hX.get 0 rfl
    dsimp only at g0
    unfold Blk at g0
    go_wp2_with (first
      | (refine wpList_load_row rfl 52 _ rfl q8 rfl 52 _ (0, 0) _ g0 Tryd.underlying52 rfl (by rw [sLA]; exact Tryd.infoS4) ?_))
    clear g0
    refine (J1.out _).mono ?_
    rintro e w9 ⟨rfl, k9⟩
    replace hX := hX.keep k9
    go_wp2
    go_ret
    exact ⟨rfl, hX.below⟩

/-- the contract of Of -/
theorem N_sign (K : Nat → BitVec 64) (seed data : ByteArray) (w : World) (hs : seed.size = 32) (hd : data.size ≤ 100000) (hK : Tab K w) :
    Calls Tryd.prog 23 #[.string seed, .string data] w fun e w' => e = .returned (.string ⟨(Sg.sign (Sha.digest K) seed.data.toList data.data.toList).toArray⟩) ∧ Below w.heap.size w w' := by
  have H1 := fun wx h => N_signer K seed wx hs h
  have lS : (Sg.secret (Sha.digest K) seed.data.toList).length = 4 := Sc.of_length _
  have lr : (Sg.rest (Sha.digest K) seed.data.toList).length = 32 := by unfold Sg.rest; rw [List.length_drop, dig_len]
  have li := Sg.identity_length (Sha.digest K) seed.data.toList
  have hE : Sg.sign (Sha.digest K) seed.data.toList data.data.toList = Sg.first (Sha.digest K) seed.data.toList data.data.toList ++ Ff.bytesTo (Sg.last (Sha.digest K) seed.data.toList data.data.toList) 32 := by unfold Sg.sign Sc.bytes; with_reducible rfl
  have hL : Sg.last (Sha.digest K) seed.data.toList data.data.toList = Sc.plus (Sg.once (Sha.digest K) seed.data.toList data.data.toList) (Sc.times (Sg.tie (Sha.digest K) (Sg.first (Sha.digest K) seed.data.toList data.data.toList) (Sg.identity (Sha.digest K) seed.data.toList) data.data.toList) (Sg.secret (Sha.digest K) seed.data.toList)) := by unfold Sg.last; with_reducible rfl
  have hF : Sg.first (Sha.digest K) seed.data.toList data.data.toList = Cv.bytes (Cv.timesN Cv.base (Sg.once (Sha.digest K) seed.data.toList data.data.toList)) := by unfold Sg.first; with_reducible rfl
  have hO : Sg.once (Sha.digest K) seed.data.toList data.data.toList = Sc.of (Sha.digest K (Sg.rest (Sha.digest K) seed.data.toList ++ data.data.toList)) := by unfold Sg.once; with_reducible rfl
  have lf := Sg.first_length (Sha.digest K) seed.data.toList data.data.toList
  generalize Sg.sign (Sha.digest K) seed.data.toList data.data.toList = SI at hE ⊢
  generalize Sg.last (Sha.digest K) seed.data.toList data.data.toList = LA at hE hL
  generalize Sg.first (Sha.digest K) seed.data.toList data.data.toList = FI at hE hL hF lf
  generalize Sg.once (Sha.digest K) seed.data.toList data.data.toList = ON at hL hF hO
  generalize Sg.secret (Sha.digest K) seed.data.toList = S at H1 hL lS
  generalize Sg.identity (Sha.digest K) seed.data.toList = ID at H1 hL li
  generalize Sg.rest (Sha.digest K) seed.data.toList = RE at H1 hO lr
  have zr : (⟨RE.toArray⟩ : ByteArray).size = 32 := lr
  have dr : (⟨RE.toArray⟩ : ByteArray).data.toList = RE := rfl
  have zi : (⟨ID.toArray⟩ : ByteArray).size = 32 := li
  have di : (⟨ID.toArray⟩ : ByteArray).data.toList = ID := rfl
  have zf : (⟨FI.toArray⟩ : ByteArray).size = 32 := lf
  have df : (⟨FI.toArray⟩ : ByteArray).data.toList = FI := rfl
  have hrd : ((⟨RE.toArray⟩ : ByteArray) ++ data).data.toList = RE ++ data.data.toList := by rw [data_add]
  have o1 := joined ⟨RE.toArray⟩ data (by omega)
  have srd : ((⟨RE.toArray⟩ : ByteArray) ++ data).size = 32 + data.size := by rw [ByteArray.size_append, zr]
  generalize (⟨RE.toArray⟩ : ByteArray) ++ data = rd at hrd o1 srd
  have H2 := fun wx h => of_any K rd wx (by omega) h
  rw [hrd] at H2
  have ld := dig_len K (RE ++ data.data.toList)
  generalize Sha.digest K (RE ++ data.data.toList) = D1 at H2 hO ld
  have H3 := fun wx => S_of ⟨D1.toArray⟩ wx (by show D1.length ≤ _; omega)
  have H3' : ∀ wx : World, Calls Tryd.prog 33 #[.string ⟨D1.toArray⟩] wx fun e w' => e = .returned (.agg (Ws ON)) ∧ Below wx.heap.size wx w' := by rw [hO]; exact H3
  have lO : ON.length = 4 := by rw [hO]; exact Sc.of_length _
  have H5 := fun wx => C_times Cv.base ON wx (ok_mk rfl rfl rfl) lO
  have H6 := fun wx => C_bytes (Cv.timesN Cv.base ON) wx (Cv.timesN_ok _ _)
  rw [← hF] at H6
  have H7 := fun wx h => N_tie K ⟨FI.toArray⟩ ⟨ID.toArray⟩ data wx (by omega) (by omega) (by omega) h
  rw [df, di] at H7
  have lT : (Sg.tie (Sha.digest K) FI ID data.data.toList).length = 4 := Sc.of_length _
  generalize Sg.tie (Sha.digest K) FI ID data.data.toList = TI at H7 hL lT
  have H8 := fun wx => S_times TI S wx lT lS
  have lTS := Sc.times_length TI S
  generalize Sc.times TI S = TS at H8 hL lTS
  have H9 := fun wx => S_plus ON TS wx lO lTS
  rw [← hL] at H9
  have lL : LA.length = 4 := by rw [hL, Sc.plus_length, lO]
  have J1 := fun wx => S_bytes LA wx lL
  have lB := Ff.bytesTo_length LA 32
  have hfl : (⟨SI.toArray⟩ : ByteArray) = ⟨FI.toArray⟩ ++ ⟨(Ff.bytesTo LA 32).toArray⟩ := by
    apply ByteArray.ext
    apply Array.toList_inj.1
    rw [data_add, hE]
  generalize Ff.bytesTo LA 32 = BB at J1 lB hfl
  have o2 := joined ⟨FI.toArray⟩ ⟨BB.toArray⟩ (by have : (⟨BB.toArray⟩ : ByteArray).size = 32 := lB; omega)
  rw [hfl]
  exact N_sign' K seed data ⟨RE.toArray⟩ ⟨ID.toArray⟩ rd ⟨D1.toArray⟩ ⟨FI.toArray⟩ ⟨BB.toArray⟩ S ON _ _ TI TS LA w hK H1 H2 H3' C_base H5 H6 H7 H8 H9 J1 lS lO lL o1 o2
end Go.Proofs.YtclpbaokadfhhaaDoor
