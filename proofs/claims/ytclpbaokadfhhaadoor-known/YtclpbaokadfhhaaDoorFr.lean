/- Contract of field's Root. -/
import Derived.Test.YtclpbaokadfhhaaDoorCp1
import Derived.ChangeKeysEq
namespace Go.Proofs.YtclpbaokadfhhaaDoor
open Go.RowKit

theorem eqItems_words {P : Program} (w : World) (d : Nat) (e : TypeId) (he : P.underlying e = some (.int .u64)) (X Y : List (BitVec 64)) : ∀ l : List Nat, (∀ i ∈ l, i < X.length ∧ i < Y.length) →
    (Op.eqItems (d + 1) e 1 (Ws X) (Ws Y) l).run P w = .ok (l.all fun i => X.getD i 0 == Y.getD i 0) w
  | [], _ => by simp [Op.eqItems]
  | i :: l, h => by
    obtain ⟨h1, h2⟩ := h i (by simp)
    have px : (part e (Ws X) (i * 1)).run P w = .ok (.int .u64 (U (X.getD i 0))) w := by
      rw [Nat.mul_one]
      have := Ws_at X i h1
      simp [part, isAgg, run_underlying he, this]
    have py : (part e (Ws Y) (i * 1)).run P w = .ok (.int .u64 (U (Y.getD i 0))) w := by
      rw [Nat.mul_one]
      have := Ws_at Y i h2
      simp [part, isAgg, run_underlying he, this]
    have pe : (Op.equalIn (d + 1) e (.int .u64 (U (X.getD i 0))) (.int .u64 (U (Y.getD i 0)))).run P w = .ok (X.getD i 0 == Y.getD i 0) w := by
      rw [run_equalIn_int w d e .u64 .u64 _ _ he]
      congr 1
      rw [Bool.eq_iff_iff]
      simp only [beq_iff_eq]
      constructor
      · intro hh; apply BitVec.eq_of_toNat_eq; unfold U at hh; omega
      · intro hh; rw [hh]
    have ih := eqItems_words w d e he X Y l (fun j hj => h j (by simp [hj]))
    simp only [Op.eqItems, Sem.run_bind, px, py, pe, Result.andThen_ok, List.all_cons]
    cases hb : (X.getD i 0 == Y.getD i 0)
    · simp
    · simpa using ih
set_option maxRecDepth 100000 in
theorem F_equal (X Y : List (BitVec 64)) (hX : X.length = 5) (hY : Y.length = 5) (w : World) :
    (Op.equalIn 10000 58 (.agg (Ws X)) (.agg (Ws Y))).run Tryd.prog w = .ok (decide (X = Y)) w := by
  have hs : (Tryd.prog.info? 42).isSome = true := by kernel_rfl
  obtain ⟨i, hi⟩ := Option.isSome_iff_exists.1 hs
  rw [run_equalIn_array w 9999 (e := 42) (n := 5) (Ws X) (Ws Y) Tryd.underlying58 hi]
  rw [show Tryd.prog.cellsOf 42 = 1 from by kernel_rfl, eqItems_words w 9998 42 Tryd.underlying42 X Y (List.range 5) (fun i hi => by simp at hi; omega)]
  congr 1
  obtain ⟨x0, x1, x2, x3, x4, rfl⟩ := Ff.five X hX
  obtain ⟨y0, y1, y2, y3, y4, rfl⟩ := Ff.five Y hY
  rw [Bool.eq_iff_iff]
  simp [List.range, List.range.loop]
theorem F_equal_is {X Y : List (BitVec 64)} (hX : X.length = 5) (hY : Y.length = 5) (h : X = Y) (w : World) : (Op.equalIn 10000 58 (.agg (Ws X)) (.agg (Ws Y))).run Tryd.prog w = .ok true w := by
  rw [F_equal X Y hX hY, decide_eq_true h]
theorem F_equal_not {X Y : List (BitVec 64)} (hX : X.length = 5) (hY : Y.length = 5) (h : ¬ X = Y) (w : World) : (Op.equalIn 10000 58 (.agg (Ws X)) (.agg (Ws Y))).run Tryd.prog w = .ok false w := by
  rw [F_equal X Y hX hY, decide_eq_false h]

set_option maxRecDepth 100000 in
set_option maxHeartbeats 8000000 in
theorem F_root' (a : List (BitVec 64)) (w : World) (ha : a.length = 5) (O R1 R2 L0 L1 L2 S1 S2 : List (BitVec 64))
    (H1 : Hid (∀ wx : World, Calls Tryd.prog 77 #[.agg (Ws a), .int .i64 251] wx fun e w' => e = .returned (.agg (Ws O)) ∧ Below wx.heap.size wx w'))
    (H2 : Hid (∀ wx : World, Calls Tryd.prog 65 #[.agg (Ws O)] wx fun e w' => e = .returned (.agg (Ws R1)) ∧ Below wx.heap.size wx w')) (hR1 : R1.length = 5)
    (H3 : Hid (∀ wx : World, Calls Tryd.prog 65 #[.agg (Ws R1)] wx fun e w' => e = .returned (.agg (Ws S1)) ∧ Below wx.heap.size wx w'))
    (H4 : Hid (∀ wx : World, Calls Tryd.prog 73 #[.agg (Ws S1)] wx fun e w' => e = .returned (.agg (Ws L1)) ∧ Below wx.heap.size wx w'))
    (H5 : Hid (∀ wx : World, Calls Tryd.prog 73 #[.agg (Ws a)] wx fun e w' => e = .returned (.agg (Ws L0)) ∧ Below wx.heap.size wx w'))
    (H6 : Hid (∀ wx : World, Calls Tryd.prog 60 #[.agg (Ws R1), .agg (Ws Ff.im)] wx fun e w' => e = .returned (.agg (Ws R2)) ∧ Below wx.heap.size wx w')) (hR2 : R2.length = 5)
    (H7 : Hid (∀ wx : World, Calls Tryd.prog 65 #[.agg (Ws R2)] wx fun e w' => e = .returned (.agg (Ws S2)) ∧ Below wx.heap.size wx w'))
    (H8 : Hid (∀ wx : World, Calls Tryd.prog 73 #[.agg (Ws S2)] wx fun e w' => e = .returned (.agg (Ws L2)) ∧ Below wx.heap.size wx w'))
    (hL0 : L0.length = 5) (hL1 : L1.length = 5) (hL2 : L2.length = 5) :
    Calls Tryd.prog 69 #[.agg (Ws a)] w fun e w' => e = .returned (if L1 = L0 then .tuple #[.agg (Ws R1), .bool true] else if L2 = L0 then .tuple #[.agg (Ws R2), .bool true] else .tuple #[.agg (Ws [0, 0, 0, 0, 0]), .bool false]) ∧ Below w.heap.size w w' := by
  have H9 : Hid (∀ wx : World, Calls Tryd.prog 83 #[] wx fun e w' => e = .returned (.agg (Ws Ff.im)) ∧ Below wx.heap.size wx w') := F_im
  generalize Ff.im = IM at H6 H9
  have sa : (Ws a).size = 5 := by rw [Ws_size, ha]
  have sR1 : (Ws R1).size = 5 := by rw [Ws_size, hR1]
  have sR2 : (Ws R2).size = 5 := by rw [Ws_size, hR2]
  have hW : WD w w.heap.size [(w.heap.size + 1, #[.int .u64 0, .int .u64 0, .int .u64 0, .int .u64 0, .int .u64 0], 58), (w.heap.size, Ws a, 58)] ((w.alloc (.cells (Ws a) 58)).alloc (.cells #[.int .u64 0, .int .u64 0, .int .u64 0, .int .u64 0, .int .u64 0] 58)) := by
    have h1 := (WD.start (w := w)).new (Ws a) 58
    have h2 := h1.new #[.int .u64 0, .int .u64 0, .int .u64 0, .int .u64 0, .int .u64 0] 58
    rw [show (w.alloc (.cells (Ws a) 58)).heap.size = w.heap.size + 1 by simp] at h2
    exact h2
  have g0 := hW.get 1 rfl
  dsimp only at g0
  unfold Blk at g0
  generalize hV : (if L1 = L0 then Value.tuple #[.agg (Ws R1), .bool true] else if L2 = L0 then .tuple #[.agg (Ws R2), .bool true] else .tuple #[.agg (Ws [0, 0, 0, 0, 0]), .bool false]) = V
  replace hV : Hid ((if L1 = L0 then Value.tuple #[.agg (Ws R1), .bool true] else if L2 = L0 then .tuple #[.agg (Ws R2), .bool true] else .tuple #[.agg (Ws [0, 0, 0, 0, 0]), .bool false]) = V) := hV
  go_enter Tryd.func69, Tryd.ntmps69
  go_wp2_with (first
    | (refine wpList_load_row rfl 58 _ rfl w.heap.size rfl 58 _ (0, 0) _ g0 Tryd.underlying58 rfl (by rw [sa]; exact Tryd.infoF5) ?_))
  clear g0
  generalize (w.alloc (.cells (Ws a) 58)).alloc (.cells #[.int .u64 0, .int .u64 0, .int .u64 0, .int .u64 0, .int .u64 0] 58) = w1 at hW ⊢
  refine (H1.out _).mono ?_
  rintro e w2 ⟨rfl, k2⟩
  replace hW := hW.keep k2
  clear k2
  go_wp2_with fail
  refine (H2.out _).mono ?_
  rintro e w3 ⟨rfl, k3⟩
  replace hW := hW.keep k3
  clear k3 H1 H2
  have hN := hW.new #[.int .u64 0, .int .u64 0, .int .u64 0, .int .u64 0, .int .u64 0] 58
  have gz := hN.get 0 rfl
  dsimp only at gz
  unfold Blk at gz
  go_wp2_with (first
    | (refine wpList_store_row rfl 58 _ _ rfl w3.heap.size _ rfl rfl 58 _ gz (by rw [sR1]; exact Tryd.infoF5) (by rw [sR1]; rfl) (Ws_one _) ?_))
  replace hW : WD w w.heap.size [(w3.heap.size, Ws R1, 58), (w.heap.size + 1, #[.int .u64 0, .int .u64 0, .int .u64 0, .int .u64 0, .int .u64 0], 58), (w.heap.size, Ws a, 58)] ((w3.alloc (.cells #[.int .u64 0, .int .u64 0, .int .u64 0, .int .u64 0, .int .u64 0] 58)).setRow w3.heap.size (Ws R1)) := hN.over 0 rfl (Ws R1)
  clear hN gz
  generalize (w3.alloc (.cells #[.int .u64 0, .int .u64 0, .int .u64 0, .int .u64 0, .int .u64 0] 58)).setRow w3.heap.size (Ws R1) = w4 at hW ⊢
  generalize w3.heap.size = q at hW ⊢
  by_cases h1 : L1 = L0
  · replace h1 : Hid (L1 = L0) := h1
    refine wp_region_M (S := WD w (w.heap.size) [(q, Ws R1, 58), (w.heap.size + 1, #[.int .u64 0, .int .u64 0, .int .u64 0, .int .u64 0, .int .u64 0], 58), (w.heap.size, Ws a, 58)]) (ls := []) (by kernel_rfl) ?_
    have hW0 : WD w (w.heap.size) [(q, Ws R1, 58), (w.heap.size + 1, #[.int .u64 0, .int .u64 0, .int .u64 0, .int .u64 0, .int .u64 0], 58), (w.heap.size, Ws a, 58)] w4.drew := hW.drew
    clear hW
    generalize World.drew w4 = ad at hW0 ⊢
    refine wpAnyM_take (i := 0) (dst := some 8) (v := .agg (Ws R1)) rfl rfl (by kernel_rfl) (by kernel_rfl) (by kernel_rfl) (by kernel_rfl) (by kernel_rfl) (fun _ _ _ h => h) (Or.inl ⟨by rfl, ?hya0⟩) hW0 ?rea0
    case hya0 => exact fun wx hSx => exec_load_row 58 _ rfl (q) rfl 58 _ (0, 0) _ (hSx.get 0 rfl) Tryd.underlying58 rfl (by rw [sR1]; exact Tryd.infoF5)
    refine wpAnyM_take (i := 3) (dst := some 11) (v := .agg (Ws a)) rfl rfl (by kernel_rfl) (by kernel_rfl) (by kernel_rfl) (by kernel_rfl) (by kernel_rfl) (fun _ _ _ h => h) (Or.inl ⟨by rfl, ?hya3⟩) hW0 ?rea3
    case hya3 => exact fun wx hSx => exec_load_row 58 _ rfl (w.heap.size) rfl 58 _ (0, 0) _ (hSx.get 2 rfl) Tryd.underlying58 rfl (by rw [sa]; exact Tryd.infoF5)
    try simp only [Act.put, List.setIfInBounds_toArray, List.set_cons_zero, List.set_cons_succ]
    refine wpAnyM_one (i := 1) (by kernel_rfl) rfl (fun K hK => ?_)
    go_simp
    go_wp2_with (go_at_call 65; refine (H3.out _).mono ?_; rintro e ax0 ⟨rfl, k0⟩)
    have hW1 := hW0.keep k0
    refine hK.out _ _ hW1 ?_
    try simp only [Act.put, List.setIfInBounds_toArray, List.set_cons_zero, List.set_cons_succ]
    clear hK K k0 hW0
    refine wpAnyM_one (i := 2) (by kernel_rfl) rfl (fun K hK => ?_)
    go_simp
    go_wp2_with (go_at_call 73; refine (H4.out _).mono ?_; rintro e ax1 ⟨rfl, k0⟩)
    have hW2 := hW1.keep k0
    refine hK.out _ _ hW2 ?_
    try simp only [Act.put, List.setIfInBounds_toArray, List.set_cons_zero, List.set_cons_succ]
    clear hK K k0 hW1
    refine wpAnyM_one (i := 4) (by kernel_rfl) rfl (fun K hK => ?_)
    go_simp
    go_wp2_with (go_at_call 73; refine (H5.out _).mono ?_; rintro e ax2 ⟨rfl, k0⟩)
    have hW3 := hW2.keep k0
    refine hK.out _ _ hW3 ?_
    try simp only [Act.put, List.setIfInBounds_toArray, List.set_cons_zero, List.set_cons_succ]
    clear hK K k0 hW2
    have hq := F_equal_is hL1 hL0 h1.out
    refine wpAnyM_take (i := 5) (dst := some 13) (v := .bool false) rfl rfl (by kernel_rfl) (by kernel_rfl) (by kernel_rfl) (by kernel_rfl) (by kernel_rfl) (fun _ _ _ h => h) (Or.inl ⟨by rfl, ?hya5⟩) hW3 ?rea5
    case hya5 => (intro wx hSx; clear hSx; go_simp; try (with_reducible rfl))
    simp only [Act.put, List.setIfInBounds_toArray, List.set_cons_zero, List.set_cons_succ]
    refine wpAnyM_done (by kernel_rfl) ?_ _
    clear hq
    go_wp2_with fail
    refine wp_region_M (S := WD w (w.heap.size) [(q, Ws R1, 58), (w.heap.size + 1, #[.int .u64 0, .int .u64 0, .int .u64 0, .int .u64 0, .int .u64 0], 58), (w.heap.size, Ws a, 58)]) (ls := []) (by kernel_rfl) ?_
    have hW30 : WD w (w.heap.size) [(q, Ws R1, 58), (w.heap.size + 1, #[.int .u64 0, .int .u64 0, .int .u64 0, .int .u64 0, .int .u64 0], 58), (w.heap.size, Ws a, 58)] ax2.drew := hW3.drew
    clear hW3
    generalize World.drew ax2 = bd at hW30 ⊢
    refine wpAnyM_take (i := 0) (dst := some 17) (v := .agg (Ws R1)) rfl rfl (by kernel_rfl) (by kernel_rfl) (by kernel_rfl) (by kernel_rfl) (by kernel_rfl) (fun _ _ _ h => h) (Or.inl ⟨by rfl, ?hyb0⟩) hW30 ?reb0
    case hyb0 => exact fun wx hSx => exec_load_row 58 _ rfl (q) rfl 58 _ (0, 0) _ (hSx.get 0 rfl) Tryd.underlying58 rfl (by rw [sR1]; exact Tryd.infoF5)
    refine wpAnyM_take (i := 3) (dst := some 20) (v := .agg (Ws a)) rfl rfl (by kernel_rfl) (by kernel_rfl) (by kernel_rfl) (by kernel_rfl) (by kernel_rfl) (fun _ _ _ h => h) (Or.inl ⟨by rfl, ?hyb3⟩) hW30 ?reb3
    case hyb3 => exact fun wx hSx => exec_load_row 58 _ rfl (w.heap.size) rfl 58 _ (0, 0) _ (hSx.get 2 rfl) Tryd.underlying58 rfl (by rw [sa]; exact Tryd.infoF5)
    try simp only [Act.put, List.setIfInBounds_toArray, List.set_cons_zero, List.set_cons_succ]
    refine wpAnyM_one (i := 1) (by kernel_rfl) rfl (fun K hK => ?_)
    go_simp
    go_wp2_with (go_at_call 65; refine (H3.out _).mono ?_; rintro e bx0 ⟨rfl, k0⟩)
    have hW31 := hW30.keep k0
    refine hK.out _ _ hW31 ?_
    try simp only [Act.put, List.setIfInBounds_toArray, List.set_cons_zero, List.set_cons_succ]
    clear hK K k0 hW30
    refine wpAnyM_one (i := 2) (by kernel_rfl) rfl (fun K hK => ?_)
    go_simp
    go_wp2_with (go_at_call 73; refine (H4.out _).mono ?_; rintro e bx1 ⟨rfl, k0⟩)
    have hW32 := hW31.keep k0
    refine hK.out _ _ hW32 ?_
    try simp only [Act.put, List.setIfInBounds_toArray, List.set_cons_zero, List.set_cons_succ]
    clear hK K k0 hW31
    refine wpAnyM_one (i := 4) (by kernel_rfl) rfl (fun K hK => ?_)
    go_simp
    go_wp2_with (go_at_call 73; refine (H5.out _).mono ?_; rintro e bx2 ⟨rfl, k0⟩)
    have hW33 := hW32.keep k0
    refine hK.out _ _ hW33 ?_
    try simp only [Act.put, List.setIfInBounds_toArray, List.set_cons_zero, List.set_cons_succ]
    clear hK K k0 hW32
    have hq := F_equal_is hL1 hL0 h1.out
    refine wpAnyM_take (i := 5) (dst := some 22) (v := .bool false) rfl rfl (by kernel_rfl) (by kernel_rfl) (by kernel_rfl) (by kernel_rfl) (by kernel_rfl) (fun _ _ _ h => h) (Or.inl ⟨by rfl, ?hyb5⟩) hW33 ?reb5
    case hyb5 => (intro wx hSx; clear hSx; go_simp; try (with_reducible rfl))
    simp only [Act.put, List.setIfInBounds_toArray, List.set_cons_zero, List.set_cons_succ]
    refine wpAnyM_done (by kernel_rfl) ?_ _
    clear hq
    have g0 := hW33.get 0 rfl
    have g1 := hW33.get 1 rfl
    dsimp only at g0 g1
    unfold Blk at g0 g1
    go_wp2_with (first
      | (refine wpList_load_row rfl 58 _ rfl q rfl 58 _ (0, 0) _ g0 Tryd.underlying58 rfl (by rw [sR1]; exact Tryd.infoF5) ?_)
      | (refine wpList_store_row rfl 58 _ _ rfl (w.heap.size + 1) _ rfl rfl 58 _ g1 (by rw [sR1]; exact Tryd.infoF5) (by rw [sR1]; rfl) (Ws_one _) ?_))
    have hE := hW33.over 1 rfl (Ws R1)
    refine bodyPost_ret (v := .tuple #[.agg (Ws R1), .bool true]) ?_ rfl ⟨by rw [← show _ = V from hV.out, if_pos h1.out], hE.below⟩
    exact results_cell_slot rfl _ _ (w.heap.size + 1) 58 _ (0, 0) _ (.bool true) rfl rfl (hE.get 1 rfl) Tryd.underlying58 rfl (by rw [sR1]; exact Tryd.infoF5)
  · refine wp_region_M (S := WD w (w.heap.size) [(q, Ws R1, 58), (w.heap.size + 1, #[.int .u64 0, .int .u64 0, .int .u64 0, .int .u64 0, .int .u64 0], 58), (w.heap.size, Ws a, 58)]) (ls := []) (by kernel_rfl) ?_
    have hW0 : WD w (w.heap.size) [(q, Ws R1, 58), (w.heap.size + 1, #[.int .u64 0, .int .u64 0, .int .u64 0, .int .u64 0, .int .u64 0], 58), (w.heap.size, Ws a, 58)] w4.drew := hW.drew
    clear hW
    generalize World.drew w4 = cd at hW0 ⊢
    refine wpAnyM_take (i := 0) (dst := some 8) (v := .agg (Ws R1)) rfl rfl (by kernel_rfl) (by kernel_rfl) (by kernel_rfl) (by kernel_rfl) (by kernel_rfl) (fun _ _ _ h => h) (Or.inl ⟨by rfl, ?hyc0⟩) hW0 ?rec0
    case hyc0 => exact fun wx hSx => exec_load_row 58 _ rfl (q) rfl 58 _ (0, 0) _ (hSx.get 0 rfl) Tryd.underlying58 rfl (by rw [sR1]; exact Tryd.infoF5)
    refine wpAnyM_take (i := 3) (dst := some 11) (v := .agg (Ws a)) rfl rfl (by kernel_rfl) (by kernel_rfl) (by kernel_rfl) (by kernel_rfl) (by kernel_rfl) (fun _ _ _ h => h) (Or.inl ⟨by rfl, ?hyc3⟩) hW0 ?rec3
    case hyc3 => exact fun wx hSx => exec_load_row 58 _ rfl (w.heap.size) rfl 58 _ (0, 0) _ (hSx.get 2 rfl) Tryd.underlying58 rfl (by rw [sa]; exact Tryd.infoF5)
    try simp only [Act.put, List.setIfInBounds_toArray, List.set_cons_zero, List.set_cons_succ]
    refine wpAnyM_one (i := 1) (by kernel_rfl) rfl (fun K hK => ?_)
    go_simp
    go_wp2_with (go_at_call 65; refine (H3.out _).mono ?_; rintro e cx0 ⟨rfl, k0⟩)
    have hW1 := hW0.keep k0
    refine hK.out _ _ hW1 ?_
    try simp only [Act.put, List.setIfInBounds_toArray, List.set_cons_zero, List.set_cons_succ]
    clear hK K k0 hW0
    refine wpAnyM_one (i := 2) (by kernel_rfl) rfl (fun K hK => ?_)
    go_simp
    go_wp2_with (go_at_call 73; refine (H4.out _).mono ?_; rintro e cx1 ⟨rfl, k0⟩)
    have hW2 := hW1.keep k0
    refine hK.out _ _ hW2 ?_
    try simp only [Act.put, List.setIfInBounds_toArray, List.set_cons_zero, List.set_cons_succ]
    clear hK K k0 hW1
    refine wpAnyM_one (i := 4) (by kernel_rfl) rfl (fun K hK => ?_)
    go_simp
    go_wp2_with (go_at_call 73; refine (H5.out _).mono ?_; rintro e cx2 ⟨rfl, k0⟩)
    have hW3 := hW2.keep k0
    refine hK.out _ _ hW3 ?_
    try simp only [Act.put, List.setIfInBounds_toArray, List.set_cons_zero, List.set_cons_succ]
    clear hK K k0 hW2
    have hq := F_equal_not hL1 hL0 h1
    refine wpAnyM_take (i := 5) (dst := some 13) (v := .bool true) rfl rfl (by kernel_rfl) (by kernel_rfl) (by kernel_rfl) (by kernel_rfl) (by kernel_rfl) (fun _ _ _ h => h) (Or.inl ⟨by rfl, ?hyc5⟩) hW3 ?rec5
    case hyc5 => (intro wx hSx; clear hSx; go_simp; try (with_reducible rfl))
    simp only [Act.put, List.setIfInBounds_toArray, List.set_cons_zero, List.set_cons_succ]
    refine wpAnyM_done (by kernel_rfl) ?_ _
    clear hq
    go_wp2_with fail
    refine wp_region_M (S := WD w (w.heap.size) [(q, Ws R1, 58), (w.heap.size + 1, #[.int .u64 0, .int .u64 0, .int .u64 0, .int .u64 0, .int .u64 0], 58), (w.heap.size, Ws a, 58)]) (ls := [3]) (by kernel_rfl) ?_
    have hW30 : WD w (w.heap.size) [(q, Ws R1, 58), (w.heap.size + 1, #[.int .u64 0, .int .u64 0, .int .u64 0, .int .u64 0, .int .u64 0], 58), (w.heap.size, Ws a, 58)] cx2.drew := hW3.drew
    clear hW3
    generalize World.drew cx2 = dd at hW30 ⊢
    refine wpAnyM_take (i := 0) (dst := some 14) (v := .agg (Ws R1)) rfl rfl (by kernel_rfl) (by kernel_rfl) (by kernel_rfl) (by kernel_rfl) (by kernel_rfl) (fun _ _ _ h => h) (Or.inl ⟨by rfl, ?hyd0⟩) hW30 ?red0
    case hyd0 => exact fun wx hSx => exec_load_row 58 _ rfl (q) rfl 58 _ (0, 0) _ (hSx.get 0 rfl) Tryd.underlying58 rfl (by rw [sR1]; exact Tryd.infoF5)
    try simp only [Act.put, List.setIfInBounds_toArray, List.set_cons_zero, List.set_cons_succ]
    refine wpAnyM_one (i := 1) (by kernel_rfl) rfl (fun K hK => ?_)
    go_simp
    go_wp2_with (go_at_call 83; refine (H9.out _).mono ?_; rintro e dx0 ⟨rfl, k0⟩)
    have hW31 := hW30.keep k0
    refine hK.out _ _ hW31 ?_
    try simp only [Act.put, List.setIfInBounds_toArray, List.set_cons_zero, List.set_cons_succ]
    clear hK K k0 hW30
    refine wpAnyM_one (i := 2) (by kernel_rfl) rfl (fun K hK => ?_)
    go_simp
    go_wp2_with (go_at_call 60; refine (H6.out _).mono ?_; rintro e dx1 ⟨rfl, k0⟩)
    have hW32 := hW31.keep k0
    refine hK.out _ _ hW32 ?_
    try simp only [Act.put, List.setIfInBounds_toArray, List.set_cons_zero, List.set_cons_succ]
    clear hK K k0 hW31
    refine wpAnyM_late (i := 3) (by kernel_rfl) rfl rfl (fun K hK => ?_)
    have hst := storeRow (l := R2) (hW32.get 0 rfl) (by rw [sR1, hR2])
    go_simp
    refine hK.out _ _ ?_
    clear hK K hst
    replace hW32 : WD w (w.heap.size) [(q, Ws R2, 58), (w.heap.size + 1, #[.int .u64 0, .int .u64 0, .int .u64 0, .int .u64 0, .int .u64 0], 58), (w.heap.size, Ws a, 58)] (dx1.setRow (q) (Ws R2)) := hW32.over 0 rfl (Ws R2)
    generalize dx1.setRow (q) (Ws R2) = dy0 at hW32 ⊢
    refine wpAnyM_done (by kernel_rfl) ?_ _
    go_wp2_with fail
    by_cases h2 : L2 = L0
    · replace h2 : Hid (L2 = L0) := h2
      refine wp_region_M (S := WD w (w.heap.size) [(q, Ws R2, 58), (w.heap.size + 1, #[.int .u64 0, .int .u64 0, .int .u64 0, .int .u64 0, .int .u64 0], 58), (w.heap.size, Ws a, 58)]) (ls := []) (by kernel_rfl) ?_
      have hW320 : WD w (w.heap.size) [(q, Ws R2, 58), (w.heap.size + 1, #[.int .u64 0, .int .u64 0, .int .u64 0, .int .u64 0, .int .u64 0], 58), (w.heap.size, Ws a, 58)] dy0.drew := hW32.drew
      clear hW32
      generalize World.drew dy0 = ed at hW320 ⊢
      refine wpAnyM_take (i := 0) (dst := some 17) (v := .agg (Ws R2)) rfl rfl (by kernel_rfl) (by kernel_rfl) (by kernel_rfl) (by kernel_rfl) (by kernel_rfl) (fun _ _ _ h => h) (Or.inl ⟨by rfl, ?hye0⟩) hW320 ?ree0
      case hye0 => exact fun wx hSx => exec_load_row 58 _ rfl (q) rfl 58 _ (0, 0) _ (hSx.get 0 rfl) Tryd.underlying58 rfl (by rw [sR2]; exact Tryd.infoF5)
      refine wpAnyM_take (i := 3) (dst := some 20) (v := .agg (Ws a)) rfl rfl (by kernel_rfl) (by kernel_rfl) (by kernel_rfl) (by kernel_rfl) (by kernel_rfl) (fun _ _ _ h => h) (Or.inl ⟨by rfl, ?hye3⟩) hW320 ?ree3
      case hye3 => exact fun wx hSx => exec_load_row 58 _ rfl (w.heap.size) rfl 58 _ (0, 0) _ (hSx.get 2 rfl) Tryd.underlying58 rfl (by rw [sa]; exact Tryd.infoF5)
      try simp only [Act.put, List.setIfInBounds_toArray, List.set_cons_zero, List.set_cons_succ]
      refine wpAnyM_one (i := 1) (by kernel_rfl) rfl (fun K hK => ?_)
      go_simp
      go_wp2_with (go_at_call 65; refine (H7.out _).mono ?_; rintro e ex0 ⟨rfl, k0⟩)
      have hW321 := hW320.keep k0
      refine hK.out _ _ hW321 ?_
      try simp only [Act.put, List.setIfInBounds_toArray, List.set_cons_zero, List.set_cons_succ]
      clear hK K k0 hW320
      refine wpAnyM_one (i := 2) (by kernel_rfl) rfl (fun K hK => ?_)
      go_simp
      go_wp2_with (go_at_call 73; refine (H8.out _).mono ?_; rintro e ex1 ⟨rfl, k0⟩)
      have hW322 := hW321.keep k0
      refine hK.out _ _ hW322 ?_
      try simp only [Act.put, List.setIfInBounds_toArray, List.set_cons_zero, List.set_cons_succ]
      clear hK K k0 hW321
      refine wpAnyM_one (i := 4) (by kernel_rfl) rfl (fun K hK => ?_)
      go_simp
      go_wp2_with (go_at_call 73; refine (H5.out _).mono ?_; rintro e ex2 ⟨rfl, k0⟩)
      have hW323 := hW322.keep k0
      refine hK.out _ _ hW323 ?_
      try simp only [Act.put, List.setIfInBounds_toArray, List.set_cons_zero, List.set_cons_succ]
      clear hK K k0 hW322
      have hq := F_equal_is hL2 hL0 h2.out
      refine wpAnyM_take (i := 5) (dst := some 22) (v := .bool false) rfl rfl (by kernel_rfl) (by kernel_rfl) (by kernel_rfl) (by kernel_rfl) (by kernel_rfl) (fun _ _ _ h => h) (Or.inl ⟨by rfl, ?hye5⟩) hW323 ?ree5
      case hye5 => (intro wx hSx; clear hSx; go_simp; try (with_reducible rfl))
      simp only [Act.put, List.setIfInBounds_toArray, List.set_cons_zero, List.set_cons_succ]
      refine wpAnyM_done (by kernel_rfl) ?_ _
      clear hq
      have g0 := hW323.get 0 rfl
      have g1 := hW323.get 1 rfl
      dsimp only at g0 g1
      unfold Blk at g0 g1
      go_wp2_with (first
        | (refine wpList_load_row rfl 58 _ rfl q rfl 58 _ (0, 0) _ g0 Tryd.underlying58 rfl (by rw [sR2]; exact Tryd.infoF5) ?_)
        | (refine wpList_store_row rfl 58 _ _ rfl (w.heap.size + 1) _ rfl rfl 58 _ g1 (by rw [sR2]; exact Tryd.infoF5) (by rw [sR2]; rfl) (Ws_one _) ?_))
      have hE := hW323.over 1 rfl (Ws R2)
      refine bodyPost_ret (v := .tuple #[.agg (Ws R2), .bool true]) ?_ rfl ⟨by rw [← show _ = V from hV.out, if_neg h1, if_pos h2.out], hE.below⟩
      exact results_cell_slot rfl _ _ (w.heap.size + 1) 58 _ (0, 0) _ (.bool true) rfl rfl (hE.get 1 rfl) Tryd.underlying58 rfl (by rw [sR2]; exact Tryd.infoF5)
    · refine wp_region_M (S := WD w (w.heap.size) [(q, Ws R2, 58), (w.heap.size + 1, #[.int .u64 0, .int .u64 0, .int .u64 0, .int .u64 0, .int .u64 0], 58), (w.heap.size, Ws a, 58)]) (ls := []) (by kernel_rfl) ?_
      have hW320 : WD w (w.heap.size) [(q, Ws R2, 58), (w.heap.size + 1, #[.int .u64 0, .int .u64 0, .int .u64 0, .int .u64 0, .int .u64 0], 58), (w.heap.size, Ws a, 58)] dy0.drew := hW32.drew
      clear hW32
      generalize World.drew dy0 = fd at hW320 ⊢
      refine wpAnyM_take (i := 0) (dst := some 17) (v := .agg (Ws R2)) rfl rfl (by kernel_rfl) (by kernel_rfl) (by kernel_rfl) (by kernel_rfl) (by kernel_rfl) (fun _ _ _ h => h) (Or.inl ⟨by rfl, ?hyf0⟩) hW320 ?ref0
      case hyf0 => exact fun wx hSx => exec_load_row 58 _ rfl (q) rfl 58 _ (0, 0) _ (hSx.get 0 rfl) Tryd.underlying58 rfl (by rw [sR2]; exact Tryd.infoF5)
      refine wpAnyM_take (i := 3) (dst := some 20) (v := .agg (Ws a)) rfl rfl (by kernel_rfl) (by kernel_rfl) (by kernel_rfl) (by kernel_rfl) (by kernel_rfl) (fun _ _ _ h => h) (Or.inl ⟨by rfl, ?hyf3⟩) hW320 ?ref3
      case hyf3 => exact fun wx hSx => exec_load_row 58 _ rfl (w.heap.size) rfl 58 _ (0, 0) _ (hSx.get 2 rfl) Tryd.underlying58 rfl (by rw [sa]; exact Tryd.infoF5)
      try simp only [Act.put, List.setIfInBounds_toArray, List.set_cons_zero, List.set_cons_succ]
      refine wpAnyM_one (i := 1) (by kernel_rfl) rfl (fun K hK => ?_)
      go_simp
      go_wp2_with (go_at_call 65; refine (H7.out _).mono ?_; rintro e fx0 ⟨rfl, k0⟩)
      have hW321 := hW320.keep k0
      refine hK.out _ _ hW321 ?_
      try simp only [Act.put, List.setIfInBounds_toArray, List.set_cons_zero, List.set_cons_succ]
      clear hK K k0 hW320
      refine wpAnyM_one (i := 2) (by kernel_rfl) rfl (fun K hK => ?_)
      go_simp
      go_wp2_with (go_at_call 73; refine (H8.out _).mono ?_; rintro e fx1 ⟨rfl, k0⟩)
      have hW322 := hW321.keep k0
      refine hK.out _ _ hW322 ?_
      try simp only [Act.put, List.setIfInBounds_toArray, List.set_cons_zero, List.set_cons_succ]
      clear hK K k0 hW321
      refine wpAnyM_one (i := 4) (by kernel_rfl) rfl (fun K hK => ?_)
      go_simp
      go_wp2_with (go_at_call 73; refine (H5.out _).mono ?_; rintro e fx2 ⟨rfl, k0⟩)
      have hW323 := hW322.keep k0
      refine hK.out _ _ hW323 ?_
      try simp only [Act.put, List.setIfInBounds_toArray, List.set_cons_zero, List.set_cons_succ]
      clear hK K k0 hW322
      have hq := F_equal_not hL2 hL0 h2
      refine wpAnyM_take (i := 5) (dst := some 22) (v := .bool true) rfl rfl (by kernel_rfl) (by kernel_rfl) (by kernel_rfl) (by kernel_rfl) (by kernel_rfl) (fun _ _ _ h => h) (Or.inl ⟨by rfl, ?hyf5⟩) hW323 ?ref5
      case hyf5 => (intro wx hSx; clear hSx; go_simp; try (with_reducible rfl))
      simp only [Act.put, List.setIfInBounds_toArray, List.set_cons_zero, List.set_cons_succ]
      refine wpAnyM_done (by kernel_rfl) ?_ _
      clear hq
      have g1 := hW323.get 1 rfl
      dsimp only at g1
      unfold Blk at g1
      go_wp2_with (first
        | (refine wpList_store_row rfl 58 _ _ rfl (w.heap.size + 1) #[.int .u64 0, .int .u64 0, .int .u64 0, .int .u64 0, .int .u64 0] rfl rfl 58 _ g1 Tryd.infoF5 rfl (Ws_one [0, 0, 0, 0, 0]) ?_))
      have hE := hW323.over 1 rfl #[.int .u64 0, .int .u64 0, .int .u64 0, .int .u64 0, .int .u64 0]
      refine bodyPost_ret (v := .tuple #[.agg (Ws [0, 0, 0, 0, 0]), .bool false]) ?_ rfl ⟨by rw [← show _ = V from hV.out, if_neg h1, if_neg h2], hE.below⟩
      exact results_cell_slot rfl _ _ (w.heap.size + 1) 58 _ (0, 0) _ (.bool false) rfl rfl (hE.get 1 rfl) Tryd.underlying58 rfl Tryd.infoF5

theorem F_root (a : List (BitVec 64)) (w : World) (ha : a.length = 5) :
    Calls Tryd.prog 69 #[.agg (Ws a)] w fun e w' => e = .returned (.tuple #[.agg (Ws (Ff.root a).1), .bool (Ff.root a).2]) ∧ Below w.heap.size w w' := by
  have lO : (Ff.ones a 251 251).length = 5 := Ff.ones_length a ha 251 251
  have l1 := Ff.root1_length a
  have lt := Ff.times_length (Ff.root1 a) Ff.im
  have hh := F_root' a w ha (Ff.ones a 251 251) (Ff.root1 a) (Ff.times (Ff.root1 a) Ff.im) (Ff.lowest a) (Ff.lowest (Ff.times (Ff.root1 a) (Ff.root1 a))) (Ff.lowest (Ff.times (Ff.times (Ff.root1 a) Ff.im) (Ff.times (Ff.root1 a) Ff.im))) (Ff.times (Ff.root1 a) (Ff.root1 a)) (Ff.times (Ff.times (Ff.root1 a) Ff.im) (Ff.times (Ff.root1 a) Ff.im))
    (fun wx => F_ones a ha 251 251 wx (by omega) (by omega) (by omega)) (fun wx => by unfold Ff.root1; exact F_square _ wx lO) l1 (fun wx => F_square _ wx l1) (fun wx => F_lowest _ wx (Ff.times_length _ _)) (fun wx => F_lowest a wx ha)
    (fun wx => F_times _ _ wx l1 rfl) lt (fun wx => F_square _ wx lt) (fun wx => F_lowest _ wx (Ff.times_length _ _)) (by rw [Ff.lowest_length, ha]) (by rw [Ff.lowest_length, Ff.times_length]) (by rw [Ff.lowest_length, Ff.times_length])
  have e : (if Ff.lowest (Ff.times (Ff.root1 a) (Ff.root1 a)) = Ff.lowest a then Value.tuple #[.agg (Ws (Ff.root1 a)), .bool true] else if Ff.lowest (Ff.times (Ff.times (Ff.root1 a) Ff.im) (Ff.times (Ff.root1 a) Ff.im)) = Ff.lowest a then .tuple #[.agg (Ws (Ff.times (Ff.root1 a) Ff.im)), .bool true] else .tuple #[.agg (Ws [0, 0, 0, 0, 0]), .bool false]) = .tuple #[.agg (Ws (Ff.root a).1), .bool (Ff.root a).2] := by
    unfold Ff.root Ff.root2
    generalize Ff.times (Ff.root1 a) Ff.im = R2
    generalize Ff.root1 a = R1
    by_cases h1 : Ff.lowest (Ff.times R1 R1) = Ff.lowest a
    · rw [if_pos h1, if_pos h1, if_pos h1]
    · rw [if_neg h1, if_neg h1]
      by_cases h2 : Ff.lowest (Ff.times R2 R2) = Ff.lowest a
      · rw [if_pos h2, if_pos h2]
      · rw [if_neg h2, if_neg h2]; unfold Ff.zero5; with_reducible rfl
  rw [e] at hh
  exact hh
end Go.Proofs.YtclpbaokadfhhaaDoor
