/- Contract of field's Times. -/
import Derived.Test.YtclpbaokadfhhaaDoorFn
import Derived.Test.YtclpbaokadfhhaaDoorLast
namespace Go.Proofs.YtclpbaokadfhhaaDoor
open Go.RowKit

/-- what the loops' numbers are -/
def TimS (p : Nat) (a b : List (BitVec 64)) (L : List Nat) (w : World) : Prop := Blk w p (Ws a) 58 ∧ Blk w (p + 1) (Ws b) 58 ∧ Blk w (p + 1 + 1 + 1) (Ws (Ff.flat L)) 99
theorem FZ10 : (#[.int .u64 0, .int .u64 0, .int .u64 0, .int .u64 0, .int .u64 0, .int .u64 0, .int .u64 0, .int .u64 0, .int .u64 0, .int .u64 0] : Array Value) = Ws [0, 0, 0, 0, 0, 0, 0, 0, 0, 0] := rfl
theorem flat0 : Ff.flat [0, 0, 0, 0, 0] = [0, 0, 0, 0, 0, 0, 0, 0, 0, 0] := by decide
theorem flatCell {w : World} {g : Nat} {L : List Nat} (h : Blk w g (Ws (Ff.flat L)) 99) (k : Nat) (hk : k < L.length) :
    w.cell? ⟨g, k * 2, none⟩ = some (.int .u64 (U (Ff.hi (L.getD k 0)))) ∧ w.cell? ⟨g, k * 2 + 1, none⟩ = some (.int .u64 (U (Ff.lo (L.getD k 0)))) := by
  have hl := Ff.flat_length L
  rw [h.cell, h.cell, Ws_at _ _ (by omega), Ws_at _ _ (by omega), Nat.mul_comm k 2, Ff.flat_hi L k hk, Ff.flat_lo L k hk]
  exact ⟨rfl, rfl⟩
theorem flatSet {w : World} {g : Nat} {L : List Nat} (h : Blk w g (Ws (Ff.flat L)) 99) (k n : Nat) :
    (w.setCell ⟨g, k * 2, none⟩ (.int .u64 (U (Ff.hi n)))).setCell ⟨g, k * 2 + 1, none⟩ (.int .u64 (U (Ff.lo n))) = w.setRow g (Ws (Ff.flat (L.set k n))) := by
  rw [h.set, (h.row _).set, setRow_setRow, Ws_set, Ws_set, Nat.mul_comm k 2, Ff.flat_set]

set_option maxRecDepth 100000 in
set_option maxHeartbeats 4000000 in
theorem F_times (a b : List (BitVec 64)) (w : World) (ha : a.length = 5) (hb : b.length = 5) :
    Calls Tryd.prog 60 #[.agg (Ws a), .agg (Ws b)] w fun e w' => e = .returned (.agg (Ws (Ff.times a b))) ∧ Below w.heap.size w w' := by
  have sa : (Ws a).size = 5 := by rw [Ws_size, ha]
  have sb : (Ws b).size = 5 := by rw [Ws_size, hb]
  have hb1 := Blk.alloc (Blk.alloc (Blk.alloc (Blk.new w (Ws a) 58) (.cells (Ws b) 58)) (.cells (Ws [0, 0, 0, 0, 0]) 58)) (.cells (Ws [0, 0, 0, 0, 0, 0, 0, 0, 0, 0]) 99)
  have hb2 := Blk.alloc (Blk.alloc (Blk.new (w.alloc (.cells (Ws a) 58)) (Ws b) 58) (.cells (Ws [0, 0, 0, 0, 0]) 58)) (.cells (Ws [0, 0, 0, 0, 0, 0, 0, 0, 0, 0]) 99)
  have hb3 := Blk.alloc (Blk.new ((w.alloc (.cells (Ws a) 58)).alloc (.cells (Ws b) 58)) (Ws [0, 0, 0, 0, 0]) 58) (.cells (Ws [0, 0, 0, 0, 0, 0, 0, 0, 0, 0]) 99)
  have hb4 := Blk.new (((w.alloc (.cells (Ws a) 58)).alloc (.cells (Ws b) 58)).alloc (.cells (Ws [0, 0, 0, 0, 0]) 58)) (Ws [0, 0, 0, 0, 0, 0, 0, 0, 0, 0]) 99
  have hbel : Below w.heap.size w ((((w.alloc (.cells (Ws a) 58)).alloc (.cells (Ws b) 58)).alloc (.cells (Ws [0, 0, 0, 0, 0]) 58)).alloc (.cells (Ws [0, 0, 0, 0, 0, 0, 0, 0, 0, 0]) 99)) :=
    ((((Below.refl _ _).alloc (Nat.le_refl _) _).alloc (by simp) _).alloc (by simp; omega) _).alloc (by simp; omega) _
  rw [show (w.alloc (.cells (Ws a) 58)).heap.size = w.heap.size + 1 by simp] at hb2
  rw [show ((w.alloc (.cells (Ws a) 58)).alloc (.cells (Ws b) 58)).heap.size = w.heap.size + 1 + 1 by simp] at hb3
  rw [show (((w.alloc (.cells (Ws a) 58)).alloc (.cells (Ws b) 58)).alloc (.cells (Ws [0, 0, 0, 0, 0]) 58)).heap.size = w.heap.size + 1 + 1 + 1 by simp, ← flat0] at hb4
  go_enter Tryd.func60, Tryd.ntmps60
  go_wp2_with fail
  rw [FZ5, FZ10, ← flat0]
  rw [← flat0] at hb1 hb2 hb3 hbel
  generalize (((w.alloc (.cells (Ws a) 58)).alloc (.cells (Ws b) 58)).alloc (.cells (Ws [0, 0, 0, 0, 0]) 58)).alloc (.cells (Ws (Ff.flat [0, 0, 0, 0, 0])) 99) = w1 at hb1 hb2 hb3 hb4 hbel ⊢
  go_loopw [9] (fun i wr => ∃ k : Nat, k ≤ 5 ∧ i = .int .i64 k ∧ TimS w.heap.size a b (Ff.timesTo a b k) wr ∧ Blk wr (w.heap.size + 1 + 1) (Ws [0, 0, 0, 0, 0]) 58 ∧ Below w.heap.size w wr) (fun i _ => 5 - (intOf i).toNat)
  case atStart => exact ⟨0, by omega, rfl, ⟨hb1, hb2, hb4⟩, hb3, hbel⟩
  case round =>
    clear hb1 hb2 hb3 hb4 hbel w1
    obtain ⟨i, hi, rfl, hS, hb3, hbel⟩ := hrel
    by_cases hlt : i < 5
    · have i1 : (i : Int) < 5 := by omega
      have hlS : (Ff.timesTo a b i).length = 5 := Ff.timesTo_length _ _ _
      have HT : Hid (Ff.timesTo a b (i + 1) = Ff.rowT a b (Ff.timesTo a b i) i 5) := by
        have : Ff.timesTo a b (i + 1) = Ff.rowT a b (Ff.timesTo a b i) i 5 := rfl
        exact this
      generalize Ff.timesTo a b i = S at hS hlS HT
      go_wp2_with fail
      go_loopw [12] (fun c wr => ∃ j : Nat, j ≤ 5 ∧ c = .int .i64 j ∧ TimS w.heap.size a b (Ff.rowT a b S i j) wr ∧ Blk wr (w.heap.size + 1 + 1) (Ws [0, 0, 0, 0, 0]) 58 ∧ Below w.heap.size w wr) (fun c _ => 5 - (intOf c).toNat)
      case atStart => exact ⟨0, by omega, rfl, hS, hb3, hbel⟩
      case round =>
        clear hS hb3 hbel
        obtain ⟨j, hj, rfl, hS, hb3, hbel⟩ := hrel
        by_cases hlj : j < 5
        · have j1 : (j : Int) < 5 := by omega
          have hlL : (Ff.rowT a b S i j).length = 5 := by rw [Ff.rowT_length, hlS]
          have HR : Hid (Ff.rowT a b S i (j + 1) = Ff.tstep (Ff.rowT a b S i j) a b i j) := by
            have : Ff.rowT a b S i (j + 1) = Ff.tstep (Ff.rowT a b S i j) a b i j := rfl
            exact this
          generalize Ff.rowT a b S i j = L at hS hlL HR
          have HX : Hid (∀ wx : World, Blk wx w.heap.size (Ws a) 58 → wx.cell? ⟨w.heap.size, i, none⟩ = some (.int .u64 (U (a.getD i 0)))) := fun wx h => by rw [h.cell, Ws_at _ _ (by omega)]
          have HY : Hid (∀ wx : World, Blk wx (w.heap.size + 1) (Ws b) 58 → wx.cell? ⟨w.heap.size + 1, j, none⟩ = some (.int .u64 (U (b.getD j 0)))) := fun wx h => by rw [h.cell, Ws_at _ _ (by omega)]
          by_cases hs : i + j < 5
          · skip
            have s1 : (i : Int) + (j : Int) < 5 := by omega
            have s2 : ((i : Int) + (j : Int)).toNat = i + j := by omega
            have s3 : (0 : Int) ≤ (i : Int) + (j : Int) := by omega
            have s4 : IntKind.i64.wrap ((i : Int) + (j : Int)) = (i : Int) + (j : Int) := by rw [IntKind.wrap_i64]; omega
            have HS : Hid (Ff.tstep L a b i j = L.set (i + j) (Ff.wplus (L.getD (i + j) 0) (a.getD i 0) (b.getD j 0))) := by
              have : Ff.tstep L a b i j = L.set (i + j) (Ff.wplus (L.getD (i + j) 0) (a.getD i 0) (b.getD j 0)) := by unfold Ff.tstep; rw [if_pos hs]
              exact this
            have HL : Hid (∀ wx : World, Blk wx (w.heap.size + 1 + 1 + 1) (Ws (Ff.flat L)) 99 → wx.cell? ⟨w.heap.size + 1 + 1 + 1, (i + j) * 2, none⟩ = some (.int .u64 (U (Ff.hi (L.getD (i + j) 0)))) ∧ wx.cell? ⟨w.heap.size + 1 + 1 + 1, (i + j) * 2 + 1, none⟩ = some (.int .u64 (U (Ff.lo (L.getD (i + j) 0))))) := fun wx h => flatCell h (i + j) (by omega)
            generalize hn : L.getD (i + j) 0 = n at HS HL
            clear hn
            generalize a.getD i 0 = x at HX HS
            generalize b.getD j 0 = y at HY HS
            have HW : Hid (∀ wx : World, Calls Tryd.prog 78 #[.agg #[.int .u64 (U (Ff.hi n)), .int .u64 (U (Ff.lo n))], .int .u64 (U x), .int .u64 (U y)] wx fun e w' => e = .returned (.agg #[.int .u64 (U (Ff.hi (Ff.wplus n x y))), .int .u64 (U (Ff.lo (Ff.wplus n x y)))]) ∧ Below wx.heap.size wx w') := fun wx => F_wplus n x y wx
            generalize Ff.wplus n x y = m at HW HS
            generalize hH : Ff.hi n = nh at HL HW
            generalize hO : Ff.lo n = nl at HL HW
            clear hH hO
            go_wp2_with fail
            have hS0 : TimS w.heap.size a b L wr.drew := hS
            have hz1 : Blk wr.drew (w.heap.size + 1 + 1) (Ws [0, 0, 0, 0, 0]) 58 := hb3
            have bel1 : Below w.heap.size w wr.drew := hbel.drew
            refine wp_region_last (S := TimS w.heap.size a b L) (l := 12) (by kernel_rfl) ?_
            clear hS hb3 hbel
            generalize World.drew wr = wd at hS0 hz1 bel1 ⊢
            refine wpAnyL_take (i := 0) (v := ?v0p) rfl (by kernel_rfl) (by kernel_rfl) (by kernel_rfl) (by kernel_rfl) (by kernel_rfl) (fun _ _ _ h => h) (Or.inl ⟨by rfl, ?hy0p⟩) hS0 ?rest0p
            case hy0p => (intro wx hSx; clear hSx; go_simp; try (with_reducible rfl))
            refine wpAnyL_take (i := 1) (v := ?v1p) rfl (by kernel_rfl) (by kernel_rfl) (by kernel_rfl) (by kernel_rfl) (by kernel_rfl) (fun _ _ _ h => h) (Or.inl ⟨by rfl, ?hy1p⟩) hS0 ?rest1p
            case hy1p => (intro wx hSx; clear hSx; go_simp; try (with_reducible rfl))
            refine wpAnyL_take (i := 2) (v := ?v2p) rfl (by kernel_rfl) (by kernel_rfl) (by kernel_rfl) (by kernel_rfl) (by kernel_rfl) (fun _ _ _ h => h) (Or.inl ⟨by rfl, ?hy2p⟩) hS0 ?rest2p
            case hy2p => (intro wx hSx; clear hSx; go_simp; try (with_reducible rfl))
            refine wpAnyL_take (i := 3) (v := ?v3p) rfl (by kernel_rfl) (by kernel_rfl) (by kernel_rfl) (by kernel_rfl) (by kernel_rfl) (fun _ _ _ h => h) (Or.inl ⟨by rfl, ?hy3p⟩) hS0 ?rest3p
            case hy3p => (intro wx hSx; obtain ⟨c0, c1⟩ := HL.out wx hSx.2.2; clear hSx; go_simp; try (with_reducible rfl))
            refine wpAnyL_take (i := 4) (v := ?v4p) rfl (by kernel_rfl) (by kernel_rfl) (by kernel_rfl) (by kernel_rfl) (by kernel_rfl) (fun _ _ _ h => h) (Or.inl ⟨by rfl, ?hy4p⟩) hS0 ?rest4p
            case hy4p => (intro wx hSx; clear hSx; go_simp; try (with_reducible rfl))
            refine wpAnyL_take (i := 5) (v := ?v5p) rfl (by kernel_rfl) (by kernel_rfl) (by kernel_rfl) (by kernel_rfl) (by kernel_rfl) (fun _ _ _ h => h) (Or.inl ⟨by rfl, ?hy5p⟩) hS0 ?rest5p
            case hy5p => (intro wx hSx; clear hSx; go_simp; try (with_reducible rfl))
            refine wpAnyL_take (i := 6) (v := ?v6p) rfl (by kernel_rfl) (by kernel_rfl) (by kernel_rfl) (by kernel_rfl) (by kernel_rfl) (fun _ _ _ h => h) (Or.inl ⟨by rfl, ?hy6p⟩) hS0 ?rest6p
            case hy6p => (intro wx hSx; have c0 := HX.out wx hSx.1; clear hSx; go_simp; try (with_reducible rfl))
            refine wpAnyL_take (i := 7) (v := ?v7p) rfl (by kernel_rfl) (by kernel_rfl) (by kernel_rfl) (by kernel_rfl) (by kernel_rfl) (fun _ _ _ h => h) (Or.inl ⟨by rfl, ?hy7p⟩) hS0 ?rest7p
            case hy7p => (intro wx hSx; clear hSx; go_simp; try (with_reducible rfl))
            refine wpAnyL_take (i := 8) (v := ?v8p) rfl (by kernel_rfl) (by kernel_rfl) (by kernel_rfl) (by kernel_rfl) (by kernel_rfl) (fun _ _ _ h => h) (Or.inl ⟨by rfl, ?hy8p⟩) hS0 ?rest8p
            case hy8p => (intro wx hSx; clear hSx; go_simp; try (with_reducible rfl))
            refine wpAnyL_take (i := 9) (v := ?v9p) rfl (by kernel_rfl) (by kernel_rfl) (by kernel_rfl) (by kernel_rfl) (by kernel_rfl) (fun _ _ _ h => h) (Or.inl ⟨by rfl, ?hy9p⟩) hS0 ?rest9p
            case hy9p => (intro wx hSx; have c0 := HY.out wx hSx.2.1; clear hSx; go_simp; try (with_reducible rfl))
            refine wpAnyL_one (i := 10) (by kernel_rfl) rfl (fun K hK => ?_)
            go_simp
            go_wp2_with (go_at_call 78; refine (HW.out _).mono ?_; rintro e x0 ⟨rfl, k0⟩)
            have hS1 : TimS w.heap.size a b L x0 := ⟨hS0.1.keep k0, hS0.2.1.keep k0, hS0.2.2.keep k0⟩
            have hz2 := hz1.keep k0
            have bel2 := bel1.trans (k0.mono bel1.size)
            refine hK.out _ _ hS1 ?_
            clear hK K hS0 hz1 bel1 k0
            try simp only [Act.put, List.setIfInBounds_toArray, List.set_cons_zero, List.set_cons_succ]
            refine wpAnyL_take (i := 11) (v := ?v11p) rfl (by kernel_rfl) (by kernel_rfl) (by kernel_rfl) (by kernel_rfl) (by kernel_rfl) (fun _ _ _ h => h) (Or.inl ⟨by rfl, ?hy11p⟩) hS1 ?rest11p
            case hy11p => (intro wx hSx; clear hSx; go_simp; try (with_reducible rfl))
            refine wpAnyL_last (by kernel_rfl) rfl (by kernel_rfl) (fun K hK => ?_)
            obtain ⟨c0, c1⟩ := HL.out x0 hS1.2.2
            have f0 := hS1.2.2.frozen ((i + j) * 2)
            have f1 := hS1.2.2.frozen ((i + j) * 2 + 1)
            go_simp
            refine hK.out _ _ ?_
            clear hK K
            go_wp2
            go_roundw
            case rel =>
              rw [flatSet hS1.2.2 (i + j) m]
              refine ⟨j + 1, by omega, by go_num, ⟨hS1.1.other (by omega) _, hS1.2.1.other (by omega) _, ?_⟩, hz2.other (by omega) _, below_setRow bel2 (by omega) _⟩
              rw [show Ff.rowT a b S i (j + 1) = _ from HR.out, show Ff.tstep L a b i j = _ from HS.out]; exact hS1.2.2.row _
            case measure => simp [intOf]; omega
          · skip
            have s1 : ¬ (i : Int) + (j : Int) < 5 := by omega
            have s2 : ((i : Int) + (j : Int) - 5).toNat = i + j - 5 := by omega
            have s3 : (0 : Int) ≤ (i : Int) + (j : Int) - 5 := by omega
            have s5 : (i : Int) + (j : Int) - 5 < 5 := by omega
            have s4 : IntKind.i64.wrap ((i : Int) + (j : Int)) = (i : Int) + (j : Int) := by rw [IntKind.wrap_i64]; omega
            have s6 : IntKind.i64.wrap ((i : Int) + (j : Int) - 5) = (i : Int) + (j : Int) - 5 := by rw [IntKind.wrap_i64]; omega
            have HS : Hid (Ff.tstep L a b i j = L.set (i + j - 5) (Ff.wplus (L.getD (i + j - 5) 0) (a.getD i 0) (19 * b.getD j 0))) := by
              have : Ff.tstep L a b i j = L.set (i + j - 5) (Ff.wplus (L.getD (i + j - 5) 0) (a.getD i 0) (19 * b.getD j 0)) := by unfold Ff.tstep; rw [if_neg hs]
              exact this
            have HL : Hid (∀ wx : World, Blk wx (w.heap.size + 1 + 1 + 1) (Ws (Ff.flat L)) 99 → wx.cell? ⟨w.heap.size + 1 + 1 + 1, (i + j - 5) * 2, none⟩ = some (.int .u64 (U (Ff.hi (L.getD (i + j - 5) 0)))) ∧ wx.cell? ⟨w.heap.size + 1 + 1 + 1, (i + j - 5) * 2 + 1, none⟩ = some (.int .u64 (U (Ff.lo (L.getD (i + j - 5) 0))))) := fun wx h => flatCell h (i + j - 5) (by omega)
            generalize hn : L.getD (i + j - 5) 0 = n at HS HL
            clear hn
            generalize a.getD i 0 = x at HX HS
            generalize b.getD j 0 = y at HY HS
            have a3 := F_mul19 y
            generalize 19 * y = y9 at a3 HS
            have HW : Hid (∀ wx : World, Calls Tryd.prog 78 #[.agg #[.int .u64 (U (Ff.hi n)), .int .u64 (U (Ff.lo n))], .int .u64 (U x), .int .u64 (U y9)] wx fun e w' => e = .returned (.agg #[.int .u64 (U (Ff.hi (Ff.wplus n x y9))), .int .u64 (U (Ff.lo (Ff.wplus n x y9)))]) ∧ Below wx.heap.size wx w') := fun wx => F_wplus n x y9 wx
            generalize Ff.wplus n x y9 = m at HW HS
            generalize hH : Ff.hi n = nh at HL HW
            generalize hO : Ff.lo n = nl at HL HW
            clear hH hO
            go_wp2_with fail
            have hS0 : TimS w.heap.size a b L wr.drew := hS
            have hz1 : Blk wr.drew (w.heap.size + 1 + 1) (Ws [0, 0, 0, 0, 0]) 58 := hb3
            have bel1 : Below w.heap.size w wr.drew := hbel.drew
            refine wp_region_last (S := TimS w.heap.size a b L) (l := 15) (by kernel_rfl) ?_
            clear hS hb3 hbel
            generalize World.drew wr = wd at hS0 hz1 bel1 ⊢
            refine wpAnyL_take (i := 0) (v := ?v0m) rfl (by kernel_rfl) (by kernel_rfl) (by kernel_rfl) (by kernel_rfl) (by kernel_rfl) (fun _ _ _ h => h) (Or.inl ⟨by rfl, ?hy0m⟩) hS0 ?rest0m
            case hy0m => (intro wx hSx; clear hSx; go_simp; try (with_reducible rfl))
            refine wpAnyL_take (i := 1) (v := ?v1m) rfl (by kernel_rfl) (by kernel_rfl) (by kernel_rfl) (by kernel_rfl) (by kernel_rfl) (fun _ _ _ h => h) (Or.inl ⟨by rfl, ?hy1m⟩) hS0 ?rest1m
            case hy1m => (intro wx hSx; clear hSx; go_simp; try (with_reducible rfl))
            refine wpAnyL_take (i := 2) (v := ?v2m) rfl (by kernel_rfl) (by kernel_rfl) (by kernel_rfl) (by kernel_rfl) (by kernel_rfl) (fun _ _ _ h => h) (Or.inl ⟨by rfl, ?hy2m⟩) hS0 ?rest2m
            case hy2m => (intro wx hSx; clear hSx; go_simp; try (with_reducible rfl))
            refine wpAnyL_take (i := 3) (v := ?v3m) rfl (by kernel_rfl) (by kernel_rfl) (by kernel_rfl) (by kernel_rfl) (by kernel_rfl) (fun _ _ _ h => h) (Or.inl ⟨by rfl, ?hy3m⟩) hS0 ?rest3m
            case hy3m => (intro wx hSx; clear hSx; go_simp; try (with_reducible rfl))
            refine wpAnyL_take (i := 4) (v := ?v4m) rfl (by kernel_rfl) (by kernel_rfl) (by kernel_rfl) (by kernel_rfl) (by kernel_rfl) (fun _ _ _ h => h) (Or.inl ⟨by rfl, ?hy4m⟩) hS0 ?rest4m
            case hy4m => (intro wx hSx; clear hSx; go_simp; try (with_reducible rfl))
            refine wpAnyL_take (i := 5) (v := ?v5m) rfl (by kernel_rfl) (by kernel_rfl) (by kernel_rfl) (by kernel_rfl) (by kernel_rfl) (fun _ _ _ h => h) (Or.inl ⟨by rfl, ?hy5m⟩) hS0 ?rest5m
            case hy5m => (intro wx hSx; obtain ⟨c0, c1⟩ := HL.out wx hSx.2.2; clear hSx; go_simp; try (with_reducible rfl))
            refine wpAnyL_take (i := 6) (v := ?v6m) rfl (by kernel_rfl) (by kernel_rfl) (by kernel_rfl) (by kernel_rfl) (by kernel_rfl) (fun _ _ _ h => h) (Or.inl ⟨by rfl, ?hy6m⟩) hS0 ?rest6m
            case hy6m => (intro wx hSx; clear hSx; go_simp; try (with_reducible rfl))
            refine wpAnyL_take (i := 7) (v := ?v7m) rfl (by kernel_rfl) (by kernel_rfl) (by kernel_rfl) (by kernel_rfl) (by kernel_rfl) (fun _ _ _ h => h) (Or.inl ⟨by rfl, ?hy7m⟩) hS0 ?rest7m
            case hy7m => (intro wx hSx; clear hSx; go_simp; try (with_reducible rfl))
            refine wpAnyL_take (i := 8) (v := ?v8m) rfl (by kernel_rfl) (by kernel_rfl) (by kernel_rfl) (by kernel_rfl) (by kernel_rfl) (fun _ _ _ h => h) (Or.inl ⟨by rfl, ?hy8m⟩) hS0 ?rest8m
            case hy8m => (intro wx hSx; have c0 := HX.out wx hSx.1; clear hSx; go_simp; try (with_reducible rfl))
            refine wpAnyL_take (i := 9) (v := ?v9m) rfl (by kernel_rfl) (by kernel_rfl) (by kernel_rfl) (by kernel_rfl) (by kernel_rfl) (fun _ _ _ h => h) (Or.inl ⟨by rfl, ?hy9m⟩) hS0 ?rest9m
            case hy9m => (intro wx hSx; clear hSx; go_simp; try (with_reducible rfl))
            refine wpAnyL_take (i := 10) (v := ?v10m) rfl (by kernel_rfl) (by kernel_rfl) (by kernel_rfl) (by kernel_rfl) (by kernel_rfl) (fun _ _ _ h => h) (Or.inl ⟨by rfl, ?hy10m⟩) hS0 ?rest10m
            case hy10m => (intro wx hSx; clear hSx; go_simp; try (with_reducible rfl))
            refine wpAnyL_take (i := 11) (v := ?v11m) rfl (by kernel_rfl) (by kernel_rfl) (by kernel_rfl) (by kernel_rfl) (by kernel_rfl) (fun _ _ _ h => h) (Or.inl ⟨by rfl, ?hy11m⟩) hS0 ?rest11m
            case hy11m => (intro wx hSx; have c0 := HY.out wx hSx.2.1; clear hSx; go_simp; try (with_reducible rfl))
            refine wpAnyL_take (i := 12) (v := ?v12m) rfl (by kernel_rfl) (by kernel_rfl) (by kernel_rfl) (by kernel_rfl) (by kernel_rfl) (fun _ _ _ h => h) (Or.inl ⟨by rfl, ?hy12m⟩) hS0 ?rest12m
            case hy12m => (intro wx hSx; clear hSx; go_simp; try (with_reducible rfl))
            refine wpAnyL_one (i := 13) (by kernel_rfl) rfl (fun K hK => ?_)
            go_simp
            go_wp2_with (go_at_call 78; refine (HW.out _).mono ?_; rintro e x0 ⟨rfl, k0⟩)
            have hS1 : TimS w.heap.size a b L x0 := ⟨hS0.1.keep k0, hS0.2.1.keep k0, hS0.2.2.keep k0⟩
            have hz2 := hz1.keep k0
            have bel2 := bel1.trans (k0.mono bel1.size)
            refine hK.out _ _ hS1 ?_
            clear hK K hS0 hz1 bel1 k0
            try simp only [Act.put, List.setIfInBounds_toArray, List.set_cons_zero, List.set_cons_succ]
            refine wpAnyL_take (i := 14) (v := ?v14m) rfl (by kernel_rfl) (by kernel_rfl) (by kernel_rfl) (by kernel_rfl) (by kernel_rfl) (fun _ _ _ h => h) (Or.inl ⟨by rfl, ?hy14m⟩) hS1 ?rest14m
            case hy14m => (intro wx hSx; clear hSx; go_simp; try (with_reducible rfl))
            refine wpAnyL_last (by kernel_rfl) rfl (by kernel_rfl) (fun K hK => ?_)
            obtain ⟨c0, c1⟩ := HL.out x0 hS1.2.2
            have f0 := hS1.2.2.frozen ((i + j - 5) * 2)
            have f1 := hS1.2.2.frozen ((i + j - 5) * 2 + 1)
            go_simp
            refine hK.out _ _ ?_
            clear hK K
            go_wp2
            go_roundw
            case rel =>
              rw [flatSet hS1.2.2 (i + j - 5) m]
              refine ⟨j + 1, by omega, by go_num, ⟨hS1.1.other (by omega) _, hS1.2.1.other (by omega) _, ?_⟩, hz2.other (by omega) _, below_setRow bel2 (by omega) _⟩
              rw [show Ff.rowT a b S i (j + 1) = _ from HR.out, show Ff.tstep L a b i j = _ from HS.out]; exact hS1.2.2.row _
            case measure => simp [intOf]; omega
        · have hj5 : j = 5 := by omega
          subst hj5
          go_wp2
          go_roundw
          case rel => exact ⟨i + 1, by omega, by go_num, by rw [show Ff.timesTo a b (i + 1) = _ from HT.out]; exact hS, hb3, hbel⟩
          case measure => simp [intOf]; omega
    · have hk8 : i = 5 := by omega
      subst hk8
      rw [show ((5 : Nat) : Int) = 5 from rfl]
      have hlS : (Ff.timesTo a b 5).length = 5 := Ff.timesTo_length _ _ _
      have HE : Hid (Ff.times a b = Ff.narrow (Ff.timesTo a b 5)) := by
        have : Ff.times a b = Ff.narrow (Ff.timesTo a b 5) := by unfold Ff.times; rfl
        exact this
      generalize Ff.timesTo a b 5 = T at hlS hS HE
      have H1 : Hid (∀ wx : World, Calls Tryd.prog 79 #[.agg (Ws (Ff.flat T))] wx fun e w' => e = .returned (.agg (Ws (Ff.narrow T))) ∧ Below wx.heap.size wx w') := fun wx => F_narrow _ wx hlS
      have hlR : (Ff.narrow T).length = 5 := Ff.narrow_length _
      generalize Ff.narrow T = R at H1 hlR HE
      have g4 := hS.2.2
      unfold Blk at g4
      have sT : (Ws (Ff.flat T)).size = 10 := by rw [Ws_size, Ff.flat_length, hlS]
      have sR : (Ws R).size = 5 := by rw [Ws_size, hlR]
      generalize Ff.flat T = F at H1 g4 sT
      go_wp2_with (first
        | (refine wpList_load_row rfl 99 _ rfl (w.heap.size + 1 + 1 + 1) rfl 99 _ (0, 0) _ g4 Tryd.underlying99 rfl (by rw [sT]; exact Tryd.infoW10) ?_))
      refine (H1.out _).mono ?_
      rintro e w2 ⟨rfl, k2⟩
      replace hb3 := hb3.keep k2
      replace hbel := hbel.trans (k2.mono hbel.size)
      have hst := storeRow (l := R) hb3 (by rw [hlR]; rfl)
      go_wp2
      refine bodyPost_ret (v := .agg (Ws R)) ?_ rfl ⟨by rw [show Ff.times a b = R from HE.out], below_setRow hbel (by omega) _⟩
      exact results_cell_row rfl _ _ (w.heap.size + 1 + 1) 58 _ (0, 0) _ rfl (hb3.row _) Tryd.underlying58 rfl (by rw [sR]; exact Tryd.infoF5)

end Go.Proofs.YtclpbaokadfhhaaDoor
