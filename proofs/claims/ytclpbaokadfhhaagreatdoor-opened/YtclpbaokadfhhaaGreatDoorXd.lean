/- Several texts as one: Fx, Fq, Fo. -/
import Derived.Test.YtclpbaokadfhhaaGreatDoorXc
import Derived.Test.YtclpbaokadfhhaaGreatDoorZe
namespace Go.Proofs.YtclpbaokadfhhaaGreatDoor
open Go.RowKit

/-- what the loops' numbers are -/
def TimS (p : Nat) (a b : List (BitVec 64)) (L : List Nat) (w : World) : Prop := Blk w p (Ws a) 69 ∧ Blk w (p + 1) (Ws b) 69 ∧ Blk w (p + 1 + 1 + 1) (Ws (Ff.flat L)) 163
theorem FZ10 : (#[.int .u64 0, .int .u64 0, .int .u64 0, .int .u64 0, .int .u64 0, .int .u64 0, .int .u64 0, .int .u64 0, .int .u64 0, .int .u64 0] : Array Value) = Ws [0, 0, 0, 0, 0, 0, 0, 0, 0, 0] := rfl
theorem flat0 : Ff.flat [0, 0, 0, 0, 0] = [0, 0, 0, 0, 0, 0, 0, 0, 0, 0] := by decide
theorem flatCell {w : World} {g : Nat} {L : List Nat} (h : Blk w g (Ws (Ff.flat L)) 163) (k : Nat) (hk : k < L.length) :
    w.cell? ⟨g, k * 2, none⟩ = some (.int .u64 (U (Ff.hi (L.getD k 0)))) ∧ w.cell? ⟨g, k * 2 + 1, none⟩ = some (.int .u64 (U (Ff.lo (L.getD k 0)))) := by
  have hl := Ff.flat_length L
  rw [h.cell, h.cell, Ws_at _ _ (by omega), Ws_at _ _ (by omega), Nat.mul_comm k 2, Ff.flat_hi L k hk, Ff.flat_lo L k hk]
  exact ⟨rfl, rfl⟩
theorem flatSet {w : World} {g : Nat} {L : List Nat} (h : Blk w g (Ws (Ff.flat L)) 163) (k n : Nat) :
    (w.setCell ⟨g, k * 2, none⟩ (.int .u64 (U (Ff.hi n)))).setCell ⟨g, k * 2 + 1, none⟩ (.int .u64 (U (Ff.lo n))) = w.setRow g (Ws (Ff.flat (L.set k n))) := by
  rw [h.set, (h.row _).set, setRow_setRow, Ws_set, Ws_set, Nat.mul_comm k 2, Ff.flat_set]

set_option maxRecDepth 100000 in
set_option maxHeartbeats 4000000 in
theorem F_times (a b : List (BitVec 64)) (w : World) (ha : a.length = 5) (hb : b.length = 5) :
    Calls Tryz.prog 111 #[.agg (Ws a), .agg (Ws b)] w fun e w' => e = .returned (.agg (Ws (Ff.times a b))) ∧ Below w.heap.size w w' := by
  have sa : (Ws a).size = 5 := by rw [Ws_size, ha]
  have sb : (Ws b).size = 5 := by rw [Ws_size, hb]
  have hb1 := Blk.alloc (Blk.alloc (Blk.alloc (Blk.new w (Ws a) 69) (.cells (Ws b) 69)) (.cells (Ws [0, 0, 0, 0, 0]) 69)) (.cells (Ws [0, 0, 0, 0, 0, 0, 0, 0, 0, 0]) 163)
  have hb2 := Blk.alloc (Blk.alloc (Blk.new (w.alloc (.cells (Ws a) 69)) (Ws b) 69) (.cells (Ws [0, 0, 0, 0, 0]) 69)) (.cells (Ws [0, 0, 0, 0, 0, 0, 0, 0, 0, 0]) 163)
  have hb3 := Blk.alloc (Blk.new ((w.alloc (.cells (Ws a) 69)).alloc (.cells (Ws b) 69)) (Ws [0, 0, 0, 0, 0]) 69) (.cells (Ws [0, 0, 0, 0, 0, 0, 0, 0, 0, 0]) 163)
  have hb4 := Blk.new (((w.alloc (.cells (Ws a) 69)).alloc (.cells (Ws b) 69)).alloc (.cells (Ws [0, 0, 0, 0, 0]) 69)) (Ws [0, 0, 0, 0, 0, 0, 0, 0, 0, 0]) 163
  have hbel : Below w.heap.size w ((((w.alloc (.cells (Ws a) 69)).alloc (.cells (Ws b) 69)).alloc (.cells (Ws [0, 0, 0, 0, 0]) 69)).alloc (.cells (Ws [0, 0, 0, 0, 0, 0, 0, 0, 0, 0]) 163)) :=
    ((((Below.refl _ _).alloc (Nat.le_refl _) _).alloc (by simp) _).alloc (by simp; omega) _).alloc (by simp; omega) _
  rw [show (w.alloc (.cells (Ws a) 69)).heap.size = w.heap.size + 1 by simp] at hb2
  rw [show ((w.alloc (.cells (Ws a) 69)).alloc (.cells (Ws b) 69)).heap.size = w.heap.size + 1 + 1 by simp] at hb3
  rw [show (((w.alloc (.cells (Ws a) 69)).alloc (.cells (Ws b) 69)).alloc (.cells (Ws [0, 0, 0, 0, 0]) 69)).heap.size = w.heap.size + 1 + 1 + 1 by simp, ← flat0] at hb4
  go_enter Tryz.func111, Tryz.ntmps111
  go_wp2_with fail
  rw [FZ5, FZ10, ← flat0]
  rw [← flat0] at hb1 hb2 hb3 hbel
  generalize (((w.alloc (.cells (Ws a) 69)).alloc (.cells (Ws b) 69)).alloc (.cells (Ws [0, 0, 0, 0, 0]) 69)).alloc (.cells (Ws (Ff.flat [0, 0, 0, 0, 0])) 163) = w1 at hb1 hb2 hb3 hb4 hbel ⊢
  go_loopw [9] (fun i wr => ∃ k : Nat, k ≤ 5 ∧ i = .int .i64 k ∧ TimS w.heap.size a b (Ff.timesTo a b k) wr ∧ Blk wr (w.heap.size + 1 + 1) (Ws [0, 0, 0, 0, 0]) 69 ∧ Below w.heap.size w wr) (fun i _ => 5 - (intOf i).toNat)
  case atStart => exact ⟨0, by omega, rfl, ⟨hb1, hb2, hb4⟩, hb3, hbel⟩
  case round =>
    clear hb1 hb2 hb3 hb4 hbel w1
    obtain ⟨i, hi, rfl, hS, hb3, hbel⟩ := hrel
    by_cases hlt : i < 5
    · have i1 : (i : Int) < 5 := by omega
      have hlS : (Ff.timesTo a b i).length = 5 := Ff.timesTo_length _ _ _
      have HT : Hid (Ff.timesTo a b (i + 1) = Ff.rowT a b (Ff.timesTo a b i) i 5) := by
        have : Ff.timesTo a b (i + 1) = Ff.rowT a b (Ff.timesTo a b i) i 5 := rfl
        exact this
      generalize Ff.timesTo a b i = S at hS hlS HT
      go_wp2_with fail
      go_loopw [12] (fun c wr => ∃ j : Nat, j ≤ 5 ∧ c = .int .i64 j ∧ TimS w.heap.size a b (Ff.rowT a b S i j) wr ∧ Blk wr (w.heap.size + 1 + 1) (Ws [0, 0, 0, 0, 0]) 69 ∧ Below w.heap.size w wr) (fun c _ => 5 - (intOf c).toNat)
      case atStart => exact ⟨0, by omega, rfl, hS, hb3, hbel⟩
      case round =>
        clear hS hb3 hbel
        obtain ⟨j, hj, rfl, hS, hb3, hbel⟩ := hrel
        by_cases hlj : j < 5
        · have j1 : (j : Int) < 5 := by omega
          have hlL : (Ff.rowT a b S i j).length = 5 := by rw [Ff.rowT_length, hlS]
          have HR : Hid (Ff.rowT a b S i (j + 1) = Ff.tstep (Ff.rowT a b S i j) a b i j) := by
            have : Ff.rowT a b S i (j + 1) = Ff.tstep (Ff.rowT a b S i j) a b i j := rfl
            exact this
          generalize Ff.rowT a b S i j = L at hS hlL HR
          have HX : Hid (∀ wx : World, Blk wx w.heap.size (Ws a) 69 → wx.cell? ⟨w.heap.size, i, none⟩ = some (.int .u64 (U (a.getD i 0)))) := fun wx h => by rw [h.cell, Ws_at _ _ (by omega)]
          have HY : Hid (∀ wx : World, Blk wx (w.heap.size + 1) (Ws b) 69 → wx.cell? ⟨w.heap.size + 1, j, none⟩ = some (.int .u64 (U (b.getD j 0)))) := fun wx h => by rw [h.cell, Ws_at _ _ (by omega)]
          by_cases hs : i + j < 5
          · skip
            have s1 : (i : Int) + (j : Int) < 5 := by omega
            have s2 : ((i : Int) + (j : Int)).toNat = i + j := by omega
            have s3 : (0 : Int) ≤ (i : Int) + (j : Int) := by omega
            have s4 : IntKind.i64.wrap ((i : Int) + (j : Int)) = (i : Int) + (j : Int) := by rw [IntKind.wrap_i64]; omega
            have HS : Hid (Ff.tstep L a b i j = L.set (i + j) (Ff.wplus (L.getD (i + j) 0) (a.getD i 0) (b.getD j 0))) := by
              have : Ff.tstep L a b i j = L.set (i + j) (Ff.wplus (L.getD (i + j) 0) (a.getD i 0) (b.getD j 0)) := by unfold Ff.tstep; rw [if_pos hs]
              exact this
            have HL : Hid (∀ wx : World, Blk wx (w.heap.size + 1 + 1 + 1) (Ws (Ff.flat L)) 163 → wx.cell? ⟨w.heap.size + 1 + 1 + 1, (i + j) * 2, none⟩ = some (.int .u64 (U (Ff.hi (L.getD (i + j) 0)))) ∧ wx.cell? ⟨w.heap.size + 1 + 1 + 1, (i + j) * 2 + 1, none⟩ = some (.int .u64 (U (Ff.lo (L.getD (i + j) 0))))) := fun wx h => flatCell h (i + j) (by omega)
            generalize hn : L.getD (i + j) 0 = n at HS HL
            clear hn
            generalize a.getD i 0 = x at HX HS
            generalize b.getD j 0 = y at HY HS
            have HW : Hid (∀ wx : World, Calls Tryz.prog 164 #[.agg #[.int .u64 (U (Ff.hi n)), .int .u64 (U (Ff.lo n))], .int .u64 (U x), .int .u64 (U y)] wx fun e w' => e = .returned (.agg #[.int .u64 (U (Ff.hi (Ff.wplus n x y))), .int .u64 (U (Ff.lo (Ff.wplus n x y)))]) ∧ Below wx.heap.size wx w') := fun wx => F_wplus n x y wx
            generalize Ff.wplus n x y = m at HW HS
            generalize hH : Ff.hi n = nh at HL HW
            generalize hO : Ff.lo n = nl at HL HW
            clear hH hO
            go_wp2_with fail
            have hS0 : TimS w.heap.size a b L wr.drew := hS
            have hz1 : Blk wr.drew (w.heap.size + 1 + 1) (Ws [0, 0, 0, 0, 0]) 69 := hb3
            have bel1 : Below w.heap.size w wr.drew := hbel.drew
            refine wp_region_last (S := TimS w.heap.size a b L) (l := 12) (by kernel_rfl) ?_
            clear hS hb3 hbel
            generalize World.drew wr = wd at hS0 hz1 bel1 ⊢
            refine wpAnyL_take (i := 0) (v := ?v0p) rfl (by kernel_rfl) (by kernel_rfl) (by kernel_rfl) (by kernel_rfl) (by kernel_rfl) (fun _ _ _ h => h) (Or.inl ⟨by rfl, ?hy0p⟩) hS0 ?rest0p
            case hy0p => (intro wx hSx; clear hSx; go_simp; try (with_reducible rfl))
            refine wpAnyL_take (i := 1) (v := ?v1p) rfl (by kernel_rfl) (by kernel_rfl) (by kernel_rfl) (by kernel_rfl) (by kernel_rfl) (fun _ _ _ h => h) (Or.inl ⟨by rfl, ?hy1p⟩) hS0 ?rest1p
            case hy1p => (intro wx hSx; clear hSx; go_simp; try (with_reducible rfl))
            refine wpAnyL_take (i := 2) (v := ?v2p) rfl (by kernel_rfl) (by kernel_rfl) (by kernel_rfl) (by kernel_rfl) (by kernel_rfl) (fun _ _ _ h => h) (Or.inl ⟨by rfl, ?hy2p⟩) hS0 ?rest2p
            case hy2p => (intro wx hSx; clear hSx; go_simp; try (with_reducible rfl))
            refine wpAnyL_take (i := 3) (v := ?v3p) rfl (by kernel_rfl) (by kernel_rfl) (by kernel_rfl) (by kernel_rfl) (by kernel_rfl) (fun _ _ _ h => h) (Or.inl ⟨by rfl, ?hy3p⟩) hS0 ?rest3p
            case hy3p => (intro wx hSx; obtain ⟨c0, c1⟩ := HL.out wx hSx.2.2; clear hSx; go_simp; try (with_reducible rfl))
            refine wpAnyL_take (i := 4) (v := ?v4p) rfl (by kernel_rfl) (by kernel_rfl) (by kernel_rfl) (by kernel_rfl) (by kernel_rfl) (fun _ _ _ h => h) (Or.inl ⟨by rfl, ?hy4p⟩) hS0 ?rest4p
            case hy4p => (intro wx hSx; clear hSx; go_simp; try (with_reducible rfl))
            refine wpAnyL_take (i := 5) (v := ?v5p) rfl (by kernel_rfl) (by kernel_rfl) (by kernel_rfl) (by kernel_rfl) (by kernel_rfl) (fun _ _ _ h => h) (Or.inl ⟨by rfl, ?hy5p⟩) hS0 ?rest5p
            case hy5p => (intro wx hSx; clear hSx; go_simp; try (with_reducible rfl))
            refine wpAnyL_take (i := 6) (v := ?v6p) rfl (by kernel_rfl) (by kernel_rfl) (by kernel_rfl) (by kernel_rfl) (by kernel_rfl) (fun _ _ _ h => h) (Or.inl ⟨by rfl, ?hy6p⟩) hS0 ?rest6p
            case hy6p => (intro wx hSx; have c0 := HX.out wx hSx.1; clear hSx; go_simp; try (with_reducible rfl))
            refine wpAnyL_take (i := 7) (v := ?v7p) rfl (by kernel_rfl) (by kernel_rfl) (by kernel_rfl) (by kernel_rfl) (by kernel_rfl) (fun _ _ _ h => h) (Or.inl ⟨by rfl, ?hy7p⟩) hS0 ?rest7p
            case hy7p => (intro wx hSx; clear hSx; go_simp; try (with_reducible rfl))
            refine wpAnyL_take (i := 8) (v := ?v8p) rfl (by kernel_rfl) (by kernel_rfl) (by kernel_rfl) (by kernel_rfl) (by kernel_rfl) (fun _ _ _ h => h) (Or.inl ⟨by rfl, ?hy8p⟩) hS0 ?rest8p
            case hy8p => (intro wx hSx; clear hSx; go_simp; try (with_reducible rfl))
            refine wpAnyL_take (i := 9) (v := ?v9p) rfl (by kernel_rfl) (by kernel_rfl) (by kernel_rfl) (by kernel_rfl) (by kernel_rfl) (fun _ _ _ h => h) (Or.inl ⟨by rfl, ?hy9p⟩) hS0 ?rest9p
            case hy9p => (intro wx hSx; have c0 := HY.out wx hSx.2.1; clear hSx; go_simp; try (with_reducible rfl))
            refine wpAnyL_one (i := 10) (by kernel_rfl) rfl (fun K hK => ?_)
            go_simp
            go_wp2_with (go_at_call 164; refine (HW.out _).mono ?_; rintro e x0 ⟨rfl, k0⟩)
            have hS1 : TimS w.heap.size a b L x0 := ⟨hS0.1.keep k0, hS0.2.1.keep k0, hS0.2.2.keep k0⟩
            have hz2 := hz1.keep k0
            have bel2 := bel1.trans (k0.mono bel1.size)
            refine hK.out _ _ hS1 ?_
            clear hK K hS0 hz1 bel1 k0
            try simp only [Act.put, List.setIfInBounds_toArray, List.set_cons_zero, List.set_cons_succ]
            refine wpAnyL_take (i := 11) (v := ?v11p) rfl (by kernel_rfl) (by kernel_rfl) (by kernel_rfl) (by kernel_rfl) (by kernel_rfl) (fun _ _ _ h => h) (Or.inl ⟨by rfl, ?hy11p⟩) hS1 ?rest11p
            case hy11p => (intro wx hSx; clear hSx; go_simp; try (with_reducible rfl))
            refine wpAnyL_last (by kernel_rfl) rfl (by kernel_rfl) (fun K hK => ?_)
            obtain ⟨c0, c1⟩ := HL.out x0 hS1.2.2
            have f0 := hS1.2.2.frozen ((i + j) * 2)
            have f1 := hS1.2.2.frozen ((i + j) * 2 + 1)
            go_simp
            refine hK.out _ _ ?_
            clear hK K
            go_wp2
            go_roundw
            case rel =>
              rw [flatSet hS1.2.2 (i + j) m]
              refine ⟨j + 1, by omega, by go_num, ⟨hS1.1.other (by omega) _, hS1.2.1.other (by omega) _, ?_⟩, hz2.other (by omega) _, below_setRow bel2 (by omega) _⟩
              rw [show Ff.rowT a b S i (j + 1) = _ from HR.out, show Ff.tstep L a b i j = _ from HS.out]; exact hS1.2.2.row _
            case measure => simp [intOf]; omega
          · skip
            have s1 : ¬ (i : Int) + (j : Int) < 5 := by omega
            have s2 : ((i : Int) + (j : Int) - 5).toNat = i + j - 5 := by omega
            have s3 : (0 : Int) ≤ (i : Int) + (j : Int) - 5 := by omega
            have s5 : (i : Int) + (j : Int) - 5 < 5 := by omega
            have s4 : IntKind.i64.wrap ((i : Int) + (j : Int)) = (i : Int) + (j : Int) := by rw [IntKind.wrap_i64]; omega
            have s6 : IntKind.i64.wrap ((i : Int) + (j : Int) - 5) = (i : Int) + (j : Int) - 5 := by rw [IntKind.wrap_i64]; omega
            have HS : Hid (Ff.tstep L a b i j = L.set (i + j - 5) (Ff.wplus (L.getD (i + j - 5) 0) (a.getD i 0) (19 * b.getD j 0))) := by
              have : Ff.tstep L a b i j = L.set (i + j - 5) (Ff.wplus (L.getD (i + j - 5) 0) (a.getD i 0) (19 * b.getD j 0)) := by unfold Ff.tstep; rw [if_neg hs]
              exact this
            have HL : Hid (∀ wx : World, Blk wx (w.heap.size + 1 + 1 + 1) (Ws (Ff.flat L)) 163 → wx.cell? ⟨w.heap.size + 1 + 1 + 1, (i + j - 5) * 2, none⟩ = some (.int .u64 (U (Ff.hi (L.getD (i + j - 5) 0)))) ∧ wx.cell? ⟨w.heap.size + 1 + 1 + 1, (i + j - 5) * 2 + 1, none⟩ = some (.int .u64 (U (Ff.lo (L.getD (i + j - 5) 0))))) := fun wx h => flatCell h (i + j - 5) (by omega)
            generalize hn : L.getD (i + j - 5) 0 = n at HS HL
            clear hn
            generalize a.getD i 0 = x at HX HS
            generalize b.getD j 0 = y at HY HS
            have a3 := F_mul19 y
            generalize 19 * y = y9 at a3 HS
            have HW : Hid (∀ wx : World, Calls Tryz.prog 164 #[.agg #[.int .u64 (U (Ff.hi n)), .int .u64 (U (Ff.lo n))], .int .u64 (U x), .int .u64 (U y9)] wx fun e w' => e = .returned (.agg #[.int .u64 (U (Ff.hi (Ff.wplus n x y9))), .int .u64 (U (Ff.lo (Ff.wplus n x y9)))]) ∧ Below wx.heap.size wx w') := fun wx => F_wplus n x y9 wx
            generalize Ff.wplus n x y9 = m at HW HS
            generalize hH : Ff.hi n = nh at HL HW
            generalize hO : Ff.lo n = nl at HL HW
            clear hH hO
            go_wp2_with fail
            have hS0 : TimS w.heap.size a b L wr.drew := hS
            have hz1 : Blk wr.drew (w.heap.size + 1 + 1) (Ws [0, 0, 0, 0, 0]) 69 := hb3
            have bel1 : Below w.heap.size w wr.drew := hbel.drew
            refine wp_region_last (S := TimS w.heap.size a b L) (l := 15) (by kernel_rfl) ?_
            clear hS hb3 hbel
            generalize World.drew wr = wd at hS0 hz1 bel1 ⊢
            refine wpAnyL_take (i := 0) (v := ?v0m) rfl (by kernel_rfl) (by kernel_rfl) (by kernel_rfl) (by kernel_rfl) (by kernel_rfl) (fun _ _ _ h => h) (Or.inl ⟨by rfl, ?hy0m⟩) hS0 ?rest0m
            case hy0m => (intro wx hSx; clear hSx; go_simp; try (with_reducible rfl))
            refine wpAnyL_take (i := 1) (v := ?v1m) rfl (by kernel_rfl) (by kernel_rfl) (by kernel_rfl) (by kernel_rfl) (by kernel_rfl) (fun _ _ _ h => h) (Or.inl ⟨by rfl, ?hy1m⟩) hS0 ?rest1m
            case hy1m => (intro wx hSx; clear hSx; go_simp; try (with_reducible rfl))
            refine wpAnyL_take (i := 2) (v := ?v2m) rfl (by kernel_rfl) (by kernel_rfl) (by kernel_rfl) (by kernel_rfl) (by kernel_rfl) (fun _ _ _ h => h) (Or.inl ⟨by rfl, ?hy2m⟩) hS0 ?rest2m
            case hy2m => (intro wx hSx; clear hSx; go_simp; try (with_reducible rfl))
            refine wpAnyL_take (i := 3) (v := ?v3m) rfl (by kernel_rfl) (by kernel_rfl) (by kernel_rfl) (by kernel_rfl) (by kernel_rfl) (fun _ _ _ h => h) (Or.inl ⟨by rfl, ?hy3m⟩) hS0 ?rest3m
            case hy3m => (intro wx hSx; clear hSx; go_simp; try (with_reducible rfl))
            refine wpAnyL_take (i := 4) (v := ?v4m) rfl (by kernel_rfl) (by kernel_rfl) (by kernel_rfl) (by kernel_rfl) (by kernel_rfl) (fun _ _ _ h => h) (Or.inl ⟨by rfl, ?hy4m⟩) hS0 ?rest4m
            case hy4m => (intro wx hSx; clear hSx; go_simp; try (with_reducible rfl))
            refine wpAnyL_take (i := 5) (v := ?v5m) rfl (by kernel_rfl) (by kernel_rfl) (by kernel_rfl) (by kernel_rfl) (by kernel_rfl) (fun _ _ _ h => h) (Or.inl ⟨by rfl, ?hy5m⟩) hS0 ?rest5m
            case hy5m => (intro wx hSx; obtain ⟨c0, c1⟩ := HL.out wx hSx.2.2; clear hSx; go_simp; try (with_reducible rfl))
            refine wpAnyL_take (i := 6) (v := ?v6m) rfl (by kernel_rfl) (by kernel_rfl) (by kernel_rfl) (by kernel_rfl) (by kernel_rfl) (fun _ _ _ h => h) (Or.inl ⟨by rfl, ?hy6m⟩) hS0 ?rest6m
            case hy6m => (intro wx hSx; clear hSx; go_simp; try (with_reducible rfl))
            refine wpAnyL_take (i := 7) (v := ?v7m) rfl (by kernel_rfl) (by kernel_rfl) (by kernel_rfl) (by kernel_rfl) (by kernel_rfl) (fun _ _ _ h => h) (Or.inl ⟨by rfl, ?hy7m⟩) hS0 ?rest7m
            case hy7m => (intro wx hSx; clear hSx; go_simp; try (with_reducible rfl))
            refine wpAnyL_take (i := 8) (v := ?v8m) rfl (by kernel_rfl) (by kernel_rfl) (by kernel_rfl) (by kernel_rfl) (by kernel_rfl) (fun _ _ _ h => h) (Or.inl ⟨by rfl, ?hy8m⟩) hS0 ?rest8m
            case hy8m => (intro wx hSx; have c0 := HX.out wx hSx.1; clear hSx; go_simp; try (with_reducible rfl))
            refine wpAnyL_take (i := 9) (v := ?v9m) rfl (by kernel_rfl) (by kernel_rfl) (by kernel_rfl) (by kernel_rfl) (by kernel_rfl) (fun _ _ _ h => h) (Or.inl ⟨by rfl, ?hy9m⟩) hS0 ?rest9m
            case hy9m => (intro wx hSx; clear hSx; go_simp; try (with_reducible rfl))
            refine wpAnyL_take (i := 10) (v := ?v10m) rfl (by kernel_rfl) (by kernel_rfl) (by kernel_rfl) (by kernel_rfl) (by kernel_rfl) (fun _ _ _ h => h) (Or.inl ⟨by rfl, ?hy10m⟩) hS0 ?rest10m
            case hy10m => (intro wx hSx; clear hSx; go_simp; try (with_reducible rfl))
            refine wpAnyL_take (i := 11) (v := ?v11m) rfl (by kernel_rfl) (by kernel_rfl) (by kernel_rfl) (by kernel_rfl) (by kernel_rfl) (fun _ _ _ h => h) (Or.inl ⟨by rfl, ?hy11m⟩) hS0 ?rest11m
            case hy11m => (intro wx hSx; have c0 := HY.out wx hSx.2.1; clear hSx; go_simp; try (with_reducible rfl))
            refine wpAnyL_take (i := 12) (v := ?v12m) rfl (by kernel_rfl) (by kernel_rfl) (by kernel_rfl) (by kernel_rfl) (by kernel_rfl) (fun _ _ _ h => h) (Or.inl ⟨by rfl, ?hy12m⟩) hS0 ?rest12m
            case hy12m => (intro wx hSx; clear hSx; go_simp; try (with_reducible rfl))
            refine wpAnyL_one (i := 13) (by kernel_rfl) rfl (fun K hK => ?_)
            go_simp
            go_wp2_with (go_at_call 164; refine (HW.out _).mono ?_; rintro e x0 ⟨rfl, k0⟩)
            have hS1 : TimS w.heap.size a b L x0 := ⟨hS0.1.keep k0, hS0.2.1.keep k0, hS0.2.2.keep k0⟩
            have hz2 := hz1.keep k0
            have bel2 := bel1.trans (k0.mono bel1.size)
            refine hK.out _ _ hS1 ?_
            clear hK K hS0 hz1 bel1 k0
            try simp only [Act.put, List.setIfInBounds_toArray, List.set_cons_zero, List.set_cons_succ]
            refine wpAnyL_take (i := 14) (v := ?v14m) rfl (by kernel_rfl) (by kernel_rfl) (by kernel_rfl) (by kernel_rfl) (by kernel_rfl) (fun _ _ _ h => h) (Or.inl ⟨by rfl, ?hy14m⟩) hS1 ?rest14m
            case hy14m => (intro wx hSx; clear hSx; go_simp; try (with_reducible rfl))
            refine wpAnyL_last (by kernel_rfl) rfl (by kernel_rfl) (fun K hK => ?_)
            obtain ⟨c0, c1⟩ := HL.out x0 hS1.2.2
            have f0 := hS1.2.2.frozen ((i + j - 5) * 2)
            have f1 := hS1.2.2.frozen ((i + j - 5) * 2 + 1)
            go_simp
            refine hK.out _ _ ?_
            clear hK K
            go_wp2
            go_roundw
            case rel =>
              rw [flatSet hS1.2.2 (i + j - 5) m]
              refine ⟨j + 1, by omega, by go_num, ⟨hS1.1.other (by omega) _, hS1.2.1.other (by omega) _, ?_⟩, hz2.other (by omega) _, below_setRow bel2 (by omega) _⟩
              rw [show Ff.rowT a b S i (j + 1) = _ from HR.out, show Ff.tstep L a b i j = _ from HS.out]; exact hS1.2.2.row _
            case measure => simp [intOf]; omega
        · have hj5 : j = 5 := by omega
          subst hj5
          go_wp2
          go_roundw
          case rel => exact ⟨i + 1, by omega, by go_num, by rw [show Ff.timesTo a b (i + 1) = _ from HT.out]; exact hS, hb3, hbel⟩
          case measure => simp [intOf]; omega
    · have hk8 : i = 5 := by omega
      subst hk8
      rw [show ((5 : Nat) : Int) = 5 from rfl]
      have hlS : (Ff.timesTo a b 5).length = 5 := Ff.timesTo_length _ _ _
      have HE : Hid (Ff.times a b = Ff.narrow (Ff.timesTo a b 5)) := by
        have : Ff.times a b = Ff.narrow (Ff.timesTo a b 5) := by unfold Ff.times; rfl
        exact this
      generalize Ff.timesTo a b 5 = T at hlS hS HE
      have H1 : Hid (∀ wx : World, Calls Tryz.prog 165 #[.agg (Ws (Ff.flat T))] wx fun e w' => e = .returned (.agg (Ws (Ff.narrow T))) ∧ Below wx.heap.size wx w') := fun wx => F_narrow _ wx hlS
      have hlR : (Ff.narrow T).length = 5 := Ff.narrow_length _
      generalize Ff.narrow T = R at H1 hlR HE
      have g4 := hS.2.2
      unfold Blk at g4
      have sT : (Ws (Ff.flat T)).size = 10 := by rw [Ws_size, Ff.flat_length, hlS]
      have sR : (Ws R).size = 5 := by rw [Ws_size, hlR]
      generalize Ff.flat T = F at H1 g4 sT
      go_wp2_with (first
        | (refine wpList_load_row rfl 163 _ rfl (w.heap.size + 1 + 1 + 1) rfl 163 _ (0, 0) _ g4 Tryz.underlying163 rfl (by rw [sT]; exact Tryz.infoW10) ?_))
      refine (H1.out _).mono ?_
      rintro e w2 ⟨rfl, k2⟩
      replace hb3 := hb3.keep k2
      replace hbel := hbel.trans (k2.mono hbel.size)
      have hst := storeRow (l := R) hb3 (by rw [hlR]; rfl)
      go_wp2
      refine bodyPost_ret (v := .agg (Ws R)) ?_ rfl ⟨by rw [show Ff.times a b = R from HE.out], below_setRow hbel (by omega) _⟩
      exact results_cell_row rfl _ _ (w.heap.size + 1 + 1) 69 _ (0, 0) _ rfl (hb3.row _) Tryz.underlying69 rfl (by rw [sR]; exact Tryz.infoF5)

end Go.Proofs.YtclpbaokadfhhaaGreatDoor

namespace Go.Proofs.YtclpbaokadfhhaaGreatDoor
open Go.RowKit

set_option maxRecDepth 100000 in
set_option maxHeartbeats 1000000 in
theorem F_square (a : List (BitVec 64)) (w : World) (ha : a.length = 5) :
    Calls Tryz.prog 163 #[.agg (Ws a)] w fun e w' => e = .returned (.agg (Ws (Ff.times a a))) ∧ Below w.heap.size w w' := by
  have sa : (Ws a).size = 5 := by rw [Ws_size, ha]
  have hb1 : Blk ((w.alloc (.cells (Ws a) 69)).alloc (.cells (Ws [0, 0, 0, 0, 0]) 69)) w.heap.size (Ws a) 69 := heap_alloc2_old w _ _
  have hb2 : Blk ((w.alloc (.cells (Ws a) 69)).alloc (.cells (Ws [0, 0, 0, 0, 0]) 69)) (w.heap.size + 1) (Ws [0, 0, 0, 0, 0]) 69 := heap_alloc2_new w _ _
  have hbel : Below w.heap.size w ((w.alloc (.cells (Ws a) 69)).alloc (.cells (Ws [0, 0, 0, 0, 0]) 69)) := ((Below.refl _ _).alloc (Nat.le_refl _) _).alloc (by simp) _
  have H1 : Hid (∀ wx : World, Calls Tryz.prog 111 #[.agg (Ws a), .agg (Ws a)] wx fun e w' => e = .returned (.agg (Ws (Ff.times a a))) ∧ Below wx.heap.size wx w') := fun wx => F_times a a wx ha ha
  have hlR : (Ff.times a a).length = 5 := Ff.times_length _ _
  generalize Ff.times a a = R at H1 hlR ⊢
  have sR : (Ws R).size = 5 := by rw [Ws_size, hlR]
  have g1 := hb1
  unfold Blk at g1
  rw [← FZ5] at g1
  go_enter Tryz.func163, Tryz.ntmps163
  go_wp2_with (first
    | (refine wpList_load_row rfl 69 _ rfl w.heap.size rfl 69 _ (0, 0) _ g1 Tryz.underlying69 rfl (by rw [sa]; exact Tryz.infoF5) ?_))
  rw [FZ5]
  clear g1
  generalize (w.alloc (.cells (Ws a) 69)).alloc (.cells (Ws [0, 0, 0, 0, 0]) 69) = w1 at hb1 hb2 hbel ⊢
  refine (H1.out _).mono ?_
  rintro e w2 ⟨rfl, k2⟩
  replace hb2 := hb2.keep k2
  replace hbel := hbel.trans (k2.mono hbel.size)
  have hst := storeRow (l := R) hb2 (by rw [hlR]; rfl)
  go_wp2
  refine bodyPost_ret (v := .agg (Ws R)) ?_ rfl ⟨rfl, below_setRow hbel (by omega) _⟩
  exact results_cell_row rfl _ _ (w.heap.size + 1) 69 _ (0, 0) _ rfl (hb2.row _) Tryz.underlying69 rfl (by rw [sR]; exact Tryz.infoF5)

set_option maxRecDepth 100000 in
set_option maxHeartbeats 1000000 in
theorem F_squares (a : List (BitVec 64)) (n : Nat) (w : World) (ha : a.length = 5) (hn : n ≤ 1000) :
    Calls Tryz.prog 166 #[.agg (Ws a), .int .i64 n] w fun e w' => e = .returned (.agg (Ws (Ff.squares a n))) ∧ Below w.heap.size w w' := by
  have sa : (Ws a).size = 5 := by rw [Ws_size, ha]
  have hb1 : Blk ((w.alloc (.cells (Ws a) 69)).alloc (.cells (Ws [0, 0, 0, 0, 0]) 69)) w.heap.size (Ws a) 69 := heap_alloc2_old w _ _
  have hb2 : Blk ((w.alloc (.cells (Ws a) 69)).alloc (.cells (Ws [0, 0, 0, 0, 0]) 69)) (w.heap.size + 1) (Ws [0, 0, 0, 0, 0]) 69 := heap_alloc2_new w _ _
  have hbel : Below w.heap.size w ((w.alloc (.cells (Ws a) 69)).alloc (.cells (Ws [0, 0, 0, 0, 0]) 69)) := ((Below.refl _ _).alloc (Nat.le_refl _) _).alloc (by simp) _
  obtain ⟨R0, hR0⟩ : ∃ R0, R0 = Ff.squares a n := ⟨_, rfl⟩
  have HE0 : Hid (R0 = Ff.squares a n) := hR0
  rw [← hR0]
  clear hR0
  go_enter Tryz.func166, Tryz.ntmps166
  go_wp2_with fail
  rw [FZ5]
  generalize (w.alloc (.cells (Ws a) 69)).alloc (.cells (Ws [0, 0, 0, 0, 0]) 69) = w1 at hb1 hb2 hbel ⊢
  go_loopw [6] (fun i wr => ∃ (k : Nat) (L : List (BitVec 64)), k ≤ n ∧ Hid (L = Ff.squares a k) ∧ i = .int .i64 k ∧ Blk wr w.heap.size (Ws L) 69 ∧ Blk wr (w.heap.size + 1) (Ws [0, 0, 0, 0, 0]) 69 ∧ Below w.heap.size w wr) (fun i _ => n - (intOf i).toNat)
  case atStart => exact ⟨0, a, by omega, (show a = Ff.squares a 0 from rfl), rfl, hb1, hb2, hbel⟩
  case round =>
    clear hb1 hb2 hbel w1
    obtain ⟨k, S, hk, HL, rfl, hb1, hb2, hbel⟩ := hrel
    have hlS : S.length = 5 := by rw [show S = Ff.squares a k from HL.out]; exact Ff.squares_length _ ha _
    by_cases hlt : k < n
    · have i1 : (k : Int) < n := by omega
      have HE : Hid (Ff.times S S = Ff.squares a (k + 1)) := by
        have : Ff.times S S = Ff.squares a (k + 1) := by rw [show S = Ff.squares a k from HL.out]; rfl
        exact this
      clear HL
      have H1 : Hid (∀ wx : World, Calls Tryz.prog 163 #[.agg (Ws S)] wx fun e w' => e = .returned (.agg (Ws (Ff.times S S))) ∧ Below wx.heap.size wx w') := fun wx => F_square S wx hlS
      have hlR : (Ff.times S S).length = 5 := Ff.times_length _ _
      generalize Ff.times S S = R at H1 hlR HE
      have sS : (Ws S).size = 5 := by rw [Ws_size, hlS]
      have sR : (Ws R).size = 5 := by rw [Ws_size, hlR]
      have g1 := hb1
      unfold Blk at g1
      go_wp2_with (first
        | (refine wpList_load_row rfl 69 _ rfl w.heap.size rfl 69 _ (0, 0) _ g1 Tryz.underlying69 rfl (by rw [sS]; exact Tryz.infoF5) ?_))
      clear g1
      refine (H1.out _).mono ?_
      rintro e w2 ⟨rfl, k2⟩
      replace hb1 := hb1.keep k2
      replace hb2 := hb2.keep k2
      replace hbel := hbel.trans (k2.mono hbel.size)
      have hst := storeRow (l := R) hb1 (by rw [hlR, sS])
      go_wp2
      go_roundw
      case rel =>
        exact ⟨k + 1, R, by omega, HE, by go_num, hb1.row _, hb2.other (by omega) _, below_setRow hbel (by omega) _⟩
      case measure => simp [intOf]; omega
    · have hk8 : k = n := by omega
      subst hk8
      have i1 : ¬ (k : Int) < k := by omega
      have g1 := hb1; have g2 := hb2
      unfold Blk at g1 g2
      have hl : (Ws S).size = 5 := by rw [Ws_size, hlS]
      have e0 : (Ws [0, 0, 0, 0, 0]).size = 5 := by rw [Ws_size]; rfl
      go_wp2_with (first
        | (refine wpList_load_row rfl 69 _ rfl w.heap.size rfl 69 _ (0, 0) _ g1 Tryz.underlying69 rfl (by rw [hl]; exact Tryz.infoF5) ?_)
        | (refine wpList_store_row rfl 69 _ _ rfl (w.heap.size + 1) _ rfl rfl 69 _ g2 (by rw [hl]; exact Tryz.infoF5) (by rw [hl, e0]) (Ws_one _) ?_))
      refine bodyPost_ret (v := .agg (Ws S)) ?_ rfl ⟨?_, below_setRow hbel (by omega) _⟩
      · exact results_cell_row rfl _ _ (w.heap.size + 1) 69 _ (0, 0) _ rfl (hb2.row _) Tryz.underlying69 rfl (by rw [hl]; exact Tryz.infoF5)
      · rw [show R0 = _ from HE0.out, ← show S = _ from HL.out]

end Go.Proofs.YtclpbaokadfhhaaGreatDoor

namespace Go.Proofs.YtclpbaokadfhhaaGreatDoor
open Go.RowKit

/-- what stays while a region of ones goes -/
def OneW (w : World) (p h : Nat) (a H : List (BitVec 64)) (w' : World) : Prop :=
  Blk w' p (Ws a) 69 ∧ Blk w' (p + 1) (Ws [0, 0, 0, 0, 0]) 69 ∧ Blk w' h (Ws H) 69 ∧ Below p w w'
theorem OneW.keep {w w1 w2 : World} {p h : Nat} {a H : List (BitVec 64)} (h1 : OneW w p h a H w1) (k : Below w1.heap.size w1 w2) : OneW w p h a H w2 :=
  ⟨h1.1.keep k, h1.2.1.keep k, h1.2.2.1.keep k, h1.2.2.2.trans (k.mono (by have := h1.1.lt; omega))⟩
theorem OneW.alloc {w w1 : World} {p h : Nat} {a H : List (BitVec 64)} (h1 : OneW w p h a H w1) (o : Obj) : OneW w p h a H (w1.alloc o) :=
  ⟨h1.1.alloc _, h1.2.1.alloc _, h1.2.2.1.alloc _, h1.2.2.2.alloc (by have := h1.1.lt; omega) _⟩

def SqS (q p : Nat) (T a : List (BitVec 64)) (w' : World) : Prop := Blk w' q (Ws T) 69 ∧ Blk w' p (Ws a) 69

def OneR (w : World) (p h : Nat) (a H SQ T : List (BitVec 64)) (d : Nat → Bool) (u : Nat → Value) (w' : World) : Prop :=
  (d 3 = true → u 17 = .agg (Ws SQ)) ∧ (d 5 = true → u 19 = .agg (Ws T)) ∧ (d 6 = true → ∃ q, u 6 = .pointer (some ⟨q, 0, none⟩) ∧ Blk w' q (Ws [0, 0, 0, 0, 0]) 69 ∧ p + 1 < q) ∧ OneW w p h a H w'

set_option maxRecDepth 100000 in
set_option maxHeartbeats 4000000 in
theorem F_onesStep (a H : List (BitVec 64)) (n : Nat) (w : World) (ha : a.length = 5) (hH : H.length = 5) (hn : n ≤ 1000) (hn1 : ¬ n = 1) (hn0 : 1 ≤ n)
    (IH : ∀ wx : World, Calls Tryz.prog 167 #[.agg (Ws a), .int .i64 ((n / 2 : Nat) : Int)] wx fun e w' => e = .returned (.agg (Ws H)) ∧ Below wx.heap.size wx w') :
    Calls Tryz.prog 167 #[.agg (Ws a), .int .i64 n] w fun e w' => e = .returned (.agg (Ws (Ff.onesStep a H n))) ∧ Below w.heap.size w w' := by
  have sa : (Ws a).size = 5 := by rw [Ws_size, ha]
  have sH : (Ws H).size = 5 := by rw [Ws_size, hH]
  have hb1 : Blk ((w.alloc (.cells (Ws a) 69)).alloc (.cells (Ws [0, 0, 0, 0, 0]) 69)) w.heap.size (Ws a) 69 := heap_alloc2_old w _ _
  have hb2 : Blk ((w.alloc (.cells (Ws a) 69)).alloc (.cells (Ws [0, 0, 0, 0, 0]) 69)) (w.heap.size + 1) (Ws [0, 0, 0, 0, 0]) 69 := heap_alloc2_new w _ _
  have hbel : Below w.heap.size w ((w.alloc (.cells (Ws a) 69)).alloc (.cells (Ws [0, 0, 0, 0, 0]) 69)) := ((Below.refl _ _).alloc (Nat.le_refl _) _).alloc (by simp) _
  have e2 : ((n / 2 : Nat) : Int) = (n : Int) / 2 := by omega
  have HO : Hid (∀ wx : World, Calls Tryz.prog 167 #[.agg (Ws a), .int .i64 ((n : Int) / 2)] wx fun e w' => e = .returned (.agg (Ws H)) ∧ Below wx.heap.size wx w') := by rw [← e2]; exact IH
  have HSq : Hid (∀ wx : World, Calls Tryz.prog 166 #[.agg (Ws H), .int .i64 ((n : Int) / 2)] wx fun e w' => e = .returned (.agg (Ws (Ff.squares H (n / 2)))) ∧ Below wx.heap.size wx w') := by
    rw [← e2]; exact fun wx => F_squares H (n / 2) wx hH (by omega)
  clear IH
  have hlQ : (Ff.squares H (n / 2)).length = 5 := Ff.squares_length _ hH _
  have HE : Hid (Ff.onesStep a H n = if n % 2 = 1 then Ff.times (Ff.times (Ff.times (Ff.squares H (n / 2)) H) (Ff.times (Ff.squares H (n / 2)) H)) a else Ff.times (Ff.squares H (n / 2)) H) := by
    have : Ff.onesStep a H n = if n % 2 = 1 then Ff.times (Ff.times (Ff.times (Ff.squares H (n / 2)) H) (Ff.times (Ff.squares H (n / 2)) H)) a else Ff.times (Ff.squares H (n / 2)) H := rfl
    exact this
  generalize Ff.onesStep a H n = RR at HE ⊢
  generalize Ff.squares H (n / 2) = SQ at HSq hlQ HE
  have HT : Hid (∀ wx : World, Calls Tryz.prog 111 #[.agg (Ws SQ), .agg (Ws H)] wx fun e w' => e = .returned (.agg (Ws (Ff.times SQ H))) ∧ Below wx.heap.size wx w') := fun wx => F_times SQ H wx hlQ hH
  have hlT : (Ff.times SQ H).length = 5 := Ff.times_length _ _
  generalize Ff.times SQ H = T at HT hlT HE
  have HS2 : Hid (∀ wx : World, Calls Tryz.prog 163 #[.agg (Ws T)] wx fun e w' => e = .returned (.agg (Ws (Ff.times T T))) ∧ Below wx.heap.size wx w') := fun wx => F_square T wx hlT
  have hlU : (Ff.times T T).length = 5 := Ff.times_length _ _
  generalize Ff.times T T = UU at HS2 hlU HE
  have HT2 : Hid (∀ wx : World, Calls Tryz.prog 111 #[.agg (Ws UU), .agg (Ws a)] wx fun e w' => e = .returned (.agg (Ws (Ff.times UU a))) ∧ Below wx.heap.size wx w') := fun wx => F_times UU a wx hlU ha
  have hlV : (Ff.times UU a).length = 5 := Ff.times_length _ _
  generalize Ff.times UU a = VV at HT2 hlV HE
  have sT : (Ws T).size = 5 := by rw [Ws_size, hlT]
  have sV : (Ws VV).size = 5 := by rw [Ws_size, hlV]
  have sQ : (Ws SQ).size = 5 := by rw [Ws_size, hlQ]
  have i1 : ¬ (n : Int) = 1 := by omega
  have iw : IntKind.i64.wrap ((n : Int) / 2) = (n : Int) / 2 := by rw [IntKind.wrap_i64]; omega
  have g1 := hb1
  unfold Blk at g1
  rw [← FZ5] at g1
  go_enter Tryz.func167, Tryz.ntmps167
  go_wp2_with (first
    | (refine wpList_load_row rfl 69 _ rfl w.heap.size rfl 69 _ (0, 0) _ g1 Tryz.underlying69 rfl (by rw [sa]; exact Tryz.infoF5) ?_))
  rw [FZ5]
  clear g1
  generalize (w.alloc (.cells (Ws a) 69)).alloc (.cells (Ws [0, 0, 0, 0, 0]) 69) = w1 at hb1 hb2 hbel ⊢
  refine (HO.out _).mono ?_
  rintro e w2 ⟨rfl, k2⟩
  replace hb1 := hb1.keep k2
  replace hb2 := hb2.keep k2
  replace hbel := hbel.trans (k2.mono hbel.size)
  clear k2
  have hsz : w.heap.size + 1 < w2.heap.size := hb2.lt
  have hn3 : Blk (w2.alloc (.cells #[.int .u64 0, .int .u64 0, .int .u64 0, .int .u64 0, .int .u64 0] 69)) w2.heap.size #[.int .u64 0, .int .u64 0, .int .u64 0, .int .u64 0, .int .u64 0] 69 := Blk.new _ _ _
  have hst := storeRow (l := H) hn3 (by rw [hH]; rfl)
  have hW : OneW w w.heap.size w2.heap.size a H ((w2.alloc (.cells #[.int .u64 0, .int .u64 0, .int .u64 0, .int .u64 0, .int .u64 0] 69)).setRow w2.heap.size (Ws H)) :=
    ⟨(hb1.alloc _).other (by omega) _, (hb2.alloc _).other (by omega) _, hn3.row _, below_setRow (hbel.alloc (by omega) _) (by omega) _⟩
  go_wp2_with fail
  clear hst hn3 hb1 hb2 hbel
  generalize (w2.alloc (.cells #[.int .u64 0, .int .u64 0, .int .u64 0, .int .u64 0, .int .u64 0] 69)).setRow w2.heap.size (Ws H) = w3 at hW ⊢
  generalize w2.heap.size = h at hW hsz ⊢
  refine wp_region_M (S := OneW w w.heap.size h a H) (ls := [7]) (by kernel_rfl) ?_
  have hW1 : OneW w w.heap.size h a H w3.drew := ⟨hW.1, hW.2.1, hW.2.2.1, hW.2.2.2.drew⟩
  generalize World.drew w3 = wd at hW1 ⊢
  clear hW
  refine wpAnyM_take (i := 0) (dst := some 14) (v := .agg (Ws H)) rfl rfl (by kernel_rfl) (by kernel_rfl) (by kernel_rfl) (by kernel_rfl) (by kernel_rfl) (fun _ _ _ h => h) (Or.inl ⟨by rfl, ?hy0⟩) hW1 ?rest0
  case hy0 => exact fun wx hSx => exec_load_row 69 _ rfl h rfl 69 _ (0, 0) _ hSx.2.2.1 Tryz.underlying69 rfl (by rw [sH]; exact Tryz.infoF5)
  refine wpAnyM_take (i := 1) (dst := some 15) (v := ?v1) rfl rfl (by kernel_rfl) (by kernel_rfl) (by kernel_rfl) (by kernel_rfl) (by kernel_rfl) (fun _ _ _ h => h) (Or.inl ⟨by rfl, ?hy1⟩) hW1 ?rest1
  case hy1 => (intro wx hSx; clear hSx; go_simp; try (with_reducible rfl))
  refine wpAnyM_take (i := 2) (dst := some 16) (v := ?v2) rfl rfl (by kernel_rfl) (by kernel_rfl) (by kernel_rfl) (by kernel_rfl) (by kernel_rfl) (fun _ _ _ h => h) (Or.inl ⟨by rfl, ?hy2⟩) hW1 ?rest2
  case hy2 => (intro wx hSx; clear hSx; go_simp; try (with_reducible rfl))
  refine wpAnyM_take (i := 4) (dst := some 18) (v := .agg (Ws H)) rfl rfl (by kernel_rfl) (by kernel_rfl) (by kernel_rfl) (by kernel_rfl) (by kernel_rfl) (fun _ _ _ h => h) (Or.inl ⟨by rfl, ?hy4⟩) hW1 ?rest4
  case hy4 => exact fun wx hSx => exec_load_row 69 _ rfl h rfl 69 _ (0, 0) _ hSx.2.2.1 Tryz.underlying69 rfl (by rw [sH]; exact Tryz.infoF5)
  simp only [Act.put, List.setIfInBounds_toArray, List.set_cons_zero, List.set_cons_succ]
  change wpAnyM _ _ _ _ _ _ 4 #[true, true, true, false, true, false, false, false] _ _
  refine wpAnyM_phaseU (R := OneR w w.heap.size h a H SQ T) [6, 17, 19] [3, 5, 6] #[true, true, true, true, true, true, true, false] (by kernel_rfl) (by kernel_rfl) (by kernel_rfl) ⟨fun h => Bool.noConfusion h, fun h => Bool.noConfusion h, fun h => Bool.noConfusion h, hW1⟩ ?steps ?fin
  case steps =>
    refine StepsU.cons rfl ?s3 (StepsU.cons rfl ?s5 (StepsU.cons rfl ?s6 StepsU.nil))
    case s3 =>
      rintro d u wx ⟨h3, h5, h6, hX⟩ hd K hK
      simp only [layS, List.foldl, Act.put, List.setIfInBounds_toArray, List.set_cons_zero, List.set_cons_succ]
      go_simp
      go_wp2_with (go_at_call 166; refine (HSq.out _).mono ?_; rintro e x0 ⟨rfl, k0⟩)
      refine hK.out (upV u 17 (.agg (Ws SQ))) _ (hX.keep k0) ⟨fun _ => rfl, fun h => h5 h, fun h => (by obtain ⟨q, e, hb, hq⟩ := h6 h; exact ⟨q, e, hb.keep k0, hq⟩), hX.keep k0⟩ _ ?_
      simp only [layS, List.foldl, Act.put, List.setIfInBounds_toArray, List.set_cons_zero, List.set_cons_succ, upV, reduceIte, Nat.reduceEqDiff]
    case s5 =>
      rintro d u wx ⟨h3, h5, h6, hX⟩ hd K hK
      have e17 := h3 (hd 3 (by kernel_rfl))
      simp only [layS, List.foldl, Act.put, List.setIfInBounds_toArray, List.set_cons_zero, List.set_cons_succ, e17]
      go_simp
      go_wp2_with (go_at_call 111; refine (HT.out _).mono ?_; rintro e x0 ⟨rfl, k0⟩)
      refine hK.out (upV u 19 (.agg (Ws T))) _ (hX.keep k0) ⟨fun h => h3 h, fun _ => rfl, fun h => (by obtain ⟨q, e, hb, hq⟩ := h6 h; exact ⟨q, e, hb.keep k0, hq⟩), hX.keep k0⟩ _ ?_
      simp only [layS, List.foldl, Act.put, List.setIfInBounds_toArray, List.set_cons_zero, List.set_cons_succ, upV, reduceIte, Nat.reduceEqDiff, e17]
    case s6 =>
      rintro d u wx ⟨h3, h5, h6, hX⟩ hd K hK
      simp only [layS, List.foldl, Act.put, List.setIfInBounds_toArray, List.set_cons_zero, List.set_cons_succ]
      go_simp
      refine hK.out (upV u 6 (.pointer (some ⟨wx.heap.size, 0, none⟩))) _ (hX.alloc _) ⟨fun h => h3 h, fun h => h5 h, fun _ => ⟨wx.heap.size, rfl, Blk.new _ _ _, hX.2.1.lt⟩, hX.alloc _⟩ _ ?_
      simp only [layS, List.foldl, Act.put, List.setIfInBounds_toArray, List.set_cons_zero, List.set_cons_succ, upV, reduceIte, Nat.reduceEqDiff]
  case fin =>
    rintro n' d u wx ⟨h3, h5, h6, hX⟩ hd
    have e17 := h3 (hd 3 rfl)
    have e19 := h5 (hd 5 rfl)
    obtain ⟨q, e6, hq, hqp⟩ := h6 (hd 6 rfl)
    simp only [layS, List.foldl, Act.put, List.setIfInBounds_toArray, List.set_cons_zero, List.set_cons_succ, e17, e19, e6]
    clear h3 h5 h6 e17 e19 e6
    change wpAnyM _ _ _ _ _ _ (n' + 1) _ _ _
    refine wpAnyM_late (i := 7) (by kernel_rfl) rfl rfl (fun K hK => ?_)
    have hst := storeRow (l := T) hq (by rw [hlT]; rfl)
    go_simp
    refine hK.out _ _ ?_
    clear hK K hst
    refine wpAnyM_done (by kernel_rfl) ?_ _
    have r1 := hX.1.other (b' := q) (by omega) (Ws T)
    have r2 := hX.2.1.other (b' := q) (by omega) (Ws T)
    have r3 := hq.row (Ws T)
    have rb := below_setRow (g := q) hX.2.2.2 (by omega) (Ws T)
    clear hX hq
    generalize wx.setRow q (Ws T) = w4 at r1 r2 r3 rb ⊢
    by_cases hodd : n % 2 = 1
    · have i5 : (n : Int) % 2 = 1 := by omega
      have hr : RR = VV := by rw [show RR = _ from HE.out, if_pos hodd]
      subst hr
      clear HE HO HSq HT
      go_wp2_with fail
      refine wp_region_M (S := SqS q w.heap.size T a) (ls := [4]) (by kernel_rfl) ?_
      have hS0 : SqS q w.heap.size T a w4.drew := ⟨r3, r1⟩
      replace r2 : Blk w4.drew (w.heap.size + 1) (Ws [0, 0, 0, 0, 0]) 69 := r2
      replace rb : Below w.heap.size w w4.drew := rb.drew
      clear r1 r3
      generalize World.drew w4 = w5 at hS0 r2 rb ⊢
      refine wpAnyM_take (i := 0) (dst := some 23) (v := .agg (Ws T)) rfl rfl (by kernel_rfl) (by kernel_rfl) (by kernel_rfl) (by kernel_rfl) (by kernel_rfl) (fun _ _ _ h => h) (Or.inl ⟨by rfl, ?hz0⟩) hS0 ?resz0
      case hz0 => exact fun wx hSx => exec_load_row 69 _ rfl q rfl 69 _ (0, 0) _ hSx.1 Tryz.underlying69 rfl (by rw [sT]; exact Tryz.infoF5)
      refine wpAnyM_take (i := 2) (dst := some 25) (v := .agg (Ws a)) rfl rfl (by kernel_rfl) (by kernel_rfl) (by kernel_rfl) (by kernel_rfl) (by kernel_rfl) (fun _ _ _ h => h) (Or.inl ⟨by rfl, ?hz2⟩) hS0 ?resz2
      case hz2 => exact fun wx hSx => exec_load_row 69 _ rfl w.heap.size rfl 69 _ (0, 0) _ hSx.2 Tryz.underlying69 rfl (by rw [sa]; exact Tryz.infoF5)
      simp only [Act.put, List.setIfInBounds_toArray, List.set_cons_zero, List.set_cons_succ]
      refine wpAnyM_one (i := 1) (by kernel_rfl) rfl (fun K hK => ?_)
      go_simp
      go_wp2_with (go_at_call 163; refine (HS2.out _).mono ?_; rintro e x0 ⟨rfl, k0⟩)
      have hS1 : SqS q w.heap.size T a x0 := ⟨hS0.1.keep k0, hS0.2.keep k0⟩
      replace r2 := r2.keep k0
      replace rb := rb.trans (k0.mono rb.size)
      refine hK.out _ _ hS1 ?_
      clear hK K k0 hS0
      refine wpAnyM_one (i := 3) (by kernel_rfl) rfl (fun K hK => ?_)
      go_simp
      go_wp2_with (go_at_call 111; refine (HT2.out _).mono ?_; rintro e x1 ⟨rfl, k1⟩)
      have hS2 : SqS q w.heap.size T a x1 := ⟨hS1.1.keep k1, hS1.2.keep k1⟩
      replace r2 := r2.keep k1
      replace rb := rb.trans (k1.mono rb.size)
      refine hK.out _ _ hS2 ?_
      clear hK K k1 hS1
      refine wpAnyM_late (i := 4) (by kernel_rfl) rfl rfl (fun K hK => ?_)
      have hst := storeRow (l := RR) hS2.1 (by rw [hlV, sT])
      go_simp
      refine hK.out _ _ ?_
      clear hK K hst
      refine wpAnyM_done (by kernel_rfl) ?_ _
      have z1 := hS2.1.row (Ws RR)
      have z2 := r2.other (b' := q) (by omega) (Ws RR)
      have zb := below_setRow (g := q) rb (by omega) (Ws RR)
      clear hS2 r2 rb
      generalize x1.setRow q (Ws RR) = x2 at z1 z2 zb ⊢
      have g1 := z1; have g2 := z2
      unfold Blk at g1 g2
      have e0 : (Ws [0, 0, 0, 0, 0]).size = 5 := by rw [Ws_size]; rfl
      go_wp2_with (first
        | (refine wpList_load_row rfl 69 _ rfl q rfl 69 _ (0, 0) _ g1 Tryz.underlying69 rfl (by rw [sV]; exact Tryz.infoF5) ?_)
        | (refine wpList_store_row rfl 69 _ _ rfl (w.heap.size + 1) _ rfl rfl 69 _ g2 (by rw [sV]; exact Tryz.infoF5) (by rw [sV, e0]) (Ws_one _) ?_))
      refine bodyPost_ret (v := .agg (Ws RR)) ?_ rfl ⟨rfl, below_setRow zb (by omega) _⟩
      exact results_cell_row rfl _ _ (w.heap.size + 1) 69 _ (0, 0) _ rfl (z2.row _) Tryz.underlying69 rfl (by rw [sV]; exact Tryz.infoF5)
    · have i5 : ¬ (n : Int) % 2 = 1 := by omega
      have hr : RR = T := by rw [show RR = _ from HE.out, if_neg hodd]
      subst hr
      clear HE HO HSq HT
      have g1 := r3; have g2 := r2
      unfold Blk at g1 g2
      have e0 : (Ws [0, 0, 0, 0, 0]).size = 5 := by rw [Ws_size]; rfl
      go_wp2_with (first
        | (refine wpList_load_row rfl 69 _ rfl q rfl 69 _ (0, 0) _ g1 Tryz.underlying69 rfl (by rw [sT]; exact Tryz.infoF5) ?_)
        | (refine wpList_store_row rfl 69 _ _ rfl (w.heap.size + 1) _ rfl rfl 69 _ g2 (by rw [sT]; exact Tryz.infoF5) (by rw [sT, e0]) (Ws_one _) ?_))
      refine bodyPost_ret (v := .agg (Ws RR)) ?_ rfl ⟨rfl, below_setRow rb (by omega) _⟩
      exact results_cell_row rfl _ _ (w.heap.size + 1) 69 _ (0, 0) _ rfl (r2.row _) Tryz.underlying69 rfl (by rw [sT]; exact Tryz.infoF5)

end Go.Proofs.YtclpbaokadfhhaaGreatDoor
