/- Contracts of scalar's lowered, Plus. -/
import Derived.Test.YtclpbaokadfhhaaDoorSp1
import Derived.Laws.BitsAllLaws
namespace Go.Proofs.YtclpbaokadfhhaaDoor
open Go.RowKit

theorem S_index4' (x0 x1 x2 x3 : BitVec 64) (k : Nat) (hk : k < 4) (w : World) :
    (Instr.index 51 (.agg (Ws [x0, x1, x2, x3])) (.int .i64 k)).run Tryd.prog w = .ok (.int .u64 (U ([x0, x1, x2, x3].getD k 0))) w := by
  obtain rfl | rfl | rfl | rfl : k = 0 ∨ k = 1 ∨ k = 2 ∨ k = 3 := by omega
  all_goals kernel_rfl
theorem S_andNot (x m : BitVec 64) : bits BinOp.andNot IntKind.u64 (U x) (U m) = U (x &&& ~~~m) := by
  unfold U
  rw [u64_andNot_nat _ _ x.isLt m.isLt, BitVec.toNat_and, BitVec.toNat_not]

set_option maxRecDepth 100000 in
set_option maxHeartbeats 2000000 in
theorem S_lowered (a : List (BitVec 64)) (w : World) (ha : a.length = 4) :
    Calls Tryd.prog 63 #[.agg (Ws a)] w fun e w' => e = .returned (.agg (Ws (Sc.lowered a))) ∧ Below w.heap.size w w' := by
  have sa : (Ws a).size = 4 := by rw [Ws_size, ha]
  have HE : Hid (Sc.lowered a = Sc.pickTo a (Sc.subTo a 4).1 (-(Sc.subTo a 4).2) 4) := by
    have : Sc.lowered a = Sc.pickTo a (Sc.subTo a 4).1 (-(Sc.subTo a 4).2) 4 := rfl
    exact this
  generalize Sc.lowered a = R at HE ⊢
  have H1 : Hid (∀ wx : World, Calls Tryd.prog 80 #[] wx fun e w' => e = .returned (.agg (Ws Sc.md)) ∧ Below wx.heap.size wx w') := S_modulus
  have hb1 := Blk.alloc (Blk.alloc (Blk.new w (Ws a) 52) (.cells (Ws [0, 0, 0, 0]) 52)) (.cells (Ws [0, 0, 0, 0]) 52)
  have hb2 := Blk.alloc (Blk.new (w.alloc (.cells (Ws a) 52)) (Ws [0, 0, 0, 0]) 52) (.cells (Ws [0, 0, 0, 0]) 52)
  have hb3 := Blk.new ((w.alloc (.cells (Ws a) 52)).alloc (.cells (Ws [0, 0, 0, 0]) 52)) (Ws [0, 0, 0, 0]) 52
  have hbel : Below w.heap.size w (((w.alloc (.cells (Ws a) 52)).alloc (.cells (Ws [0, 0, 0, 0]) 52)).alloc (.cells (Ws [0, 0, 0, 0]) 52)) :=
    (((Below.refl _ _).alloc (Nat.le_refl _) _).alloc (by simp) _).alloc (by simp; omega) _
  rw [show (w.alloc (.cells (Ws a) 52)).heap.size = w.heap.size + 1 by simp] at hb2
  rw [show ((w.alloc (.cells (Ws a) 52)).alloc (.cells (Ws [0, 0, 0, 0]) 52)).heap.size = w.heap.size + 1 + 1 by simp] at hb3
  go_enter Tryd.func63, Tryd.ntmps63
  go_wp2_with fail
  rw [SZ4]
  generalize ((w.alloc (.cells (Ws a) 52)).alloc (.cells (Ws [0, 0, 0, 0]) 52)).alloc (.cells (Ws [0, 0, 0, 0]) 52) = w1 at hb1 hb2 hb3 hbel ⊢
  refine (H1.out _).mono ?_
  rintro e w2 ⟨rfl, k2⟩
  replace hb1 := hb1.keep k2
  replace hb2 := hb2.keep k2
  replace hb3 := hb3.keep k2
  replace hbel := hbel.trans (k2.mono hbel.size)
  clear k2 H1
  go_wp2_with fail
  go_loopw [4, 10] (fun o i wr => ∃ k : Nat, k ≤ 4 ∧ i = .int .i64 k ∧ o = .int .u64 (U (Sc.subTo a k).2) ∧ Blk wr (w.heap.size + 1 + 1) (Ws (Sc.subTo a k).1) 52 ∧ Blk wr w.heap.size (Ws a) 52 ∧ Blk wr (w.heap.size + 1) (Ws [0, 0, 0, 0]) 52 ∧ Below w.heap.size w wr) (fun _ i _ => 4 - (intOf i).toNat)
  case atStart => exact ⟨0, by omega, rfl, rfl, hb3, hb1, hb2, hbel⟩
  case round =>
    clear hb1 hb2 hb3 hbel w2
    obtain ⟨k, hk, rfl, rfl, hb3, hb1, hb2, hbel⟩ := hrel
    have hl3 : (Sc.subTo a k).1.length = 4 := Sc.subTo_length a k
    by_cases hlt : k < 4
    · have c1 := hb1.cell k
      rw [Ws_at _ _ (by omega)] at c1
      have f3 := hb3.frozen k
      have c3 := hb3.cell k
      rw [Ws_at _ _ (by omega)] at c3
      have HS : Hid (Sc.subTo a (k + 1) = ((Sc.subTo a k).1.set k (a.getD k 0 - Sc.md.getD k 0 - (Sc.subTo a k).2), Sc.less (a.getD k 0) (Sc.md.getD k 0) (Sc.subTo a k).2)) := by
        have : Sc.subTo a (k + 1) = ((Sc.subTo a k).1.set k (a.getD k 0 - Sc.md.getD k 0 - (Sc.subTo a k).2), Sc.less (a.getD k 0) (Sc.md.getD k 0) (Sc.subTo a k).2) := rfl
        exact this
      have hA := S_sub64 (a.getD k 0) (Sc.md.getD k 0) (Sc.subTo a k).2 (Sc.subTo_over a k)
      have hix : ∀ wx : World, (Instr.index 51 (.agg (Ws Sc.md)) (.int .i64 k)).run Tryd.prog wx = .ok (.int .u64 (U (Sc.md.getD k 0))) wx := S_index4' _ _ _ _ k hlt
      generalize (Sc.subTo a k).1 = L at hb3 hl3 HS c3
      generalize (Sc.subTo a k).2 = o at HS hA ⊢
      generalize a.getD k 0 = x at c1 HS hA
      generalize Sc.md.getD k 0 = y at HS hA hix
      generalize x - y - o = d at HS hA
      generalize Sc.less x y o = m at HS hA
      generalize L.getD k 0 = z at c3
      have i1 : (k : Int) < 4 := by omega
      go_wp2
      go_roundw
      case rel =>
        rw [hb3.set, Ws_set]
        refine ⟨k + 1, by omega, by go_num, ?_, ?_, hb1.other (by omega) _, hb2.other (by omega) _, below_setRow hbel (by omega) _⟩
        · rw [show Sc.subTo a (k + 1) = _ from HS.out]
        · rw [show Sc.subTo a (k + 1) = _ from HS.out]; exact hb3.row _
      case measure => simp [intOf]; omega
    · have hk8 : k = 4 := by omega
      subst hk8
      rw [show ((4 : Nat) : Int) = 4 from rfl]
      have a0 := F_neg (Sc.subTo a 4).2
      generalize (Sc.subTo a 4).1 = L at hb3 hl3 HE
      generalize -(Sc.subTo a 4).2 = m at HE a0
      generalize (Sc.subTo a 4).2 = o at a0 ⊢
      go_wp2_with fail
      go_loopw [28] (fun i wr => ∃ k : Nat, k ≤ 4 ∧ i = .int .i64 k ∧ Blk wr w.heap.size (Ws (Sc.pickTo a L m k)) 52 ∧ Blk wr (w.heap.size + 1 + 1) (Ws L) 52 ∧ Blk wr (w.heap.size + 1) (Ws [0, 0, 0, 0]) 52 ∧ Below w.heap.size w wr) (fun i _ => 4 - (intOf i).toNat)
      case atStart => exact ⟨0, by omega, rfl, hb1, hb3, hb2, hbel⟩
      case round =>
        clear hb1 hb2 hb3 hbel
        obtain ⟨k, hk, rfl, hb1, hb3, hb2, hbel⟩ := hrel
        have hl1 : (Sc.pickTo a L m k).length = 4 := by rw [Sc.pickTo_length, ha]
        by_cases hlt : k < 4
        · have c1 := hb1.cell k
          rw [Ws_at _ _ (by omega)] at c1
          have c3 := hb3.cell k
          rw [Ws_at _ _ (by omega)] at c3
          have f1 := hb1.frozen k
          have HS : Hid (Sc.pickTo a L m (k + 1) = (Sc.pickTo a L m k).set k (((Sc.pickTo a L m k).getD k 0 &&& m) ||| (L.getD k 0 &&& ~~~m))) := by
            have : Sc.pickTo a L m (k + 1) = (Sc.pickTo a L m k).set k (((Sc.pickTo a L m k).getD k 0 &&& m) ||| (L.getD k 0 &&& ~~~m)) := rfl
            exact this
          generalize Sc.pickTo a L m k = A at hb1 HS hl1 c1
          generalize A.getD k 0 = x at c1 HS
          generalize L.getD k 0 = y at c3 HS
          have i1 : (k : Int) < 4 := by omega
          have a1 := U_and x m
          have a2 := S_andNot y m
          generalize x &&& m = u at a1 HS
          generalize y &&& ~~~m = v at a2 HS
          have a3 := U_or u v
          generalize u ||| v = z at a3 HS
          go_wp2_with fail
          go_region
          go_wp2
          go_roundw
          case rel =>
            rw [hb1.set, Ws_set]
            exact ⟨k + 1, by omega, by go_num, by rw [show Sc.pickTo a L m (k + 1) = _ from HS.out]; exact hb1.row _, hb3.other (by omega) _, hb2.other (by omega) _, (below_setRow hbel (by omega) _).drew⟩
          case measure => simp [intOf]; omega
        · have hk8 : k = 4 := by omega
          subst hk8
          generalize Sc.pickTo a L m 4 = S at hb1 hl1 HE
          have g0 := hb1
          unfold Blk at g0
          have sS : (Ws S).size = 4 := by rw [Ws_size, hl1]
          have hst := storeRow (l := S) hb2 (by rw [hl1]; rfl)
          go_wp2_with (first
            | (refine wpList_load_row rfl 52 _ rfl w.heap.size rfl 52 _ (0, 0) _ g0 Tryd.underlying52 rfl (by rw [sS]; exact Tryd.infoS4) ?_))
          refine bodyPost_ret (v := .agg (Ws S)) ?_ rfl ⟨by rw [show R = _ from HE.out], below_setRow hbel (by omega) _⟩
          exact results_cell_row rfl _ _ (w.heap.size + 1) 52 _ (0, 0) _ rfl (hb2.row _) Tryd.underlying52 rfl (by rw [sS]; exact Tryd.infoS4)

set_option maxRecDepth 100000 in
set_option maxHeartbeats 2000000 in
theorem S_plus (a b : List (BitVec 64)) (w : World) (ha : a.length = 4) (hb : b.length = 4) :
    Calls Tryd.prog 37 #[.agg (Ws a), .agg (Ws b)] w fun e w' => e = .returned (.agg (Ws (Sc.plus a b))) ∧ Below w.heap.size w w' := by
  have sa : (Ws a).size = 4 := by rw [Ws_size, ha]
  have sb : (Ws b).size = 4 := by rw [Ws_size, hb]
  have HE : Hid (Sc.plus a b = Sc.lowered (Sc.addTo a b 4).1) := by
    have : Sc.plus a b = Sc.lowered (Sc.addTo a b 4).1 := rfl
    exact this
  generalize Sc.plus a b = R at HE ⊢
  have hb1 := Blk.alloc (Blk.alloc (Blk.new w (Ws a) 52) (.cells (Ws b) 52)) (.cells (Ws [0, 0, 0, 0]) 52)
  have hb2 := Blk.alloc (Blk.new (w.alloc (.cells (Ws a) 52)) (Ws b) 52) (.cells (Ws [0, 0, 0, 0]) 52)
  have hb3 := Blk.new ((w.alloc (.cells (Ws a) 52)).alloc (.cells (Ws b) 52)) (Ws [0, 0, 0, 0]) 52
  have hbel : Below w.heap.size w (((w.alloc (.cells (Ws a) 52)).alloc (.cells (Ws b) 52)).alloc (.cells (Ws [0, 0, 0, 0]) 52)) :=
    (((Below.refl _ _).alloc (Nat.le_refl _) _).alloc (by simp) _).alloc (by simp; omega) _
  rw [show (w.alloc (.cells (Ws a) 52)).heap.size = w.heap.size + 1 by simp] at hb2
  rw [show ((w.alloc (.cells (Ws a) 52)).alloc (.cells (Ws b) 52)).heap.size = w.heap.size + 1 + 1 by simp] at hb3
  go_enter Tryd.func37, Tryd.ntmps37
  go_wp2_with fail
  rw [SZ4]
  generalize ((w.alloc (.cells (Ws a) 52)).alloc (.cells (Ws b) 52)).alloc (.cells (Ws [0, 0, 0, 0]) 52) = w1 at hb1 hb2 hb3 hbel ⊢
  go_loopw [5, 7] (fun o i wr => ∃ k : Nat, k ≤ 4 ∧ i = .int .i64 k ∧ o = .int .u64 (U (Sc.addTo a b k).2) ∧ Blk wr w.heap.size (Ws (Sc.addTo a b k).1) 52 ∧ Blk wr (w.heap.size + 1) (Ws b) 52 ∧ Blk wr (w.heap.size + 1 + 1) (Ws [0, 0, 0, 0]) 52 ∧ Below w.heap.size w wr) (fun _ i _ => 4 - (intOf i).toNat)
  case atStart => exact ⟨0, by omega, rfl, rfl, hb1, hb2, hb3, hbel⟩
  case round =>
    clear hb1 hb2 hb3 hbel w1
    obtain ⟨k, hk, rfl, rfl, hb1, hb2, hb3, hbel⟩ := hrel
    have hl1 : (Sc.addTo a b k).1.length = 4 := by rw [Sc.addTo_length, ha]
    by_cases hlt : k < 4
    · have c1 := hb1.cell k
      rw [Ws_at _ _ (by omega)] at c1
      have c2 := hb2.cell k
      rw [Ws_at _ _ (by omega)] at c2
      have f1 := hb1.frozen k
      have HS : Hid (Sc.addTo a b (k + 1) = ((Sc.addTo a b k).1.set k ((Sc.addTo a b k).1.getD k 0 + b.getD k 0 + (Sc.addTo a b k).2), BitVec.ofNat 64 ((((Sc.addTo a b k).1.getD k 0).toNat + (b.getD k 0).toNat + (Sc.addTo a b k).2.toNat) / 18446744073709551616))) := by
        have : Sc.addTo a b (k + 1) = ((Sc.addTo a b k).1.set k ((Sc.addTo a b k).1.getD k 0 + b.getD k 0 + (Sc.addTo a b k).2), BitVec.ofNat 64 ((((Sc.addTo a b k).1.getD k 0).toNat + (b.getD k 0).toNat + (Sc.addTo a b k).2.toNat) / 18446744073709551616)) := rfl
        exact this
      have hA := F_add64 ((Sc.addTo a b k).1.getD k 0) (b.getD k 0) (Sc.addTo a b k).2 (Sc.addTo_over a b k)
      generalize (Sc.addTo a b k).1 = L at hb1 hl1 HS c1 hA
      generalize (Sc.addTo a b k).2 = o at HS hA ⊢
      generalize L.getD k 0 = x at c1 HS hA
      generalize b.getD k 0 = y at c2 HS hA
      generalize x + y + o = d at HS hA
      generalize BitVec.ofNat 64 ((x.toNat + y.toNat + o.toNat) / 18446744073709551616) = m at HS hA
      have i1 : (k : Int) < 4 := by omega
      go_wp2_with fail
      go_region
      go_wp2
      go_roundw
      case rel =>
        rw [hb1.set, Ws_set]
        refine ⟨k + 1, by omega, by go_num, ?_, ?_, hb2.other (by omega) _, hb3.other (by omega) _, (below_setRow hbel (by omega) _).drew⟩
        · rw [show Sc.addTo a b (k + 1) = _ from HS.out]
        · rw [show Sc.addTo a b (k + 1) = _ from HS.out]; exact hb1.row _
      case measure => simp [intOf]; omega
    · have hk8 : k = 4 := by omega
      subst hk8
      have H1 : Hid (∀ wx : World, Calls Tryd.prog 63 #[.agg (Ws (Sc.addTo a b 4).1)] wx fun e w' => e = .returned (.agg (Ws (Sc.lowered (Sc.addTo a b 4).1))) ∧ Below wx.heap.size wx w') := fun wx => S_lowered _ wx hl1
      have hlR : (Sc.lowered (Sc.addTo a b 4).1).length = 4 := by rw [Sc.lowered_length, hl1]
      generalize Sc.lowered (Sc.addTo a b 4).1 = T at HE H1 hlR
      generalize (Sc.addTo a b 4).1 = S at hb1 hl1 H1
      have g0 := hb1
      unfold Blk at g0
      have sS : (Ws S).size = 4 := by rw [Ws_size, hl1]
      have sT : (Ws T).size = 4 := by rw [Ws_size, hlR]
      go_wp2_with (first
        | (refine wpList_load_row rfl 52 _ rfl w.heap.size rfl 52 _ (0, 0) _ g0 Tryd.underlying52 rfl (by rw [sS]; exact Tryd.infoS4) ?_))
      refine (H1.out _).mono ?_
      rintro e w2 ⟨rfl, k2⟩
      replace hb3 := hb3.keep k2
      replace hbel := hbel.trans (k2.mono hbel.size)
      have hst := storeRow (l := T) hb3 (by rw [hlR]; rfl)
      go_wp2
      refine bodyPost_ret (v := .agg (Ws T)) ?_ rfl ⟨by rw [show R = _ from HE.out], below_setRow hbel (by omega) _⟩
      exact results_cell_row rfl _ _ (w.heap.size + 1 + 1) 52 _ (0, 0) _ rfl (hb3.row _) Tryd.underlying52 rfl (by rw [sT]; exact Tryd.infoS4)
end Go.Proofs.YtclpbaokadfhhaaDoor
