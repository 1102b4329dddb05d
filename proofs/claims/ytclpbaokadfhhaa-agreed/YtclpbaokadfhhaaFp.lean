/- Contracts of field's Plus, Minus, Swap. -/
import Derived.Test.YtclpbaokadfhhaaFc
namespace Go.Proofs.Ytclpbaokadfhhaa
open Go.RowKit

/-- a sum or a difference is written back -/
theorem F_index5' (x0 x1 x2 x3 x4 : BitVec 64) (k : Nat) (hk : k < 5) (w : World) :
    (Instr.index 46 (.agg (Ws [x0, x1, x2, x3, x4])) (.int .i64 k)).run Try.prog w = .ok (.int .u64 (U ([x0, x1, x2, x3, x4].getD k 0))) w := by
  obtain rfl | rfl | rfl | rfl | rfl : k = 0 ∨ k = 1 ∨ k = 2 ∨ k = 3 ∨ k = 4 := by omega
  all_goals kernel_rfl
theorem F_sub (x y : BitVec 64) : IntKind.u64.wrap (U x - U y) = U (x - y) := by
  rw [IntKind.wrap_u64]; unfold U; rw [BitVec.toNat_sub]; have := x.isLt; have := y.isLt; omega

set_option maxRecDepth 100000 in
set_option maxHeartbeats 1000000 in
theorem F_plus (a b : List (BitVec 64)) (w : World) (ha : a.length = 5) (hb : b.length = 5) :
    Calls Try.prog 50 #[.agg (Ws a), .agg (Ws b)] w fun e w' => e = .returned (.agg (Ws (Ff.plus a b))) ∧ Below w.heap.size w w' := by
  have sa : (Ws a).size = 5 := by rw [Ws_size, ha]
  have sb : (Ws b).size = 5 := by rw [Ws_size, hb]
  have hb1 := Blk.alloc (Blk.alloc (Blk.new w (Ws a) 47) (.cells (Ws b) 47)) (.cells (Ws [0, 0, 0, 0, 0]) 47)
  have hb2 := Blk.alloc (Blk.new (w.alloc (.cells (Ws a) 47)) (Ws b) 47) (.cells (Ws [0, 0, 0, 0, 0]) 47)
  have hb3 := Blk.new ((w.alloc (.cells (Ws a) 47)).alloc (.cells (Ws b) 47)) (Ws [0, 0, 0, 0, 0]) 47
  have hbel : Below w.heap.size w (((w.alloc (.cells (Ws a) 47)).alloc (.cells (Ws b) 47)).alloc (.cells (Ws [0, 0, 0, 0, 0]) 47)) :=
    (((Below.refl _ _).alloc (Nat.le_refl _) _).alloc (by simp) _).alloc (by simp; omega) _
  rw [show (w.alloc (.cells (Ws a) 47)).heap.size = w.heap.size + 1 by simp] at hb2
  rw [show ((w.alloc (.cells (Ws a) 47)).alloc (.cells (Ws b) 47)).heap.size = w.heap.size + 1 + 1 by simp] at hb3
  go_enter Try.func50, Try.ntmps50
  go_wp2_with fail
  rw [FZ5]
  generalize ((w.alloc (.cells (Ws a) 47)).alloc (.cells (Ws b) 47)).alloc (.cells (Ws [0, 0, 0, 0, 0]) 47) = w1 at hb1 hb2 hb3 hbel ⊢
  go_loopw [6] (fun i wr => ∃ k : Nat, k ≤ 5 ∧ i = .int .i64 k ∧ Blk wr w.heap.size (Ws (Ff.plusTo a b k)) 47 ∧ Blk wr (w.heap.size + 1) (Ws b) 47 ∧ Blk wr (w.heap.size + 1 + 1) (Ws [0, 0, 0, 0, 0]) 47 ∧ Below w.heap.size w wr) (fun i _ => 5 - (intOf i).toNat)
  case atStart => exact ⟨0, by omega, rfl, hb1, hb2, hb3, hbel⟩
  case round =>
    clear hb1 hb2 hb3 hbel w1
    obtain ⟨k, hk, rfl, hb1, hb2, hb3, hbel⟩ := hrel
    by_cases hlt : k < 5
    · have c1 := hb1.cell k
      rw [Ws_at _ _ (by rw [Ff.plusTo_length]; omega)] at c1
      have c2 := hb2.cell k
      rw [Ws_at _ _ (by omega)] at c2
      have f1 := hb1.frozen k
      have HS : Hid (Ff.plusTo a b (k + 1) = (Ff.plusTo a b k).set k ((Ff.plusTo a b k).getD k 0 + b.getD k 0)) := by
        have : Ff.plusTo a b (k + 1) = (Ff.plusTo a b k).set k ((Ff.plusTo a b k).getD k 0 + b.getD k 0) := rfl
        exact this
      generalize (Ff.plusTo a b k).getD k 0 = x at c1 HS
      generalize b.getD k 0 = y at c2 HS
      have i1 : (k : Int) < 5 := by omega
      go_wp2_with fail
      go_region
      go_wp2
      go_roundw
      case rel =>
        rw [U_add, hb1.set, Ws_set]
        exact ⟨k + 1, by omega, by go_num, by rw [show Ff.plusTo a b (k + 1) = _ from HS.out]; exact hb1.row _, hb2.other (by omega) _, hb3.other (by omega) _, (below_setRow hbel (by omega) _).drew⟩
      case measure => simp [intOf]; omega
    · have hk8 : k = 5 := by omega
      subst hk8
      have HE : Hid (Ff.plus a b = Ff.carried (Ff.plusTo a b 5)) := by
        have : Ff.plus a b = Ff.carried (Ff.plusTo a b 5) := rfl
        exact this
      have hlS : (Ff.plusTo a b 5).length = 5 := by rw [Ff.plusTo_length, ha]
      have hlR : (Ff.carried (Ff.plusTo a b 5)).length = 5 := by rw [Ff.carried_length, hlS]
      have H1 : Hid (∀ wx : World, Calls Try.prog 57 #[.agg (Ws (Ff.plusTo a b 5))] wx fun e w' => e = .returned (.agg (Ws (Ff.carried (Ff.plusTo a b 5)))) ∧ Below wx.heap.size wx w') := fun wx => F_carried _ wx hlS
      generalize Ff.carried (Ff.plusTo a b 5) = R at HE H1 hlR
      generalize Ff.plusTo a b 5 = S at hb1 H1 hlS
      have g0 := hb1
      unfold Blk at g0
      have sS : (Ws S).size = 5 := by rw [Ws_size, hlS]
      have sR : (Ws R).size = 5 := by rw [Ws_size, hlR]
      go_wp2_with (first
        | (refine wpList_load_row rfl 47 _ rfl w.heap.size rfl 47 _ (0, 0) _ g0 Try.underlying47 rfl (by rw [sS]; exact Try.infoF5) ?_))
      refine (H1.out _).mono ?_
      rintro e w2 ⟨rfl, k2⟩
      replace hb3 := hb3.keep k2
      replace hbel := hbel.trans (k2.mono hbel.size)
      have hst := storeRow (l := R) hb3 (by rw [hlR]; rfl)
      go_wp2
      refine bodyPost_ret (v := .agg (Ws R)) ?_ rfl ⟨by rw [show Ff.plus a b = _ from HE.out], below_setRow hbel (by omega) _⟩
      exact results_cell_row rfl _ _ (w.heap.size + 1 + 1) 47 _ (0, 0) _ rfl (hb3.row _) Try.underlying47 rfl (by rw [sR]; exact Try.infoF5)

set_option maxRecDepth 100000 in
set_option maxHeartbeats 1000000 in
theorem F_minus (a b : List (BitVec 64)) (w : World) (ha : a.length = 5) (hb : b.length = 5) :
    Calls Try.prog 51 #[.agg (Ws a), .agg (Ws b)] w fun e w' => e = .returned (.agg (Ws (Ff.minus a b))) ∧ Below w.heap.size w w' := by
  have sa : (Ws a).size = 5 := by rw [Ws_size, ha]
  have sb : (Ws b).size = 5 := by rw [Ws_size, hb]
  have hb1 := Blk.alloc (Blk.alloc (Blk.new w (Ws a) 47) (.cells (Ws b) 47)) (.cells (Ws [0, 0, 0, 0, 0]) 47)
  have hb2 := Blk.alloc (Blk.new (w.alloc (.cells (Ws a) 47)) (Ws b) 47) (.cells (Ws [0, 0, 0, 0, 0]) 47)
  have hb3 := Blk.new ((w.alloc (.cells (Ws a) 47)).alloc (.cells (Ws b) 47)) (Ws [0, 0, 0, 0, 0]) 47
  have hbel : Below w.heap.size w (((w.alloc (.cells (Ws a) 47)).alloc (.cells (Ws b) 47)).alloc (.cells (Ws [0, 0, 0, 0, 0]) 47)) :=
    (((Below.refl _ _).alloc (Nat.le_refl _) _).alloc (by simp) _).alloc (by simp; omega) _
  rw [show (w.alloc (.cells (Ws a) 47)).heap.size = w.heap.size + 1 by simp] at hb2
  rw [show ((w.alloc (.cells (Ws a) 47)).alloc (.cells (Ws b) 47)).heap.size = w.heap.size + 1 + 1 by simp] at hb3
  go_enter Try.func51, Try.ntmps51
  go_wp2_with fail
  rw [FZ5]
  rw [show (#[.int .u64 9007199254740916, .int .u64 9007199254740988, .int .u64 9007199254740988, .int .u64 9007199254740988, .int .u64 9007199254740988] : Array Value) = Ws Ff.four from rfl]
  generalize ((w.alloc (.cells (Ws a) 47)).alloc (.cells (Ws b) 47)).alloc (.cells (Ws [0, 0, 0, 0, 0]) 47) = w1 at hb1 hb2 hb3 hbel ⊢
  go_loopw [8] (fun i wr => ∃ k : Nat, k ≤ 5 ∧ i = .int .i64 k ∧ Blk wr w.heap.size (Ws (Ff.minusTo a b k)) 47 ∧ Blk wr (w.heap.size + 1) (Ws b) 47 ∧ Blk wr (w.heap.size + 1 + 1) (Ws [0, 0, 0, 0, 0]) 47 ∧ Below w.heap.size w wr) (fun i _ => 5 - (intOf i).toNat)
  case atStart => exact ⟨0, by omega, rfl, hb1, hb2, hb3, hbel⟩
  case round =>
    clear hb1 hb2 hb3 hbel w1
    obtain ⟨k, hk, rfl, hb1, hb2, hb3, hbel⟩ := hrel
    by_cases hlt : k < 5
    · have c1 := hb1.cell k
      rw [Ws_at _ _ (by rw [Ff.minusTo_length]; omega)] at c1
      have c2 := hb2.cell k
      rw [Ws_at _ _ (by omega)] at c2
      have f1 := hb1.frozen k
      have HS : Hid (Ff.minusTo a b (k + 1) = (Ff.minusTo a b k).set k ((Ff.minusTo a b k).getD k 0 + (Ff.four.getD k 0 - b.getD k 0))) := by
        have : Ff.minusTo a b (k + 1) = (Ff.minusTo a b k).set k ((Ff.minusTo a b k).getD k 0 + (Ff.four.getD k 0 - b.getD k 0)) := rfl
        exact this
      have hix : ∀ wx : World, (Instr.index 46 (.agg (Ws Ff.four)) (.int .i64 k)).run Try.prog wx = .ok (.int .u64 (U (Ff.four.getD k 0))) wx := F_index5' _ _ _ _ _ k hlt
      generalize (Ff.minusTo a b k).getD k 0 = x at c1 HS
      generalize b.getD k 0 = y at c2 HS
      generalize Ff.four.getD k 0 = z at hix HS
      have i1 : (k : Int) < 5 := by omega
      have a1 := F_sub z y
      generalize z - y = d at a1 HS
      go_wp2_with fail
      go_region
      go_wp2
      go_roundw
      case rel =>
        rw [U_add, hb1.set, Ws_set]
        exact ⟨k + 1, by omega, by go_num, by rw [show Ff.minusTo a b (k + 1) = _ from HS.out]; exact hb1.row _, hb2.other (by omega) _, hb3.other (by omega) _, (below_setRow hbel (by omega) _).drew⟩
      case measure => simp [intOf]; omega
    · have hk8 : k = 5 := by omega
      subst hk8
      have HE : Hid (Ff.minus a b = Ff.carried (Ff.minusTo a b 5)) := by
        have : Ff.minus a b = Ff.carried (Ff.minusTo a b 5) := rfl
        exact this
      have hlS : (Ff.minusTo a b 5).length = 5 := by rw [Ff.minusTo_length, ha]
      have hlR : (Ff.carried (Ff.minusTo a b 5)).length = 5 := by rw [Ff.carried_length, hlS]
      have H1 : Hid (∀ wx : World, Calls Try.prog 57 #[.agg (Ws (Ff.minusTo a b 5))] wx fun e w' => e = .returned (.agg (Ws (Ff.carried (Ff.minusTo a b 5)))) ∧ Below wx.heap.size wx w') := fun wx => F_carried _ wx hlS
      generalize Ff.carried (Ff.minusTo a b 5) = R at HE H1 hlR
      generalize Ff.minusTo a b 5 = S at hb1 H1 hlS
      have g0 := hb1
      unfold Blk at g0
      have sS : (Ws S).size = 5 := by rw [Ws_size, hlS]
      have sR : (Ws R).size = 5 := by rw [Ws_size, hlR]
      go_wp2_with (first
        | (refine wpList_load_row rfl 47 _ rfl w.heap.size rfl 47 _ (0, 0) _ g0 Try.underlying47 rfl (by rw [sS]; exact Try.infoF5) ?_))
      refine (H1.out _).mono ?_
      rintro e w2 ⟨rfl, k2⟩
      replace hb3 := hb3.keep k2
      replace hbel := hbel.trans (k2.mono hbel.size)
      have hst := storeRow (l := R) hb3 (by rw [hlR]; rfl)
      go_wp2
      refine bodyPost_ret (v := .agg (Ws R)) ?_ rfl ⟨by rw [show Ff.minus a b = _ from HE.out], below_setRow hbel (by omega) _⟩
      exact results_cell_row rfl _ _ (w.heap.size + 1 + 1) 47 _ (0, 0) _ rfl (hb3.row _) Try.underlying47 rfl (by rw [sR]; exact Try.infoF5)

end Go.Proofs.Ytclpbaokadfhhaa
