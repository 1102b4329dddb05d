/- Contract of cipher.times. -/
import Derived.Test.YtclpbaokadfhhaaCPlus
namespace Go.Proofs.Ytclpbaokadfhhaa
open Go.RowKit

namespace Cc
/-- one product added to the sums -/
def tstep (s : List (BitVec 64)) (i j : Nat) (p : BitVec 64) : List (BitVec 64) :=
  if i + j < 5 then s.set (i + j) (s.getD (i + j) 0 + p) else s.set (i + j - 5) (s.getD (i + j - 5) 0 + 5 * p)
theorem tstep_length (s : List (BitVec 64)) (i j : Nat) (p : BitVec 64) : (tstep s i j p).length = s.length := by
  unfold tstep; split <;> simp
def rowT (a b s : List (BitVec 64)) (i : Nat) : Nat → List (BitVec 64)
  | 0 => s
  | j + 1 => tstep (rowT a b s i j) i j (a.getD i 0 * b.getD j 0)
theorem rowT_length (a b s : List (BitVec 64)) (i j : Nat) : (rowT a b s i j).length = s.length := by
  induction j with
  | zero => rfl
  | succ j ih => simp [rowT, tstep_length, ih]
def timesTo (a b : List (BitVec 64)) : Nat → List (BitVec 64)
  | 0 => [0, 0, 0, 0, 0]
  | i + 1 => rowT a b (timesTo a b i) i 5
theorem timesTo_length (a b : List (BitVec 64)) (i : Nat) : (timesTo a b i).length = 5 := by
  induction i with
  | zero => rfl
  | succ i ih => simp [timesTo, rowT_length, ih]
def times (a b : List (BitVec 64)) : List (BitVec 64) := carry (timesTo a b 5)
theorem times_length (a b : List (BitVec 64)) : (times a b).length = 5 := by simp [times, carry_length, timesTo_length]
end Cc
theorem U_mul (x y : BitVec 64) : IntKind.u64.wrap (U x * U y) = U (x * y) := by
  rw [IntKind.wrap_u64]; unfold U; rw [BitVec.toNat_mul]; simp

set_option maxRecDepth 100000 in
set_option maxHeartbeats 2000000 in
theorem times_any (a b : List (BitVec 64)) (w : World) (ha : a.length = 5) (hb : b.length = 5) :
    Calls Try.prog 43 #[.agg (Ws a), .agg (Ws b)] w fun e w' => e = .returned (.agg (Ws (Cc.times a b))) ∧ Below w.heap.size w w' := by
  have sa : (Ws a).size = 5 := by rw [Ws_size, ha]
  have sb : (Ws b).size = 5 := by rw [Ws_size, hb]
  have hb1 := Blk.alloc (Blk.alloc (Blk.alloc (Blk.new w (Ws a) 69) (.cells (Ws b) 69)) (.cells (Ws [0, 0, 0, 0, 0]) 69)) (.cells (Ws [0, 0, 0, 0, 0]) 69)
  have hb2 := Blk.alloc (Blk.alloc (Blk.new (w.alloc (.cells (Ws a) 69)) (Ws b) 69) (.cells (Ws [0, 0, 0, 0, 0]) 69)) (.cells (Ws [0, 0, 0, 0, 0]) 69)
  have hb3 := Blk.alloc (Blk.new ((w.alloc (.cells (Ws a) 69)).alloc (.cells (Ws b) 69)) (Ws [0, 0, 0, 0, 0]) 69) (.cells (Ws [0, 0, 0, 0, 0]) 69)
  have hb4 := Blk.new (((w.alloc (.cells (Ws a) 69)).alloc (.cells (Ws b) 69)).alloc (.cells (Ws [0, 0, 0, 0, 0]) 69)) (Ws [0, 0, 0, 0, 0]) 69
  have hbel : Below w.heap.size w ((((w.alloc (.cells (Ws a) 69)).alloc (.cells (Ws b) 69)).alloc (.cells (Ws [0, 0, 0, 0, 0]) 69)).alloc (.cells (Ws [0, 0, 0, 0, 0]) 69)) :=
    ((((Below.refl _ _).alloc (Nat.le_refl _) _).alloc (by simp) _).alloc (by simp; omega) _).alloc (by simp; omega) _
  rw [show (w.alloc (.cells (Ws a) 69)).heap.size = w.heap.size + 1 by simp] at hb2
  rw [show ((w.alloc (.cells (Ws a) 69)).alloc (.cells (Ws b) 69)).heap.size = w.heap.size + 1 + 1 by simp] at hb3
  rw [show (((w.alloc (.cells (Ws a) 69)).alloc (.cells (Ws b) 69)).alloc (.cells (Ws [0, 0, 0, 0, 0]) 69)).heap.size = w.heap.size + 1 + 1 + 1 by simp] at hb4
  go_enter Try.func43, Try.ntmps43
  go_wp2_with fail
  rw [Z5]
  generalize (((w.alloc (.cells (Ws a) 69)).alloc (.cells (Ws b) 69)).alloc (.cells (Ws [0, 0, 0, 0, 0]) 69)).alloc (.cells (Ws [0, 0, 0, 0, 0]) 69) = w1 at hb1 hb2 hb3 hb4 hbel ⊢
  go_loopw [9] (fun i wr => ∃ k : Nat, k ≤ 5 ∧ i = .int .i64 k ∧ Blk wr w.heap.size (Ws a) 69 ∧ Blk wr (w.heap.size + 1) (Ws b) 69 ∧ Blk wr (w.heap.size + 1 + 1) (Ws [0, 0, 0, 0, 0]) 69 ∧ Blk wr (w.heap.size + 1 + 1 + 1) (Ws (Cc.timesTo a b k)) 69 ∧ Below w.heap.size w wr) (fun i _ => 5 - (intOf i).toNat)
  case atStart => exact ⟨0, by omega, rfl, hb1, hb2, hb3, hb4, hbel⟩
  case round =>
    clear hb1 hb2 hb3 hb4 hbel w1
    obtain ⟨i, hi, rfl, hb1, hb2, hb3, hb4, hbel⟩ := hrel
    by_cases hlt : i < 5
    · have i1 : (i : Int) < 5 := by omega
      have hlS : (Cc.timesTo a b i).length = 5 := Cc.timesTo_length _ _ _
      have HT : Hid (Cc.timesTo a b (i + 1) = Cc.rowT a b (Cc.timesTo a b i) i 5) := by
        have : Cc.timesTo a b (i + 1) = Cc.rowT a b (Cc.timesTo a b i) i 5 := rfl
        exact this
      generalize Cc.timesTo a b i = S at hb4 hlS HT
      go_wp2_with fail
      go_loopw [12] (fun c wr => ∃ j : Nat, j ≤ 5 ∧ c = .int .i64 j ∧ Blk wr w.heap.size (Ws a) 69 ∧ Blk wr (w.heap.size + 1) (Ws b) 69 ∧ Blk wr (w.heap.size + 1 + 1) (Ws [0, 0, 0, 0, 0]) 69 ∧ Blk wr (w.heap.size + 1 + 1 + 1) (Ws (Cc.rowT a b S i j)) 69 ∧ Below w.heap.size w wr) (fun c _ => 5 - (intOf c).toNat)
      case atStart => exact ⟨0, by omega, rfl, hb1, hb2, hb3, hb4, hbel⟩
      case round =>
        clear hb1 hb2 hb3 hb4 hbel
        obtain ⟨j, hj, rfl, hb1, hb2, hb3, hb4, hbel⟩ := hrel
        by_cases hlj : j < 5
        · have j1 : (j : Int) < 5 := by omega
          have hlL : (Cc.rowT a b S i j).length = 5 := by rw [Cc.rowT_length, hlS]
          have HR : Hid (Cc.rowT a b S i (j + 1) = Cc.tstep (Cc.rowT a b S i j) i j (a.getD i 0 * b.getD j 0)) := by
            have : Cc.rowT a b S i (j + 1) = Cc.tstep (Cc.rowT a b S i j) i j (a.getD i 0 * b.getD j 0) := rfl
            exact this
          generalize Cc.rowT a b S i j = L at hb4 hlL HR
          have c1 := hb1.cell i
          rw [Ws_at _ _ (by omega)] at c1
          have c2 := hb2.cell j
          rw [Ws_at _ _ (by omega)] at c2
          generalize a.getD i 0 = x at c1 HR
          generalize b.getD j 0 = y at c2 HR
          have a1 := U_mul x y
          generalize x * y = p at a1 HR
          by_cases hs : i + j < 5
          · have s1 : (i : Int) + (j : Int) < 5 := by omega
            have s2 : ((i : Int) + (j : Int)).toNat = i + j := by omega
            have s3 : (0 : Int) ≤ (i : Int) + (j : Int) := by omega
            have s4 : IntKind.i64.wrap ((i : Int) + (j : Int)) = (i : Int) + (j : Int) := by rw [IntKind.wrap_i64]; omega
            have c3 := hb4.cell (i + j)
            rw [Ws_at _ _ (by omega)] at c3
            have f3 := hb4.frozen (i + j)
            have HS : Hid (Cc.tstep L i j p = L.set (i + j) (L.getD (i + j) 0 + p)) := by
              have : Cc.tstep L i j p = L.set (i + j) (L.getD (i + j) 0 + p) := by unfold Cc.tstep; rw [if_pos hs]
              exact this
            generalize L.getD (i + j) 0 = z at c3 HS
            have a2 := U_add z p
            generalize z + p = q at a2 HS
            go_wp2_with fail
            go_quiet (fail)
            go_wp2
            go_roundw
            case rel =>
              refine ⟨j + 1, by omega, by go_num, ?_, ?_, ?_, ?_, ?_⟩
              · rw [(hb4.drewN _).set]; exact (hb1.drewN _).other (by omega) _
              · rw [(hb4.drewN _).set]; exact (hb2.drewN _).other (by omega) _
              · rw [(hb4.drewN _).set]; exact (hb3.drewN _).other (by omega) _
              · rw [(hb4.drewN _).set, Ws_set, show Cc.rowT a b S i (j + 1) = _ from HR.out, show Cc.tstep L i j p = _ from HS.out]; exact (hb4.drewN _).row _
              · exact (below_drewN hbel _).setCell (show w.heap.size ≤ w.heap.size + 1 + 1 + 1 by omega) _
            case measure => simp [intOf]; omega
          · have s1 : ¬ (i : Int) + (j : Int) < 5 := by omega
            have s2 : ((i : Int) + (j : Int) - 5).toNat = i + j - 5 := by omega
            have s3 : (0 : Int) ≤ (i : Int) + (j : Int) - 5 := by omega
            have s5 : (i : Int) + (j : Int) - 5 < 5 := by omega
            have s4 : IntKind.i64.wrap ((i : Int) + (j : Int)) = (i : Int) + (j : Int) := by rw [IntKind.wrap_i64]; omega
            have s6 : IntKind.i64.wrap ((i : Int) + (j : Int) - 5) = (i : Int) + (j : Int) - 5 := by rw [IntKind.wrap_i64]; omega
            have c3 := hb4.cell (i + j - 5)
            rw [Ws_at _ _ (by omega)] at c3
            have f3 := hb4.frozen (i + j - 5)
            have HS : Hid (Cc.tstep L i j p = L.set (i + j - 5) (L.getD (i + j - 5) 0 + 5 * p)) := by
              have : Cc.tstep L i j p = L.set (i + j - 5) (L.getD (i + j - 5) 0 + 5 * p) := by unfold Cc.tstep; rw [if_neg hs]
              exact this
            generalize L.getD (i + j - 5) 0 = z at c3 HS
            have a3 := U_mul5 p
            generalize 5 * p = p5 at a3 HS
            have a2 := U_add z p5
            generalize z + p5 = q at a2 HS
            go_wp2_with fail
            go_quiet (fail)
            go_wp2
            go_roundw
            case rel =>
              refine ⟨j + 1, by omega, by go_num, ?_, ?_, ?_, ?_, ?_⟩
              · rw [(hb4.drewN _).set]; exact (hb1.drewN _).other (by omega) _
              · rw [(hb4.drewN _).set]; exact (hb2.drewN _).other (by omega) _
              · rw [(hb4.drewN _).set]; exact (hb3.drewN _).other (by omega) _
              · rw [(hb4.drewN _).set, Ws_set, show Cc.rowT a b S i (j + 1) = _ from HR.out, show Cc.tstep L i j p = _ from HS.out]; exact (hb4.drewN _).row _
              · exact (below_drewN hbel _).setCell (show w.heap.size ≤ w.heap.size + 1 + 1 + 1 by omega) _
            case measure => simp [intOf]; omega
        · have hj5 : j = 5 := by omega
          subst hj5
          go_wp2
          go_roundw
          case rel => exact ⟨i + 1, by omega, by go_num, hb1, hb2, hb3, by rw [show Cc.timesTo a b (i + 1) = _ from HT.out]; exact hb4, hbel⟩
          case measure => simp [intOf]; omega
    · have hk8 : i = 5 := by omega
      subst hk8
      rw [show ((5 : Nat) : Int) = 5 from rfl]
      have hlS : (Cc.timesTo a b 5).length = 5 := Cc.timesTo_length _ _ _
      have hC := carry_any (Cc.timesTo a b 5) wr hlS
      rw [show Cc.carry (Cc.timesTo a b 5) = Cc.times a b from rfl] at hC
      have HC : Hid (Calls Try.prog 61 #[.agg (Ws (Cc.timesTo a b 5))] wr fun e w' => e = .returned (.agg (Ws (Cc.times a b))) ∧ Below wr.heap.size wr w') := hC
      clear hC
      have hl5 : (Cc.times a b).length = 5 := Cc.times_length _ _
      generalize Cc.timesTo a b 5 = S at hb4 hlS HC
      have g4 := hb4
      unfold Blk at g4
      have sS : (Ws S).size = 5 := by rw [Ws_size, hlS]
      go_wp2_with (first
        | (refine wpList_load_row rfl 69 _ rfl (w.heap.size + 1 + 1 + 1) rfl 69 _ (0, 0) _ g4 Try.underlying69 rfl (by rw [sS]; exact Try.info5) ?_))
      refine HC.out.mono ?_
      rintro e w2 ⟨rfl, hb5⟩
      have hq := hb3.keep hb5
      have hst := storeRow (l := Cc.times a b) hq (by rw [hl5, Ws_size]; rfl)
      have hs5 : (Ws (Cc.times a b)).size = 5 := by rw [Ws_size, hl5]
      have hbel2 := hbel.trans (hb5.mono hbel.size)
      go_wp2
      refine bodyPost_ret (v := .agg (Ws (Cc.times a b))) ?_ rfl ⟨rfl, below_setRow hbel2 (by omega) _⟩
      exact results_cell_row rfl _ _ (w.heap.size + 1 + 1) 69 _ (0, 0) _ rfl (hq.row _) Try.underlying69 rfl (by rw [hs5]; exact Try.info5)

end Go.Proofs.Ytclpbaokadfhhaa
