/- Contracts of cipher.lowest and tellSum. -/
import Derived.Test.YtclpbaokadfhhaaCTimes
import Derived.Laws.Externs
namespace Go.Proofs.Ytclpbaokadfhhaa
open Go.RowKit

namespace Cc
def heldTo (a : List (BitVec 64)) : Nat → BitVec 64
  | 0 => 5
  | k + 1 => (a.getD k 0 + heldTo a k) >>> 26
def lowest (a : List (BitVec 64)) : List (BitVec 64) := (carTo a (5 * heldTo a 5) 5).1
theorem lowest_length (a : List (BitVec 64)) : (lowest a).length = a.length := carTo_length _ _ _
end Cc

theorem index5' (x0 x1 x2 x3 x4 : BitVec 64) (k : Nat) (hk : k < 5) (w : World) :
    (Instr.index 69 (.agg (Ws [x0, x1, x2, x3, x4])) (.int .i64 k)).run Try.prog w = .ok (.int .u64 (U ([x0, x1, x2, x3, x4].getD k 0))) w := by
  obtain rfl | rfl | rfl | rfl | rfl : k = 0 ∨ k = 1 ∨ k = 2 ∨ k = 3 ∨ k = 4 := by omega
  all_goals kernel_rfl
theorem index5 (l : List (BitVec 64)) (hl : l.length = 5) (k : Nat) (hk : k < 5) (w : World) :
    (Instr.index 69 (.agg (Ws l)) (.int .i64 k)).run Try.prog w = .ok (.int .u64 (U (l.getD k 0))) w := by
  obtain ⟨x0, x1, x2, x3, x4, rfl⟩ := list5 l hl
  exact index5' x0 x1 x2 x3 x4 k hk w

set_option maxRecDepth 100000 in
set_option maxHeartbeats 1000000 in
theorem lowest_any (a : List (BitVec 64)) (w : World) (ha : a.length = 5) :
    Calls Try.prog 47 #[.agg (Ws a)] w fun e w' => e = .returned (.agg (Ws (Cc.lowest a))) ∧ Below w.heap.size w w' := by
  have sa : (Ws a).size = 5 := by rw [Ws_size, ha]
  have hb1 : Blk ((w.alloc (.cells (Ws a) 69)).alloc (.cells (Ws [0, 0, 0, 0, 0]) 69)) w.heap.size (Ws a) 69 := heap_alloc2_old w _ _
  have hb2 : Blk ((w.alloc (.cells (Ws a) 69)).alloc (.cells (Ws [0, 0, 0, 0, 0]) 69)) (w.heap.size + 1) (Ws [0, 0, 0, 0, 0]) 69 := heap_alloc2_new w _ _
  have hbel : Below w.heap.size w ((w.alloc (.cells (Ws a) 69)).alloc (.cells (Ws [0, 0, 0, 0, 0]) 69)) := ((Below.refl _ _).alloc (Nat.le_refl _) _).alloc (by simp) _
  have g1 := hb1
  unfold Blk at g1
  rw [← Z5] at g1
  go_enter Try.func47, Try.ntmps47
  go_wp2_with (first
    | (refine wpList_load_row rfl 69 _ rfl w.heap.size rfl 69 _ (0, 0) _ g1 Try.underlying69 rfl (by rw [sa]; exact Try.info5) ?_))
  rw [Z5]
  clear g1
  generalize (w.alloc (.cells (Ws a) 69)).alloc (.cells (Ws [0, 0, 0, 0, 0]) 69) = w1 at hb1 hb2 hbel ⊢
  rw [show Value.int IntKind.u64 5 = .int .u64 (U 5) from rfl]
  go_loop [3, 9] (fun o i => ∃ k : Nat, k ≤ 5 ∧ i = .int .i64 k ∧ o = .int .u64 (U (Cc.heldTo a k))) (fun _ i => 5 - (intOf i).toNat)
  case atStart => exact ⟨0, by omega, rfl, rfl⟩
  case round =>
    obtain ⟨k, hk, rfl, rfl⟩ := hrel
    by_cases hlt : k < 5
    · have hix := index5 a ha k hlt
      have i1 : (k : Int) < 5 := by omega
      have HS : Hid (Cc.heldTo a (k + 1) = (a.getD k 0 + Cc.heldTo a k) >>> 26) := by
        have : Cc.heldTo a (k + 1) = (a.getD k 0 + Cc.heldTo a k) >>> 26 := rfl
        exact this
      generalize a.getD k 0 = x at hix HS
      generalize Cc.heldTo a k = o at HS ⊢
      have a1 := U_add x o
      have a3 := U_shrI (x + o) 67108864 26 rfl
      generalize x + o = y at a1 a3 HS
      generalize y >>> 26 = q at a3 HS
      go_wp2
      go_round
      case rel => exact ⟨k + 1, by omega, by go_num, by rw [show Cc.heldTo a (k + 1) = _ from HS.out]⟩
      case measure => simp [intOf]; omega
    · have hk5 : k = 5 := by omega
      subst hk5
      rw [show ((5 : Nat) : Int) = 5 from rfl]
      have HE : Hid (Cc.lowest a = (Cc.carTo a (5 * Cc.heldTo a 5) 5).1) := by
        have : Cc.lowest a = (Cc.carTo a (5 * Cc.heldTo a 5) 5).1 := rfl
        exact this
      generalize Cc.heldTo a 5 = o at HE ⊢
      have a0 := U_mul5 o
      generalize 5 * o = p at a0 HE
      go_wp2
      go_loopw [6, 19] (fun o i wr => ∃ k : Nat, k ≤ 5 ∧ i = .int .i64 k ∧ o = .int .u64 (U (Cc.carTo a p k).2) ∧ Blk wr w.heap.size (Ws (Cc.carTo a p k).1) 69 ∧ Blk wr (w.heap.size + 1) (Ws [0, 0, 0, 0, 0]) 69 ∧ Below w.heap.size w wr) (fun _ i _ => 5 - (intOf i).toNat)
      case atStart => exact ⟨0, by omega, rfl, rfl, hb1, hb2, hbel⟩
      case round =>
        clear hb1 hb2 hbel
        obtain ⟨k, hk, rfl, rfl, hb1, hb2, hbel⟩ := hrel
        by_cases hlt : k < 5
        · have HS : Hid (Cc.carTo a p (k + 1) = (((Cc.carTo a p k).1.set k ((Cc.carTo a p k).1.getD k 0 + (Cc.carTo a p k).2)).set k (((Cc.carTo a p k).1.getD k 0 + (Cc.carTo a p k).2) &&& 67108863), ((Cc.carTo a p k).1.getD k 0 + (Cc.carTo a p k).2) >>> 26)) := by
            have : Cc.carTo a p (k + 1) = (((Cc.carTo a p k).1.set k ((Cc.carTo a p k).1.getD k 0 + (Cc.carTo a p k).2)).set k (((Cc.carTo a p k).1.getD k 0 + (Cc.carTo a p k).2) &&& 67108863), ((Cc.carTo a p k).1.getD k 0 + (Cc.carTo a p k).2) >>> 26) := rfl
            exact this
          have hlL : (Cc.carTo a p k).1.length = 5 := by rw [Cc.carTo_length, ha]
          generalize (Cc.carTo a p k).1 = L at hb1 HS hlL
          generalize (Cc.carTo a p k).2 = o' at HS ⊢
          have c1 := hb1.cell k
          rw [Ws_at _ _ (by omega)] at c1
          have f1 := hb1.frozen k
          generalize L.getD k 0 = x at c1 HS
          have i1 : (k : Int) < 5 := by omega
          have a1 := U_add x o'
          have a2 := U_and26 (x + o')
          have a3 := U_shrI (x + o') 67108864 26 rfl
          generalize x + o' = y at a1 a2 a3 HS
          generalize y &&& 67108863 = z at a2 HS
          generalize y >>> 26 = q at a3 HS
          go_wp2
          go_roundw
          case rel =>
            rw [hb1.set, (hb1.row _).set, setRow_setRow, Ws_set, Ws_set]
            refine ⟨k + 1, by omega, by go_num, ?_, ?_, hb2.other (by omega) _, below_setRow hbel (by omega) _⟩
            · rw [show Cc.carTo a p (k + 1) = _ from HS.out]
            · rw [show Cc.carTo a p (k + 1) = _ from HS.out]; exact hb1.row _
          case measure => simp [intOf]; omega
        · have hk8 : k = 5 := by omega
          subst hk8
          have hlL : (Cc.carTo a p 5).1.length = 5 := by rw [Cc.carTo_length, ha]
          generalize (Cc.carTo a p 5).1 = L at hb1 HE hlL
          have g1 := hb1; have g2 := hb2
          unfold Blk at g1 g2
          have hl : (Ws L).size = 5 := by rw [Ws_size, hlL]
          have e0 : (Ws [0, 0, 0, 0, 0]).size = 5 := by rw [Ws_size]; rfl
          go_wp2_with (first
            | (refine wpList_load_row rfl 69 _ rfl w.heap.size rfl 69 _ (0, 0) _ g1 Try.underlying69 rfl (by rw [hl]; exact Try.info5) ?_)
            | (refine wpList_store_row rfl 69 _ _ rfl (w.heap.size + 1) _ rfl rfl 69 _ g2 (by rw [hl]; exact Try.info5) (by rw [hl, e0]) (Ws_one _) ?_))
          refine bodyPost_ret (v := .agg (Ws L)) ?_ rfl ⟨by rw [show Cc.lowest a = L from HE.out], below_setRow hbel (by omega) _⟩
          exact results_cell_row rfl _ _ (w.heap.size + 1) 69 _ (0, 0) _ rfl (hb2.row _) Try.underlying69 rfl (by rw [hl]; exact Try.info5)

end Go.Proofs.Ytclpbaokadfhhaa
