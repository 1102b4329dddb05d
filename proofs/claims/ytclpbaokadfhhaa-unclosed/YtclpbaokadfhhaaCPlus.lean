/- Contracts of cipher.plus and carry. -/
import Derived.Test.YtclpbaokadfhhaaCHalf
namespace Go.Proofs.Ytclpbaokadfhhaa
open Go.RowKit

namespace Cc
/-- the sums of the first k parts -/
def plusTo (a b : List (BitVec 64)) : Nat → List (BitVec 64)
  | 0 => a
  | k + 1 => (plusTo a b k).set k ((plusTo a b k).getD k 0 + b.getD k 0)
theorem plusTo_length (a b : List (BitVec 64)) (k : Nat) : (plusTo a b k).length = a.length := by
  induction k with
  | zero => rfl
  | succ k ih => simp [plusTo, ih]
def plus (a b : List (BitVec 64)) : List (BitVec 64) := plusTo a b 5
/-- the parts, of which the first k were carried, and what is over -/
def carTo (a : List (BitVec 64)) (o : BitVec 64) : Nat → List (BitVec 64) × BitVec 64
  | 0 => (a, o)
  | k + 1 => (((carTo a o k).1.set k ((carTo a o k).1.getD k 0 + (carTo a o k).2)).set k (((carTo a o k).1.getD k 0 + (carTo a o k).2) &&& 67108863), ((carTo a o k).1.getD k 0 + (carTo a o k).2) >>> 26)
theorem carTo_length (a : List (BitVec 64)) (o : BitVec 64) (k : Nat) : (carTo a o k).1.length = a.length := by
  induction k with
  | zero => rfl
  | succ k ih => simp [carTo, ih]
/-- behind the loop: what is over, five times, to the lowest part -/
def carEnd (l : List (BitVec 64)) (o : BitVec 64) : List (BitVec 64) :=
  ((l.set 0 (l.getD 0 0 + 5 * o)).set 1 (l.getD 1 0 + (l.getD 0 0 + 5 * o) >>> 26)).set 0 ((l.getD 0 0 + 5 * o) &&& 67108863)
def carry (a : List (BitVec 64)) : List (BitVec 64) := carEnd (carTo a 0 5).1 (carTo a 0 5).2
theorem carry_length (a : List (BitVec 64)) : (carry a).length = a.length := by simp [carry, carEnd, carTo_length]
end Cc

theorem U_mul5 (x : BitVec 64) : IntKind.u64.wrap (5 * U x) = U (5 * x) := by
  rw [IntKind.wrap_u64]; unfold U; rw [BitVec.toNat_mul]; simp
theorem list5 (l : List (BitVec 64)) (h : l.length = 5) : ∃ x0 x1 x2 x3 x4, l = [x0, x1, x2, x3, x4] := by
  match l, h with
  | [x0, x1, x2, x3, x4], _ => exact ⟨x0, x1, x2, x3, x4, rfl⟩
theorem cells5 {w : World} {b t : Nat} {x0 x1 x2 x3 x4 : BitVec 64} (h : Blk w b (Ws [x0, x1, x2, x3, x4]) t) :
    w.cell? ⟨b, 0, none⟩ = some (.int .u64 (U x0)) ∧ w.cell? ⟨b, 1, none⟩ = some (.int .u64 (U x1)) ∧ w.cell? ⟨b, 2, none⟩ = some (.int .u64 (U x2)) ∧ w.cell? ⟨b, 3, none⟩ = some (.int .u64 (U x3)) ∧ w.cell? ⟨b, 4, none⟩ = some (.int .u64 (U x4)) :=
  ⟨h.cell 0, h.cell 1, h.cell 2, h.cell 3, h.cell 4⟩
theorem Z5 : (#[.int .u64 0, .int .u64 0, .int .u64 0, .int .u64 0, .int .u64 0] : Array Value) = Ws [0, 0, 0, 0, 0] := rfl
theorem boxed2 (w : World) (o1 o2 : Obj) (B : Nat) (hB : B ≤ w.heap.size) {w0 : World} (h : Below B w0 w) : Below B w0 ((w.alloc o1).alloc o2) := (h.alloc hB _).alloc (by simp; omega) _

set_option maxRecDepth 100000 in
set_option maxHeartbeats 1000000 in
theorem plus_any (a b : List (BitVec 64)) (w : World) (ha : a.length = 5) (hb : b.length = 5) :
    Calls Try.prog 44 #[.agg (Ws a), .agg (Ws b)] w fun e w' => e = .returned (.agg (Ws (Cc.plus a b))) ∧ Below w.heap.size w w' := by
  have sa : (Ws a).size = 5 := by rw [Ws_size, ha]
  have sb : (Ws b).size = 5 := by rw [Ws_size, hb]
  have hb1 := Blk.alloc (Blk.alloc (Blk.new w (Ws a) 69) (.cells (Ws b) 69)) (.cells (Ws [0, 0, 0, 0, 0]) 69)
  have hb2 := Blk.alloc (Blk.new (w.alloc (.cells (Ws a) 69)) (Ws b) 69) (.cells (Ws [0, 0, 0, 0, 0]) 69)
  have hb3 := Blk.new ((w.alloc (.cells (Ws a) 69)).alloc (.cells (Ws b) 69)) (Ws [0, 0, 0, 0, 0]) 69
  have hbel : Below w.heap.size w (((w.alloc (.cells (Ws a) 69)).alloc (.cells (Ws b) 69)).alloc (.cells (Ws [0, 0, 0, 0, 0]) 69)) :=
    (((Below.refl _ _).alloc (Nat.le_refl _) _).alloc (by simp) _).alloc (by simp; omega) _
  rw [show (w.alloc (.cells (Ws a) 69)).heap.size = w.heap.size + 1 by simp] at hb2
  rw [show ((w.alloc (.cells (Ws a) 69)).alloc (.cells (Ws b) 69)).heap.size = w.heap.size + 1 + 1 by simp] at hb3
  go_enter Try.func44, Try.ntmps44
  go_wp2_with fail
  rw [Z5]
  generalize ((w.alloc (.cells (Ws a) 69)).alloc (.cells (Ws b) 69)).alloc (.cells (Ws [0, 0, 0, 0, 0]) 69) = w1 at hb1 hb2 hb3 hbel ⊢
  go_loopw [6] (fun i wr => ∃ k : Nat, k ≤ 5 ∧ i = .int .i64 k ∧ Blk wr w.heap.size (Ws (Cc.plusTo a b k)) 69 ∧ Blk wr (w.heap.size + 1) (Ws b) 69 ∧ Blk wr (w.heap.size + 1 + 1) (Ws [0, 0, 0, 0, 0]) 69 ∧ Below w.heap.size w wr) (fun i _ => 5 - (intOf i).toNat)
  case atStart => exact ⟨0, by omega, rfl, hb1, hb2, hb3, hbel⟩
  case round =>
    clear hb1 hb2 hb3 hbel w1
    obtain ⟨k, hk, rfl, hb1, hb2, hb3, hbel⟩ := hrel
    by_cases hlt : k < 5
    · have c1 := hb1.cell k
      rw [Ws_at _ _ (by rw [Cc.plusTo_length]; omega)] at c1
      have c2 := hb2.cell k
      rw [Ws_at _ _ (by omega)] at c2
      have f1 := hb1.frozen k
      have HS : Hid (Cc.plusTo a b (k + 1) = (Cc.plusTo a b k).set k ((Cc.plusTo a b k).getD k 0 + b.getD k 0)) := by
        have : Cc.plusTo a b (k + 1) = (Cc.plusTo a b k).set k ((Cc.plusTo a b k).getD k 0 + b.getD k 0) := rfl
        exact this
      generalize (Cc.plusTo a b k).getD k 0 = x at c1 HS
      generalize b.getD k 0 = y at c2 HS
      have i1 : (k : Int) < 5 := by omega
      go_wp2_with fail
      go_region
      go_wp2
      go_roundw
      case rel =>
        rw [U_add, hb1.set, Ws_set]
        exact ⟨k + 1, by omega, by go_num, by rw [show Cc.plusTo a b (k + 1) = _ from HS.out]; exact hb1.row _, hb2.other (by omega) _, hb3.other (by omega) _, (below_setRow hbel (by omega) _).drew⟩
      case measure => simp [intOf]; omega
    · have hk8 : k = 5 := by omega
      subst hk8
      have g0 := hb1; have g1 := hb3
      unfold Blk at g0 g1
      rw [show Cc.plusTo a b 5 = Cc.plus a b from rfl] at g0
      have hl : (Ws (Cc.plus a b)).size = 5 := by rw [Ws_size]; unfold Cc.plus; rw [Cc.plusTo_length, ha]
      have e0 : (Ws [0, 0, 0, 0, 0]).size = 5 := by rw [Ws_size]; rfl
      go_wp2_with (first
        | (refine wpList_load_row rfl 69 _ rfl w.heap.size rfl 69 _ (0, 0) _ g0 Try.underlying69 rfl (by rw [hl]; exact Try.info5) ?_)
        | (refine wpList_store_row rfl 69 _ _ rfl (w.heap.size + 1 + 1) _ rfl rfl 69 _ g1 (by rw [hl]; exact Try.info5) (by rw [hl, e0]) (Ws_one _) ?_))
      refine bodyPost_ret (v := .agg (Ws (Cc.plus a b))) ?_ rfl ⟨rfl, below_setRow hbel (by omega) _⟩
      exact results_cell_row rfl _ _ (w.heap.size + 1 + 1) 69 _ (0, 0) _ rfl (hb3.row _) Try.underlying69 rfl (by rw [hl]; exact Try.info5)

set_option maxRecDepth 100000 in
set_option maxHeartbeats 1000000 in
theorem carry_any (a : List (BitVec 64)) (w : World) (ha : a.length = 5) :
    Calls Try.prog 61 #[.agg (Ws a)] w fun e w' => e = .returned (.agg (Ws (Cc.carry a))) ∧ Below w.heap.size w w' := by
  have sa : (Ws a).size = 5 := by rw [Ws_size, ha]
  have hb1 : Blk ((w.alloc (.cells (Ws a) 69)).alloc (.cells (Ws [0, 0, 0, 0, 0]) 69)) w.heap.size (Ws a) 69 := heap_alloc2_old w _ _
  have hb2 : Blk ((w.alloc (.cells (Ws a) 69)).alloc (.cells (Ws [0, 0, 0, 0, 0]) 69)) (w.heap.size + 1) (Ws [0, 0, 0, 0, 0]) 69 := heap_alloc2_new w _ _
  have hbel : Below w.heap.size w ((w.alloc (.cells (Ws a) 69)).alloc (.cells (Ws [0, 0, 0, 0, 0]) 69)) := ((Below.refl _ _).alloc (Nat.le_refl _) _).alloc (by simp) _
  go_enter Try.func61, Try.ntmps61
  go_wp2_with fail
  rw [Z5]
  generalize (w.alloc (.cells (Ws a) 69)).alloc (.cells (Ws [0, 0, 0, 0, 0]) 69) = w1 at hb1 hb2 hbel ⊢
  rw [show Value.int IntKind.u64 0 = .int .u64 (U 0) from rfl]
  go_loopw [3, 5] (fun o i wr => ∃ k : Nat, k ≤ 5 ∧ i = .int .i64 k ∧ o = .int .u64 (U (Cc.carTo a 0 k).2) ∧ Blk wr w.heap.size (Ws (Cc.carTo a 0 k).1) 69 ∧ Blk wr (w.heap.size + 1) (Ws [0, 0, 0, 0, 0]) 69 ∧ Below w.heap.size w wr) (fun _ i _ => 5 - (intOf i).toNat)
  case atStart => exact ⟨0, by omega, rfl, rfl, hb1, hb2, hbel⟩
  case round =>
    clear hb1 hb2 hbel w1
    obtain ⟨k, hk, rfl, rfl, hb1, hb2, hbel⟩ := hrel
    by_cases hlt : k < 5
    · have HS : Hid (Cc.carTo a 0 (k + 1) = (((Cc.carTo a 0 k).1.set k ((Cc.carTo a 0 k).1.getD k 0 + (Cc.carTo a 0 k).2)).set k (((Cc.carTo a 0 k).1.getD k 0 + (Cc.carTo a 0 k).2) &&& 67108863), ((Cc.carTo a 0 k).1.getD k 0 + (Cc.carTo a 0 k).2) >>> 26)) := by
        have : Cc.carTo a 0 (k + 1) = (((Cc.carTo a 0 k).1.set k ((Cc.carTo a 0 k).1.getD k 0 + (Cc.carTo a 0 k).2)).set k (((Cc.carTo a 0 k).1.getD k 0 + (Cc.carTo a 0 k).2) &&& 67108863), ((Cc.carTo a 0 k).1.getD k 0 + (Cc.carTo a 0 k).2) >>> 26) := rfl
        exact this
      have hlL : (Cc.carTo a 0 k).1.length = 5 := by rw [Cc.carTo_length, ha]
      generalize (Cc.carTo a 0 k).1 = L at hb1 HS hlL
      generalize (Cc.carTo a 0 k).2 = o at HS ⊢
      have c1 := hb1.cell k
      rw [Ws_at _ _ (by omega)] at c1
      have f1 := hb1.frozen k
      generalize L.getD k 0 = x at c1 HS
      have i1 : (k : Int) < 5 := by omega
      have a1 := U_add x o
      have a2 := U_and26 (x + o)
      have a3 := U_shrI (x + o) 67108864 26 rfl
      generalize x + o = y at a1 a2 a3 HS
      generalize y &&& 67108863 = z at a2 HS
      generalize y >>> 26 = q at a3 HS
      go_wp2
      go_roundw
      case rel =>
        rw [hb1.set, (hb1.row _).set, setRow_setRow, Ws_set, Ws_set]
        refine ⟨k + 1, by omega, by go_num, ?_, ?_, hb2.other (by omega) _, below_setRow hbel (by omega) _⟩
        · rw [show Cc.carTo a 0 (k + 1) = _ from HS.out]
        · rw [show Cc.carTo a 0 (k + 1) = _ from HS.out]; exact hb1.row _
      case measure => simp [intOf]; omega
    · have hk8 : k = 5 := by omega
      subst hk8
      rw [show ((5 : Nat) : Int) = 5 from rfl]
      have HE : Hid (Cc.carry a = Cc.carEnd (Cc.carTo a 0 5).1 (Cc.carTo a 0 5).2) := by
        have : Cc.carry a = Cc.carEnd (Cc.carTo a 0 5).1 (Cc.carTo a 0 5).2 := rfl
        exact this
      have hlL : (Cc.carTo a 0 5).1.length = 5 := by rw [Cc.carTo_length, ha]
      generalize (Cc.carTo a 0 5).1 = L at hb1 HE hlL
      generalize (Cc.carTo a 0 5).2 = o at HE ⊢
      obtain ⟨x, y, l2, l3, l4, rfl⟩ := list5 L hlL
      have HE2 : Hid (Cc.carEnd [x, y, l2, l3, l4] o = [(x + 5 * o) &&& 67108863, y + (x + 5 * o) >>> 26, l2, l3, l4]) := by
        have : Cc.carEnd [x, y, l2, l3, l4] o = [(x + 5 * o) &&& 67108863, y + (x + 5 * o) >>> 26, l2, l3, l4] := rfl
        exact this
      obtain ⟨c0, c1, c2, c3, c4⟩ := cells5 hb1
      obtain ⟨d0, d1, d2, d3, d4⟩ := cells5 hb2
      have f0 := hb1.frozen 0
      have f1 := hb1.frozen 1
      have k0 := hb2.frozen 0
      have k1 := hb2.frozen 1
      have k2 := hb2.frozen 2
      have k3 := hb2.frozen 3
      have k4 := hb2.frozen 4
      have a0 : IntKind.u64.wrap (5 * U o) = U (5 * o) := U_mul5 o
      generalize 5 * o = p at a0 HE2
      have a1 := U_add x p
      have a2 := U_and26 (x + p)
      have a3 := U_shrI (x + p) 67108864 26 rfl
      generalize x + p = u at a1 a2 a3 HE2
      generalize u &&& 67108863 = z at a2 HE2
      generalize u >>> 26 = q at a3 HE2
      have a4 := U_add y q
      generalize y + q = v at a4 HE2
      have hb3 : Blk (((wr.setCell ⟨w.heap.size, 0, none⟩ (.int .u64 (U u))).setCell ⟨w.heap.size, 1, none⟩ (.int .u64 (U v))).setCell ⟨w.heap.size, 0, none⟩ (.int .u64 (U z))) (w.heap.size + 1) (Ws [0, 0, 0, 0, 0]) 69 := by
        rw [hb1.set, (hb1.row _).set, setRow_setRow, (hb1.row _).set, setRow_setRow]; exact hb2.other (by omega) _
      have hbel3 : Below w.heap.size w (((wr.setCell ⟨w.heap.size, 0, none⟩ (.int .u64 (U u))).setCell ⟨w.heap.size, 1, none⟩ (.int .u64 (U v))).setCell ⟨w.heap.size, 0, none⟩ (.int .u64 (U z))) := ((hbel.setCell (Nat.le_refl _) _).setCell (Nat.le_refl _) _).setCell (Nat.le_refl _) _
      go_wp2
      rw [set5 hb3]
      refine bodyPost_ret (v := .agg (Ws [z, v, l2, l3, l4])) ?_ rfl ⟨by rw [show Cc.carry a = _ from HE.out, show Cc.carEnd [x, y, l2, l3, l4] o = _ from HE2.out], below_setRow hbel3 (by omega) _⟩
      exact results_cell_row rfl _ _ (w.heap.size + 1) 69 _ (0, 0) _ rfl (hb3.row _) Try.underlying69 rfl Try.info5

end Go.Proofs.Ytclpbaokadfhhaa
