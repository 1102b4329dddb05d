/- Several texts as one: CHalf, CPlus, CTimes, CLow, CTell. -/
import Derived.Test.YtclpbaokadfhhaaGreatDoorZn
import Derived.Deep.QuietTactic
import Derived.BigQuiet
import Derived.Laws.Externs
namespace Go.Proofs.YtclpbaokadfhhaaGreatDoor
open Go.RowKit

namespace Cc
/-- k bytes, the lowest first, as a word of 64 bits -/
def wdL (f : Nat → UInt8) : Nat → BitVec 64
  | 0 => 0
  | k + 1 => wdL f k ||| BitVec.ofNat 64 (f k).toNat <<< (8 * k)
def half (f : Nat → UInt8) (k : Nat) : List (BitVec 64) := [wdL f (min k 8), wdL (fun i => f (8 + i)) (k - 8)]
theorem half_set (f : Nat → UInt8) (k : Nat) (hk : k < 16) : (half f k).set (k / 8) ((half f k).getD (k / 8) 0 ||| BitVec.ofNat 64 (f k).toNat <<< (k % 8 * 8)) = half f (k + 1) := by
  by_cases h : k < 8
  · have e1 : k / 8 = 0 := by omega
    have e2 : k % 8 = k := by omega
    have e3 : min k 8 = k := by omega
    have e4 : min (k + 1) 8 = k + 1 := by omega
    have e5 : k - 8 = 0 := by omega
    have e6 : k + 1 - 8 = 0 := by omega
    rw [e1, e2]; unfold half; rw [e3, e4, e5, e6, Nat.mul_comm k 8]; rfl
  · have e1 : k / 8 = 1 := by omega
    have e2 : k % 8 = k - 8 := by omega
    have e3 : min k 8 = 8 := by omega
    have e4 : min (k + 1) 8 = 8 := by omega
    have e6 : k + 1 - 8 = (k - 8) + 1 := by omega
    have e7 : f k = f (8 + (k - 8)) := by congr 1; omega
    rw [e1, e2]; unfold half; rw [e3, e4, e6, Nat.mul_comm (k - 8) 8, e7]; rfl
def words2 (f : Nat → UInt8) : List (BitVec 64) := [wdL f 8, wdL (fun i => f (8 + i)) 8]
def leaveOut (lo hi : BitVec 64) : List (BitVec 64) := [lo &&& 1152921487695413247, hi &&& 1152921487695413244]
def numberOf (lo hi above : BitVec 64) : List (BitVec 64) :=
  [lo &&& 67108863, lo >>> 26 &&& 67108863, (lo >>> 52 ||| hi <<< 12) &&& 67108863, hi >>> 14 &&& 67108863, hi >>> 40 ||| above <<< 24]
end Cc

theorem or_step (x : BitVec 64) (c : UInt8) (n : Nat) : bits BinOp.or IntKind.u64 (U x) (IntKind.u64.wrap (IntKind.u64.wrap (c.toNat : Int) * 2 ^ n)) = U (x ||| BitVec.ofNat 64 c.toNat <<< n) := by
  have h : c.toNat < 256 := c.toNat_lt
  rw [U_of c.toNat (by omega), U_wrap, U_shl, U_or]
theorem Tryz.info2 : (Tryz.prog.info? 210).map (·.size) = some 2 := by kernel_rfl

set_option maxRecDepth 100000 in
set_option maxHeartbeats 1000000 in
theorem halves_any (b off len cap : Nat) (f : Nat → UInt8) (w : World) (hl : 16 ≤ len) (hm : len ≤ 9223372036854775807)
    (hc : ∀ i, i < 16 → w.cell? ⟨b, off + i, none⟩ = some (.int .u8 (f i).toNat)) :
    Calls Tryz.prog 219 #[.slice (some ⟨b, off, none⟩) len cap] w fun e w' => e = .returned (.agg (Ws (Cc.words2 f))) ∧ Below w.heap.size w w' := by
  have hblt : b < w.heap.size := block_lt_of_cell (hc 0 (by omega))
  have HC : Hid (∀ i, i < 16 → w.cell? ⟨b, off + i, none⟩ = some (.int .u8 (f i).toNat)) := hc
  clear hc
  go_enter Tryz.func219, Tryz.ntmps219
  go_wp2
  rw [show (#[Value.int IntKind.u64 0, Value.int IntKind.u64 0] : Array Value) = Ws [0, 0] from rfl]
  go_loopw [5] (fun i wr => ∃ k : Nat, k ≤ 16 ∧ i = .int .i64 k ∧ Blk wr (w.heap.size + 1) (Ws (Cc.half f k)) 210 ∧ Blk wr w.heap.size (Ws [0, 0]) 210 ∧ Below w.heap.size w wr) (fun i _ => 16 - (intOf i).toNat)
  case atStart => exact ⟨0, Nat.zero_le _, rfl, heap_alloc2_new w _ _, heap_alloc2_old w _ _, ((Below.refl _ _).alloc (Nat.le_refl _) _).alloc (by simp) _⟩
  case round =>
    obtain ⟨k, hk, rfl, hb1, hb0, hbel⟩ := hrel
    by_cases hlt : k < 16
    · have h1 := HC.out k hlt
      rw [← hbel.cell (p := ⟨b, off + k, none⟩) hblt] at h1
      have h2 := hb1.cell (k / 8)
      rw [Ws_at _ _ (by show k / 8 < 2; omega)] at h2
      have h3 := hb1.frozen (k / 8)
      have HS : Hid _ := Cc.half_set f k hlt
      generalize (Cc.half f k).getD (k / 8) 0 = x at h2 HS
      have i1 : (k : Int) < 16 := by omega
      have i2 : (k : Int) / 8 < 2 := by omega
      have i3 : (0 : Int) ≤ (k : Int) / 8 := by omega
      have i4 : ((k : Int) / 8).toNat = k / 8 := by omega
      have i5 : (k : Int) < len := by omega
      go_wp2_with fail
      go_region
      go_wp2
      go_roundw
      case rel =>
        rw [or_step, hb1.set, Ws_set, show _ = _ from HS.out]
        exact ⟨k + 1, by omega, by go_num, hb1.row _, hb0.other (by omega) _, (below_setRow hbel (by omega) _).drew⟩
      case measure => simp [intOf]; omega
    · have hk8 : k = 16 := by omega
      subst hk8
      have g0 := hb0; have g1 := hb1
      unfold Blk at g0 g1
      rw [show Cc.half f 16 = Cc.words2 f from rfl] at g1
      have e1 : (Ws (Cc.words2 f)).size = 2 := by rw [Ws_size]; rfl
      have e0 : (Ws [0, 0]).size = 2 := by rw [Ws_size]; rfl
      go_wp2_with (first
        | (refine wpList_load_row rfl 210 _ rfl (w.heap.size + 1) rfl 210 _ (0, 0) _ g1 Tryz.underlying210 rfl (by rw [e1]; exact Tryz.info2) ?_)
        | (refine wpList_store_row rfl 210 _ _ rfl w.heap.size _ rfl rfl 210 _ g0 (by rw [e1]; exact Tryz.info2) (by rw [e1, e0]) (Ws_one _) ?_))
      refine bodyPost_ret (v := .agg (Ws (Cc.words2 f))) ?_ rfl ⟨rfl, below_setRow hbel (Nat.le_refl _) _⟩
      exact results_cell_row rfl _ _ w.heap.size 210 _ (0, 0) _ rfl (hb0.row _) Tryz.underlying210 rfl (by rw [e1]; exact Tryz.info2)

set_option maxRecDepth 100000 in
set_option maxHeartbeats 1000000 in
theorem leaveOut_any (lo hi : BitVec 64) (w : World) :
    Calls Tryz.prog 218 #[.agg (Ws [lo, hi])] w fun e w' => e = .returned (.agg (Ws (Cc.leaveOut lo hi))) ∧ Below w.heap.size w w' := by
  have e1 : bits BinOp.and IntKind.u64 (U lo) 1152921487695413247 = U (lo &&& 1152921487695413247) := by
    rw [show (1152921487695413247 : Int) = U 1152921487695413247 by decide, U_and]
  have e2 : bits BinOp.and IntKind.u64 (U hi) 1152921487695413244 = U (hi &&& 1152921487695413244) := by
    rw [show (1152921487695413244 : Int) = U 1152921487695413244 by decide, U_and]
  rw [show (Ws [lo, hi]) = #[.int .u64 (U lo), .int .u64 (U hi)] from rfl]
  go_enter Tryz.func218, Tryz.ntmps218
  go_wp2
  refine bodyPost_ret (v := .agg (Ws (Cc.leaveOut lo hi))) ?_ rfl ⟨rfl, ((Below.refl _ _).alloc (Nat.le_refl _) _).alloc (by simp) _⟩
  exact results_cell_row rfl _ _ (w.heap.size + 1) 210 _ (0, 0) _ rfl (heap_alloc2_new w _ _) Tryz.underlying210 rfl Tryz.info2

theorem Tryz.info5 : (Tryz.prog.info? 208).map (·.size) = some 5 := by kernel_rfl
theorem U_and26 (x : BitVec 64) : bits BinOp.and IntKind.u64 (U x) 67108863 = U (x &&& 67108863) := by
  rw [show (67108863 : Int) = U 67108863 by decide, U_and]
theorem U_shrI (x : BitVec 64) (k : Int) (n : Nat) (h : (2 : Int) ^ n = k) : U x / k = U (x >>> n) := by rw [← h, U_shr]
theorem U_shlI (x : BitVec 64) (k : Int) (n : Nat) (h : (2 : Int) ^ n = k) : IntKind.u64.wrap (U x * k) = U (x <<< n) := by rw [← h, U_shl]

/-- five cells of a row set, one after the other -/
theorem set5 {w : World} {b t : Nat} {y0 y1 y2 y3 y4 : BitVec 64} (hb : Blk w b (Ws [y0, y1, y2, y3, y4]) t) (x0 x1 x2 x3 x4 : BitVec 64) :
    ((((w.setCell ⟨b, 0, none⟩ (.int .u64 (U x0))).setCell ⟨b, 1, none⟩ (.int .u64 (U x1))).setCell ⟨b, 2, none⟩ (.int .u64 (U x2))).setCell ⟨b, 3, none⟩ (.int .u64 (U x3))).setCell ⟨b, 4, none⟩ (.int .u64 (U x4)) = w.setRow b (Ws [x0, x1, x2, x3, x4]) := by
  rw [hb.set, (hb.row _).set, setRow_setRow, (hb.row _).set, setRow_setRow, (hb.row _).set, setRow_setRow, (hb.row _).set, setRow_setRow]
  rfl

set_option maxRecDepth 100000 in
set_option maxHeartbeats 1000000 in
theorem numberOf_any (lo hi ab : BitVec 64) (w : World) :
    Calls Tryz.prog 217 #[.agg (Ws [lo, hi]), .int .u64 (U ab)] w fun e w' => e = .returned (.agg (Ws (Cc.numberOf lo hi ab))) ∧ Below w.heap.size w w' := by
  have a1 := U_and26 lo
  have a2 : bits BinOp.and IntKind.u64 (U lo / 67108864) 67108863 = U (lo >>> 26 &&& 67108863) := by rw [U_shrI lo 67108864 26 rfl, U_and26]
  have a3 : bits BinOp.and IntKind.u64 (bits BinOp.or IntKind.u64 (U lo / 4503599627370496) (IntKind.u64.wrap (U hi * 4096))) 67108863 = U ((lo >>> 52 ||| hi <<< 12) &&& 67108863) := by
    rw [U_shrI lo 4503599627370496 52 rfl, U_shlI hi 4096 12 rfl, U_or, U_and26]
  have a4 : bits BinOp.and IntKind.u64 (U hi / 16384) 67108863 = U (hi >>> 14 &&& 67108863) := by rw [U_shrI hi 16384 14 rfl, U_and26]
  have a5 : bits BinOp.or IntKind.u64 (U hi / 1099511627776) (IntKind.u64.wrap (U ab * 16777216)) = U (hi >>> 40 ||| ab <<< 24) := by
    rw [U_shrI hi 1099511627776 40 rfl, U_shlI ab 16777216 24 rfl, U_or]
  have HR : Hid (Cc.numberOf lo hi ab = [lo &&& 67108863, lo >>> 26 &&& 67108863, (lo >>> 52 ||| hi <<< 12) &&& 67108863, hi >>> 14 &&& 67108863, hi >>> 40 ||| ab <<< 24]) := by
    have : Cc.numberOf lo hi ab = [lo &&& 67108863, lo >>> 26 &&& 67108863, (lo >>> 52 ||| hi <<< 12) &&& 67108863, hi >>> 14 &&& 67108863, hi >>> 40 ||| ab <<< 24] := rfl
    exact this
  generalize Cc.numberOf lo hi ab = R at HR ⊢
  generalize lo &&& 67108863 = x0 at a1 HR
  generalize lo >>> 26 &&& 67108863 = x1 at a2 HR
  generalize (lo >>> 52 ||| hi <<< 12) &&& 67108863 = x2 at a3 HR
  generalize hi >>> 14 &&& 67108863 = x3 at a4 HR
  generalize hi >>> 40 ||| ab <<< 24 = x4 at a5 HR
  rw [show (Ws [lo, hi]) = #[.int .u64 (U lo), .int .u64 (U hi)] from rfl]
  go_enter Tryz.func217, Tryz.ntmps217
  go_wp2_with fail
  go_quiet (fail)
  have hb : ∀ n, Blk (((w.alloc (.cells #[.int .u64 (U lo), .int .u64 (U hi)] 210)).alloc (.cells #[.int .u64 0, .int .u64 0, .int .u64 0, .int .u64 0, .int .u64 0] 208)).drewN n) (w.heap.size + 1) (Ws [0, 0, 0, 0, 0]) 208 := fun n => heap_alloc2_new w _ _
  have hbel : ∀ n, Below w.heap.size w (((w.alloc (.cells #[.int .u64 (U lo), .int .u64 (U hi)] 210)).alloc (.cells #[.int .u64 0, .int .u64 0, .int .u64 0, .int .u64 0, .int .u64 0] 208)).drewN n) := fun n => below_drewN (((Below.refl _ _).alloc (Nat.le_refl _) _).alloc (by simp) _) _
  go_wp2
  rw [set5 (hb _)]
  refine bodyPost_ret (v := .agg (Ws [x0, x1, x2, x3, x4])) ?_ rfl ⟨by rw [show R = _ from HR.out], below_setRow (hbel _) (by omega) _⟩
  exact results_cell_row rfl _ _ (w.heap.size + 1) 208 _ (0, 0) _ rfl ((hb _).row _) Tryz.underlying208 rfl Tryz.info5

end Go.Proofs.YtclpbaokadfhhaaGreatDoor

namespace Go.Proofs.YtclpbaokadfhhaaGreatDoor
open Go.RowKit

namespace Cc
/-- the sums of the first k parts -/
def plusTo (a b : List (BitVec 64)) : Nat → List (BitVec 64)
  | 0 => a
  | k + 1 => (plusTo a b k).set k ((plusTo a b k).getD k 0 + b.getD k 0)
theorem plusTo_length (a b : List (BitVec 64)) (k : Nat) : (plusTo a b k).length = a.length := by
  induction k with
  | zero => rfl
  | succ k ih => simp [plusTo, ih]
def plus (a b : List (BitVec 64)) : List (BitVec 64) := plusTo a b 5
/-- the parts, of which the first k were carried, and what is over -/
def carTo (a : List (BitVec 64)) (o : BitVec 64) : Nat → List (BitVec 64) × BitVec 64
  | 0 => (a, o)
  | k + 1 => (((carTo a o k).1.set k ((carTo a o k).1.getD k 0 + (carTo a o k).2)).set k (((carTo a o k).1.getD k 0 + (carTo a o k).2) &&& 67108863), ((carTo a o k).1.getD k 0 + (carTo a o k).2) >>> 26)
theorem carTo_length (a : List (BitVec 64)) (o : BitVec 64) (k : Nat) : (carTo a o k).1.length = a.length := by
  induction k with
  | zero => rfl
  | succ k ih => simp [carTo, ih]
/-- behind the loop: what is over, five times, to the lowest part -/
def carEnd (l : List (BitVec 64)) (o : BitVec 64) : List (BitVec 64) :=
  ((l.set 0 (l.getD 0 0 + 5 * o)).set 1 (l.getD 1 0 + (l.getD 0 0 + 5 * o) >>> 26)).set 0 ((l.getD 0 0 + 5 * o) &&& 67108863)
def carry (a : List (BitVec 64)) : List (BitVec 64) := carEnd (carTo a 0 5).1 (carTo a 0 5).2
theorem carry_length (a : List (BitVec 64)) : (carry a).length = a.length := by simp [carry, carEnd, carTo_length]
end Cc

theorem U_mul5 (x : BitVec 64) : IntKind.u64.wrap (5 * U x) = U (5 * x) := by
  rw [IntKind.wrap_u64]; unfold U; rw [BitVec.toNat_mul]; simp
theorem list5 (l : List (BitVec 64)) (h : l.length = 5) : ∃ x0 x1 x2 x3 x4, l = [x0, x1, x2, x3, x4] := by
  match l, h with
  | [x0, x1, x2, x3, x4], _ => exact ⟨x0, x1, x2, x3, x4, rfl⟩
theorem cells5 {w : World} {b t : Nat} {x0 x1 x2 x3 x4 : BitVec 64} (h : Blk w b (Ws [x0, x1, x2, x3, x4]) t) :
    w.cell? ⟨b, 0, none⟩ = some (.int .u64 (U x0)) ∧ w.cell? ⟨b, 1, none⟩ = some (.int .u64 (U x1)) ∧ w.cell? ⟨b, 2, none⟩ = some (.int .u64 (U x2)) ∧ w.cell? ⟨b, 3, none⟩ = some (.int .u64 (U x3)) ∧ w.cell? ⟨b, 4, none⟩ = some (.int .u64 (U x4)) :=
  ⟨h.cell 0, h.cell 1, h.cell 2, h.cell 3, h.cell 4⟩
theorem Z5 : (#[.int .u64 0, .int .u64 0, .int .u64 0, .int .u64 0, .int .u64 0] : Array Value) = Ws [0, 0, 0, 0, 0] := rfl
set_option maxRecDepth 100000 in
set_option maxHeartbeats 1000000 in
theorem cplus_any (a b : List (BitVec 64)) (w : World) (ha : a.length = 5) (hb : b.length = 5) :
    Calls Tryz.prog 221 #[.agg (Ws a), .agg (Ws b)] w fun e w' => e = .returned (.agg (Ws (Cc.plus a b))) ∧ Below w.heap.size w w' := by
  have sa : (Ws a).size = 5 := by rw [Ws_size, ha]
  have sb : (Ws b).size = 5 := by rw [Ws_size, hb]
  have hb1 := Blk.alloc (Blk.alloc (Blk.new w (Ws a) 208) (.cells (Ws b) 208)) (.cells (Ws [0, 0, 0, 0, 0]) 208)
  have hb2 := Blk.alloc (Blk.new (w.alloc (.cells (Ws a) 208)) (Ws b) 208) (.cells (Ws [0, 0, 0, 0, 0]) 208)
  have hb3 := Blk.new ((w.alloc (.cells (Ws a) 208)).alloc (.cells (Ws b) 208)) (Ws [0, 0, 0, 0, 0]) 208
  have hbel : Below w.heap.size w (((w.alloc (.cells (Ws a) 208)).alloc (.cells (Ws b) 208)).alloc (.cells (Ws [0, 0, 0, 0, 0]) 208)) :=
    (((Below.refl _ _).alloc (Nat.le_refl _) _).alloc (by simp) _).alloc (by simp; omega) _
  rw [show (w.alloc (.cells (Ws a) 208)).heap.size = w.heap.size + 1 by simp] at hb2
  rw [show ((w.alloc (.cells (Ws a) 208)).alloc (.cells (Ws b) 208)).heap.size = w.heap.size + 1 + 1 by simp] at hb3
  go_enter Tryz.func221, Tryz.ntmps221
  go_wp2_with fail
  rw [Z5]
  generalize ((w.alloc (.cells (Ws a) 208)).alloc (.cells (Ws b) 208)).alloc (.cells (Ws [0, 0, 0, 0, 0]) 208) = w1 at hb1 hb2 hb3 hbel ⊢
  go_loopw [6] (fun i wr => ∃ k : Nat, k ≤ 5 ∧ i = .int .i64 k ∧ Blk wr w.heap.size (Ws (Cc.plusTo a b k)) 208 ∧ Blk wr (w.heap.size + 1) (Ws b) 208 ∧ Blk wr (w.heap.size + 1 + 1) (Ws [0, 0, 0, 0, 0]) 208 ∧ Below w.heap.size w wr) (fun i _ => 5 - (intOf i).toNat)
  case atStart => exact ⟨0, by omega, rfl, hb1, hb2, hb3, hbel⟩
  case round =>
    clear hb1 hb2 hb3 hbel w1
    obtain ⟨k, hk, rfl, hb1, hb2, hb3, hbel⟩ := hrel
    by_cases hlt : k < 5
    · have c1 := hb1.cell k
      rw [Ws_at _ _ (by rw [Cc.plusTo_length]; omega)] at c1
      have c2 := hb2.cell k
      rw [Ws_at _ _ (by omega)] at c2
      have f1 := hb1.frozen k
      have HS : Hid (Cc.plusTo a b (k + 1) = (Cc.plusTo a b k).set k ((Cc.plusTo a b k).getD k 0 + b.getD k 0)) := by
        have : Cc.plusTo a b (k + 1) = (Cc.plusTo a b k).set k ((Cc.plusTo a b k).getD k 0 + b.getD k 0) := rfl
        exact this
      generalize (Cc.plusTo a b k).getD k 0 = x at c1 HS
      generalize b.getD k 0 = y at c2 HS
      have i1 : (k : Int) < 5 := by omega
      go_wp2_with fail
      go_region
      go_wp2
      go_roundw
      case rel =>
        rw [U_add, hb1.set, Ws_set]
        exact ⟨k + 1, by omega, by go_num, by rw [show Cc.plusTo a b (k + 1) = _ from HS.out]; exact hb1.row _, hb2.other (by omega) _, hb3.other (by omega) _, (below_setRow hbel (by omega) _).drew⟩
      case measure => simp [intOf]; omega
    · have hk8 : k = 5 := by omega
      subst hk8
      have g0 := hb1; have g1 := hb3
      unfold Blk at g0 g1
      rw [show Cc.plusTo a b 5 = Cc.plus a b from rfl] at g0
      have hl : (Ws (Cc.plus a b)).size = 5 := by rw [Ws_size]; unfold Cc.plus; rw [Cc.plusTo_length, ha]
      have e0 : (Ws [0, 0, 0, 0, 0]).size = 5 := by rw [Ws_size]; rfl
      go_wp2_with (first
        | (refine wpList_load_row rfl 208 _ rfl w.heap.size rfl 208 _ (0, 0) _ g0 Tryz.underlying208 rfl (by rw [hl]; exact Tryz.info5) ?_)
        | (refine wpList_store_row rfl 208 _ _ rfl (w.heap.size + 1 + 1) _ rfl rfl 208 _ g1 (by rw [hl]; exact Tryz.info5) (by rw [hl, e0]) (Ws_one _) ?_))
      refine bodyPost_ret (v := .agg (Ws (Cc.plus a b))) ?_ rfl ⟨rfl, below_setRow hbel (by omega) _⟩
      exact results_cell_row rfl _ _ (w.heap.size + 1 + 1) 208 _ (0, 0) _ rfl (hb3.row _) Tryz.underlying208 rfl (by rw [hl]; exact Tryz.info5)

set_option maxRecDepth 100000 in
set_option maxHeartbeats 1000000 in
theorem ccarry_any (a : List (BitVec 64)) (w : World) (ha : a.length = 5) :
    Calls Tryz.prog 244 #[.agg (Ws a)] w fun e w' => e = .returned (.agg (Ws (Cc.carry a))) ∧ Below w.heap.size w w' := by
  have sa : (Ws a).size = 5 := by rw [Ws_size, ha]
  have hb1 : Blk ((w.alloc (.cells (Ws a) 208)).alloc (.cells (Ws [0, 0, 0, 0, 0]) 208)) w.heap.size (Ws a) 208 := heap_alloc2_old w _ _
  have hb2 : Blk ((w.alloc (.cells (Ws a) 208)).alloc (.cells (Ws [0, 0, 0, 0, 0]) 208)) (w.heap.size + 1) (Ws [0, 0, 0, 0, 0]) 208 := heap_alloc2_new w _ _
  have hbel : Below w.heap.size w ((w.alloc (.cells (Ws a) 208)).alloc (.cells (Ws [0, 0, 0, 0, 0]) 208)) := ((Below.refl _ _).alloc (Nat.le_refl _) _).alloc (by simp) _
  go_enter Tryz.func244, Tryz.ntmps244
  go_wp2_with fail
  rw [Z5]
  generalize (w.alloc (.cells (Ws a) 208)).alloc (.cells (Ws [0, 0, 0, 0, 0]) 208) = w1 at hb1 hb2 hbel ⊢
  rw [show Value.int IntKind.u64 0 = .int .u64 (U 0) from rfl]
  go_loopw [3, 5] (fun o i wr => ∃ k : Nat, k ≤ 5 ∧ i = .int .i64 k ∧ o = .int .u64 (U (Cc.carTo a 0 k).2) ∧ Blk wr w.heap.size (Ws (Cc.carTo a 0 k).1) 208 ∧ Blk wr (w.heap.size + 1) (Ws [0, 0, 0, 0, 0]) 208 ∧ Below w.heap.size w wr) (fun _ i _ => 5 - (intOf i).toNat)
  case atStart => exact ⟨0, by omega, rfl, rfl, hb1, hb2, hbel⟩
  case round =>
    clear hb1 hb2 hbel w1
    obtain ⟨k, hk, rfl, rfl, hb1, hb2, hbel⟩ := hrel
    by_cases hlt : k < 5
    · have HS : Hid (Cc.carTo a 0 (k + 1) = (((Cc.carTo a 0 k).1.set k ((Cc.carTo a 0 k).1.getD k 0 + (Cc.carTo a 0 k).2)).set k (((Cc.carTo a 0 k).1.getD k 0 + (Cc.carTo a 0 k).2) &&& 67108863), ((Cc.carTo a 0 k).1.getD k 0 + (Cc.carTo a 0 k).2) >>> 26)) := by
        have : Cc.carTo a 0 (k + 1) = (((Cc.carTo a 0 k).1.set k ((Cc.carTo a 0 k).1.getD k 0 + (Cc.carTo a 0 k).2)).set k (((Cc.carTo a 0 k).1.getD k 0 + (Cc.carTo a 0 k).2) &&& 67108863), ((Cc.carTo a 0 k).1.getD k 0 + (Cc.carTo a 0 k).2) >>> 26) := rfl
        exact this
      have hlL : (Cc.carTo a 0 k).1.length = 5 := by rw [Cc.carTo_length, ha]
      generalize (Cc.carTo a 0 k).1 = L at hb1 HS hlL
      generalize (Cc.carTo a 0 k).2 = o at HS ⊢
      have c1 := hb1.cell k
      rw [Ws_at _ _ (by omega)] at c1
      have f1 := hb1.frozen k
      generalize L.getD k 0 = x at c1 HS
      have i1 : (k : Int) < 5 := by omega
      have a1 := U_add x o
      have a2 := U_and26 (x + o)
      have a3 := U_shrI (x + o) 67108864 26 rfl
      generalize x + o = y at a1 a2 a3 HS
      generalize y &&& 67108863 = z at a2 HS
      generalize y >>> 26 = q at a3 HS
      go_wp2
      go_roundw
      case rel =>
        rw [hb1.set, (hb1.row _).set, setRow_setRow, Ws_set, Ws_set]
        refine ⟨k + 1, by omega, by go_num, ?_, ?_, hb2.other (by omega) _, below_setRow hbel (by omega) _⟩
        · rw [show Cc.carTo a 0 (k + 1) = _ from HS.out]
        · rw [show Cc.carTo a 0 (k + 1) = _ from HS.out]; exact hb1.row _
      case measure => simp [intOf]; omega
    · have hk8 : k = 5 := by omega
      subst hk8
      rw [show ((5 : Nat) : Int) = 5 from rfl]
      have HE : Hid (Cc.carry a = Cc.carEnd (Cc.carTo a 0 5).1 (Cc.carTo a 0 5).2) := by
        have : Cc.carry a = Cc.carEnd (Cc.carTo a 0 5).1 (Cc.carTo a 0 5).2 := rfl
        exact this
      have hlL : (Cc.carTo a 0 5).1.length = 5 := by rw [Cc.carTo_length, ha]
      generalize (Cc.carTo a 0 5).1 = L at hb1 HE hlL
      generalize (Cc.carTo a 0 5).2 = o at HE ⊢
      obtain ⟨x, y, l2, l3, l4, rfl⟩ := list5 L hlL
      have HE2 : Hid (Cc.carEnd [x, y, l2, l3, l4] o = [(x + 5 * o) &&& 67108863, y + (x + 5 * o) >>> 26, l2, l3, l4]) := by
        have : Cc.carEnd [x, y, l2, l3, l4] o = [(x + 5 * o) &&& 67108863, y + (x + 5 * o) >>> 26, l2, l3, l4] := rfl
        exact this
      obtain ⟨c0, c1, c2, c3, c4⟩ := cells5 hb1
      obtain ⟨d0, d1, d2, d3, d4⟩ := cells5 hb2
      have f0 := hb1.frozen 0
      have f1 := hb1.frozen 1
      have k0 := hb2.frozen 0
      have k1 := hb2.frozen 1
      have k2 := hb2.frozen 2
      have k3 := hb2.frozen 3
      have k4 := hb2.frozen 4
      have a0 : IntKind.u64.wrap (5 * U o) = U (5 * o) := U_mul5 o
      generalize 5 * o = p at a0 HE2
      have a1 := U_add x p
      have a2 := U_and26 (x + p)
      have a3 := U_shrI (x + p) 67108864 26 rfl
      generalize x + p = u at a1 a2 a3 HE2
      generalize u &&& 67108863 = z at a2 HE2
      generalize u >>> 26 = q at a3 HE2
      have a4 := U_add y q
      generalize y + q = v at a4 HE2
      have hb3 : Blk (((wr.setCell ⟨w.heap.size, 0, none⟩ (.int .u64 (U u))).setCell ⟨w.heap.size, 1, none⟩ (.int .u64 (U v))).setCell ⟨w.heap.size, 0, none⟩ (.int .u64 (U z))) (w.heap.size + 1) (Ws [0, 0, 0, 0, 0]) 208 := by
        rw [hb1.set, (hb1.row _).set, setRow_setRow, (hb1.row _).set, setRow_setRow]; exact hb2.other (by omega) _
      have hbel3 : Below w.heap.size w (((wr.setCell ⟨w.heap.size, 0, none⟩ (.int .u64 (U u))).setCell ⟨w.heap.size, 1, none⟩ (.int .u64 (U v))).setCell ⟨w.heap.size, 0, none⟩ (.int .u64 (U z))) := ((hbel.setCell (Nat.le_refl _) _).setCell (Nat.le_refl _) _).setCell (Nat.le_refl _) _
      go_wp2
      rw [set5 hb3]
      refine bodyPost_ret (v := .agg (Ws [z, v, l2, l3, l4])) ?_ rfl ⟨by rw [show Cc.carry a = _ from HE.out, show Cc.carEnd [x, y, l2, l3, l4] o = _ from HE2.out], below_setRow hbel3 (by omega) _⟩
      exact results_cell_row rfl _ _ (w.heap.size + 1) 208 _ (0, 0) _ rfl (hb3.row _) Tryz.underlying208 rfl Tryz.info5

end Go.Proofs.YtclpbaokadfhhaaGreatDoor

namespace Go.Proofs.YtclpbaokadfhhaaGreatDoor
open Go.RowKit

namespace Cc
/-- one product added to the sums -/
def tstep (s : List (BitVec 64)) (i j : Nat) (p : BitVec 64) : List (BitVec 64) :=
  if i + j < 5 then s.set (i + j) (s.getD (i + j) 0 + p) else s.set (i + j - 5) (s.getD (i + j - 5) 0 + 5 * p)
theorem tstep_length (s : List (BitVec 64)) (i j : Nat) (p : BitVec 64) : (tstep s i j p).length = s.length := by
  unfold tstep; split <;> simp
def rowT (a b s : List (BitVec 64)) (i : Nat) : Nat → List (BitVec 64)
  | 0 => s
  | j + 1 => tstep (rowT a b s i j) i j (a.getD i 0 * b.getD j 0)
theorem rowT_length (a b s : List (BitVec 64)) (i j : Nat) : (rowT a b s i j).length = s.length := by
  induction j with
  | zero => rfl
  | succ j ih => simp [rowT, tstep_length, ih]
def timesTo (a b : List (BitVec 64)) : Nat → List (BitVec 64)
  | 0 => [0, 0, 0, 0, 0]
  | i + 1 => rowT a b (timesTo a b i) i 5
theorem timesTo_length (a b : List (BitVec 64)) (i : Nat) : (timesTo a b i).length = 5 := by
  induction i with
  | zero => rfl
  | succ i ih => simp [timesTo, rowT_length, ih]
def times (a b : List (BitVec 64)) : List (BitVec 64) := carry (timesTo a b 5)
theorem times_length (a b : List (BitVec 64)) : (times a b).length = 5 := by simp [times, carry_length, timesTo_length]
end Cc
theorem U_mul (x y : BitVec 64) : IntKind.u64.wrap (U x * U y) = U (x * y) := by
  rw [IntKind.wrap_u64]; unfold U; rw [BitVec.toNat_mul]; simp

set_option maxRecDepth 100000 in
set_option maxHeartbeats 2000000 in
theorem times_any (a b : List (BitVec 64)) (w : World) (ha : a.length = 5) (hb : b.length = 5) :
    Calls Tryz.prog 220 #[.agg (Ws a), .agg (Ws b)] w fun e w' => e = .returned (.agg (Ws (Cc.times a b))) ∧ Below w.heap.size w w' := by
  have sa : (Ws a).size = 5 := by rw [Ws_size, ha]
  have sb : (Ws b).size = 5 := by rw [Ws_size, hb]
  have hb1 := Blk.alloc (Blk.alloc (Blk.alloc (Blk.new w (Ws a) 208) (.cells (Ws b) 208)) (.cells (Ws [0, 0, 0, 0, 0]) 208)) (.cells (Ws [0, 0, 0, 0, 0]) 208)
  have hb2 := Blk.alloc (Blk.alloc (Blk.new (w.alloc (.cells (Ws a) 208)) (Ws b) 208) (.cells (Ws [0, 0, 0, 0, 0]) 208)) (.cells (Ws [0, 0, 0, 0, 0]) 208)
  have hb3 := Blk.alloc (Blk.new ((w.alloc (.cells (Ws a) 208)).alloc (.cells (Ws b) 208)) (Ws [0, 0, 0, 0, 0]) 208) (.cells (Ws [0, 0, 0, 0, 0]) 208)
  have hb4 := Blk.new (((w.alloc (.cells (Ws a) 208)).alloc (.cells (Ws b) 208)).alloc (.cells (Ws [0, 0, 0, 0, 0]) 208)) (Ws [0, 0, 0, 0, 0]) 208
  have hbel : Below w.heap.size w ((((w.alloc (.cells (Ws a) 208)).alloc (.cells (Ws b) 208)).alloc (.cells (Ws [0, 0, 0, 0, 0]) 208)).alloc (.cells (Ws [0, 0, 0, 0, 0]) 208)) :=
    ((((Below.refl _ _).alloc (Nat.le_refl _) _).alloc (by simp) _).alloc (by simp; omega) _).alloc (by simp; omega) _
  rw [show (w.alloc (.cells (Ws a) 208)).heap.size = w.heap.size + 1 by simp] at hb2
  rw [show ((w.alloc (.cells (Ws a) 208)).alloc (.cells (Ws b) 208)).heap.size = w.heap.size + 1 + 1 by simp] at hb3
  rw [show (((w.alloc (.cells (Ws a) 208)).alloc (.cells (Ws b) 208)).alloc (.cells (Ws [0, 0, 0, 0, 0]) 208)).heap.size = w.heap.size + 1 + 1 + 1 by simp] at hb4
  go_enter Tryz.func220, Tryz.ntmps220
  go_wp2_with fail
  rw [Z5]
  generalize (((w.alloc (.cells (Ws a) 208)).alloc (.cells (Ws b) 208)).alloc (.cells (Ws [0, 0, 0, 0, 0]) 208)).alloc (.cells (Ws [0, 0, 0, 0, 0]) 208) = w1 at hb1 hb2 hb3 hb4 hbel ⊢
  go_loopw [9] (fun i wr => ∃ k : Nat, k ≤ 5 ∧ i = .int .i64 k ∧ Blk wr w.heap.size (Ws a) 208 ∧ Blk wr (w.heap.size + 1) (Ws b) 208 ∧ Blk wr (w.heap.size + 1 + 1) (Ws [0, 0, 0, 0, 0]) 208 ∧ Blk wr (w.heap.size + 1 + 1 + 1) (Ws (Cc.timesTo a b k)) 208 ∧ Below w.heap.size w wr) (fun i _ => 5 - (intOf i).toNat)
  case atStart => exact ⟨0, by omega, rfl, hb1, hb2, hb3, hb4, hbel⟩
  case round =>
    clear hb1 hb2 hb3 hb4 hbel w1
    obtain ⟨i, hi, rfl, hb1, hb2, hb3, hb4, hbel⟩ := hrel
    by_cases hlt : i < 5
    · have i1 : (i : Int) < 5 := by omega
      have hlS : (Cc.timesTo a b i).length = 5 := Cc.timesTo_length _ _ _
      have HT : Hid (Cc.timesTo a b (i + 1) = Cc.rowT a b (Cc.timesTo a b i) i 5) := by
        have : Cc.timesTo a b (i + 1) = Cc.rowT a b (Cc.timesTo a b i) i 5 := rfl
        exact this
      generalize Cc.timesTo a b i = S at hb4 hlS HT
      go_wp2_with fail
      go_loopw [12] (fun c wr => ∃ j : Nat, j ≤ 5 ∧ c = .int .i64 j ∧ Blk wr w.heap.size (Ws a) 208 ∧ Blk wr (w.heap.size + 1) (Ws b) 208 ∧ Blk wr (w.heap.size + 1 + 1) (Ws [0, 0, 0, 0, 0]) 208 ∧ Blk wr (w.heap.size + 1 + 1 + 1) (Ws (Cc.rowT a b S i j)) 208 ∧ Below w.heap.size w wr) (fun c _ => 5 - (intOf c).toNat)
      case atStart => exact ⟨0, by omega, rfl, hb1, hb2, hb3, hb4, hbel⟩
      case round =>
        clear hb1 hb2 hb3 hb4 hbel
        obtain ⟨j, hj, rfl, hb1, hb2, hb3, hb4, hbel⟩ := hrel
        by_cases hlj : j < 5
        · have j1 : (j : Int) < 5 := by omega
          have hlL : (Cc.rowT a b S i j).length = 5 := by rw [Cc.rowT_length, hlS]
          have HR : Hid (Cc.rowT a b S i (j + 1) = Cc.tstep (Cc.rowT a b S i j) i j (a.getD i 0 * b.getD j 0)) := by
            have : Cc.rowT a b S i (j + 1) = Cc.tstep (Cc.rowT a b S i j) i j (a.getD i 0 * b.getD j 0) := rfl
            exact this
          generalize Cc.rowT a b S i j = L at hb4 hlL HR
          have c1 := hb1.cell i
          rw [Ws_at _ _ (by omega)] at c1
          have c2 := hb2.cell j
          rw [Ws_at _ _ (by omega)] at c2
          generalize a.getD i 0 = x at c1 HR
          generalize b.getD j 0 = y at c2 HR
          have a1 := U_mul x y
          generalize x * y = p at a1 HR
          by_cases hs : i + j < 5
          · have s1 : (i : Int) + (j : Int) < 5 := by omega
            have s2 : ((i : Int) + (j : Int)).toNat = i + j := by omega
            have s3 : (0 : Int) ≤ (i : Int) + (j : Int) := by omega
            have s4 : IntKind.i64.wrap ((i : Int) + (j : Int)) = (i : Int) + (j : Int) := by rw [IntKind.wrap_i64]; omega
            have c3 := hb4.cell (i + j)
            rw [Ws_at _ _ (by omega)] at c3
            have f3 := hb4.frozen (i + j)
            have HS : Hid (Cc.tstep L i j p = L.set (i + j) (L.getD (i + j) 0 + p)) := by
              have : Cc.tstep L i j p = L.set (i + j) (L.getD (i + j) 0 + p) := by unfold Cc.tstep; rw [if_pos hs]
              exact this
            generalize L.getD (i + j) 0 = z at c3 HS
            have a2 := U_add z p
            generalize z + p = q at a2 HS
            go_wp2_with fail
            go_quiet (fail)
            go_wp2
            go_roundw
            case rel =>
              refine ⟨j + 1, by omega, by go_num, ?_, ?_, ?_, ?_, ?_⟩
              · rw [(hb4.drewN _).set]; exact (hb1.drewN _).other (by omega) _
              · rw [(hb4.drewN _).set]; exact (hb2.drewN _).other (by omega) _
              · rw [(hb4.drewN _).set]; exact (hb3.drewN _).other (by omega) _
              · rw [(hb4.drewN _).set, Ws_set, show Cc.rowT a b S i (j + 1) = _ from HR.out, show Cc.tstep L i j p = _ from HS.out]; exact (hb4.drewN _).row _
              · exact (below_drewN hbel _).setCell (show w.heap.size ≤ w.heap.size + 1 + 1 + 1 by omega) _
            case measure => simp [intOf]; omega
          · have s1 : ¬ (i : Int) + (j : Int) < 5 := by omega
            have s2 : ((i : Int) + (j : Int) - 5).toNat = i + j - 5 := by omega
            have s3 : (0 : Int) ≤ (i : Int) + (j : Int) - 5 := by omega
            have s5 : (i : Int) + (j : Int) - 5 < 5 := by omega
            have s4 : IntKind.i64.wrap ((i : Int) + (j : Int)) = (i : Int) + (j : Int) := by rw [IntKind.wrap_i64]; omega
            have s6 : IntKind.i64.wrap ((i : Int) + (j : Int) - 5) = (i : Int) + (j : Int) - 5 := by rw [IntKind.wrap_i64]; omega
            have c3 := hb4.cell (i + j - 5)
            rw [Ws_at _ _ (by omega)] at c3
            have f3 := hb4.frozen (i + j - 5)
            have HS : Hid (Cc.tstep L i j p = L.set (i + j - 5) (L.getD (i + j - 5) 0 + 5 * p)) := by
              have : Cc.tstep L i j p = L.set (i + j - 5) (L.getD (i + j - 5) 0 + 5 * p) := by unfold Cc.tstep; rw [if_neg hs]
              exact this
            generalize L.getD (i + j - 5) 0 = z at c3 HS
            have a3 := U_mul5 p
            generalize 5 * p = p5 at a3 HS
            have a2 := U_add z p5
            generalize z + p5 = q at a2 HS
            go_wp2_with fail
            go_quiet (fail)
            go_wp2
            go_roundw
            case rel =>
              refine ⟨j + 1, by omega, by go_num, ?_, ?_, ?_, ?_, ?_⟩
              · rw [(hb4.drewN _).set]; exact (hb1.drewN _).other (by omega) _
              · rw [(hb4.drewN _).set]; exact (hb2.drewN _).other (by omega) _
              · rw [(hb4.drewN _).set]; exact (hb3.drewN _).other (by omega) _
              · rw [(hb4.drewN _).set, Ws_set, show Cc.rowT a b S i (j + 1) = _ from HR.out, show Cc.tstep L i j p = _ from HS.out]; exact (hb4.drewN _).row _
              · exact (below_drewN hbel _).setCell (show w.heap.size ≤ w.heap.size + 1 + 1 + 1 by omega) _
            case measure => simp [intOf]; omega
        · have hj5 : j = 5 := by omega
          subst hj5
          go_wp2
          go_roundw
          case rel => exact ⟨i + 1, by omega, by go_num, hb1, hb2, hb3, by rw [show Cc.timesTo a b (i + 1) = _ from HT.out]; exact hb4, hbel⟩
          case measure => simp [intOf]; omega
    · have hk8 : i = 5 := by omega
      subst hk8
      rw [show ((5 : Nat) : Int) = 5 from rfl]
      have hlS : (Cc.timesTo a b 5).length = 5 := Cc.timesTo_length _ _ _
      have hC := ccarry_any (Cc.timesTo a b 5) wr hlS
      rw [show Cc.carry (Cc.timesTo a b 5) = Cc.times a b from rfl] at hC
      have HC : Hid (Calls Tryz.prog 244 #[.agg (Ws (Cc.timesTo a b 5))] wr fun e w' => e = .returned (.agg (Ws (Cc.times a b))) ∧ Below wr.heap.size wr w') := hC
      clear hC
      have hl5 : (Cc.times a b).length = 5 := Cc.times_length _ _
      generalize Cc.timesTo a b 5 = S at hb4 hlS HC
      have g4 := hb4
      unfold Blk at g4
      have sS : (Ws S).size = 5 := by rw [Ws_size, hlS]
      go_wp2_with (first
        | (refine wpList_load_row rfl 208 _ rfl (w.heap.size + 1 + 1 + 1) rfl 208 _ (0, 0) _ g4 Tryz.underlying208 rfl (by rw [sS]; exact Tryz.info5) ?_))
      refine HC.out.mono ?_
      rintro e w2 ⟨rfl, hb5⟩
      have hq := hb3.keep hb5
      have hst := storeRow (l := Cc.times a b) hq (by rw [hl5, Ws_size]; rfl)
      have hs5 : (Ws (Cc.times a b)).size = 5 := by rw [Ws_size, hl5]
      have hbel2 := hbel.trans (hb5.mono hbel.size)
      go_wp2
      refine bodyPost_ret (v := .agg (Ws (Cc.times a b))) ?_ rfl ⟨rfl, below_setRow hbel2 (by omega) _⟩
      exact results_cell_row rfl _ _ (w.heap.size + 1 + 1) 208 _ (0, 0) _ rfl (hq.row _) Tryz.underlying208 rfl (by rw [hs5]; exact Tryz.info5)

end Go.Proofs.YtclpbaokadfhhaaGreatDoor

namespace Go.Proofs.YtclpbaokadfhhaaGreatDoor
open Go.RowKit

namespace Cc
def heldTo (a : List (BitVec 64)) : Nat → BitVec 64
  | 0 => 5
  | k + 1 => (a.getD k 0 + heldTo a k) >>> 26
def lowest (a : List (BitVec 64)) : List (BitVec 64) := (carTo a (5 * heldTo a 5) 5).1
theorem lowest_length (a : List (BitVec 64)) : (lowest a).length = a.length := carTo_length _ _ _
end Cc

theorem index5' (x0 x1 x2 x3 x4 : BitVec 64) (k : Nat) (hk : k < 5) (w : World) :
    (Instr.index 208 (.agg (Ws [x0, x1, x2, x3, x4])) (.int .i64 k)).run Tryz.prog w = .ok (.int .u64 (U ([x0, x1, x2, x3, x4].getD k 0))) w := by
  obtain rfl | rfl | rfl | rfl | rfl : k = 0 ∨ k = 1 ∨ k = 2 ∨ k = 3 ∨ k = 4 := by omega
  all_goals kernel_rfl
theorem index5 (l : List (BitVec 64)) (hl : l.length = 5) (k : Nat) (hk : k < 5) (w : World) :
    (Instr.index 208 (.agg (Ws l)) (.int .i64 k)).run Tryz.prog w = .ok (.int .u64 (U (l.getD k 0))) w := by
  obtain ⟨x0, x1, x2, x3, x4, rfl⟩ := list5 l hl
  exact index5' x0 x1 x2 x3 x4 k hk w

set_option maxRecDepth 100000 in
set_option maxHeartbeats 1000000 in
theorem lowest_any (a : List (BitVec 64)) (w : World) (ha : a.length = 5) :
    Calls Tryz.prog 224 #[.agg (Ws a)] w fun e w' => e = .returned (.agg (Ws (Cc.lowest a))) ∧ Below w.heap.size w w' := by
  have sa : (Ws a).size = 5 := by rw [Ws_size, ha]
  have hb1 : Blk ((w.alloc (.cells (Ws a) 208)).alloc (.cells (Ws [0, 0, 0, 0, 0]) 208)) w.heap.size (Ws a) 208 := heap_alloc2_old w _ _
  have hb2 : Blk ((w.alloc (.cells (Ws a) 208)).alloc (.cells (Ws [0, 0, 0, 0, 0]) 208)) (w.heap.size + 1) (Ws [0, 0, 0, 0, 0]) 208 := heap_alloc2_new w _ _
  have hbel : Below w.heap.size w ((w.alloc (.cells (Ws a) 208)).alloc (.cells (Ws [0, 0, 0, 0, 0]) 208)) := ((Below.refl _ _).alloc (Nat.le_refl _) _).alloc (by simp) _
  have g1 := hb1
  unfold Blk at g1
  rw [← Z5] at g1
  go_enter Tryz.func224, Tryz.ntmps224
  go_wp2_with (first
    | (refine wpList_load_row rfl 208 _ rfl w.heap.size rfl 208 _ (0, 0) _ g1 Tryz.underlying208 rfl (by rw [sa]; exact Tryz.info5) ?_))
  rw [Z5]
  clear g1
  generalize (w.alloc (.cells (Ws a) 208)).alloc (.cells (Ws [0, 0, 0, 0, 0]) 208) = w1 at hb1 hb2 hbel ⊢
  rw [show Value.int IntKind.u64 5 = .int .u64 (U 5) from rfl]
  go_loop [3, 9] (fun o i => ∃ k : Nat, k ≤ 5 ∧ i = .int .i64 k ∧ o = .int .u64 (U (Cc.heldTo a k))) (fun _ i => 5 - (intOf i).toNat)
  case atStart => exact ⟨0, by omega, rfl, rfl⟩
  case round =>
    obtain ⟨k, hk, rfl, rfl⟩ := hrel
    by_cases hlt : k < 5
    · have hix := index5 a ha k hlt
      have i1 : (k : Int) < 5 := by omega
      have HS : Hid (Cc.heldTo a (k + 1) = (a.getD k 0 + Cc.heldTo a k) >>> 26) := by
        have : Cc.heldTo a (k + 1) = (a.getD k 0 + Cc.heldTo a k) >>> 26 := rfl
        exact this
      generalize a.getD k 0 = x at hix HS
      generalize Cc.heldTo a k = o at HS ⊢
      have a1 := U_add x o
      have a3 := U_shrI (x + o) 67108864 26 rfl
      generalize x + o = y at a1 a3 HS
      generalize y >>> 26 = q at a3 HS
      go_wp2
      go_round
      case rel => exact ⟨k + 1, by omega, by go_num, by rw [show Cc.heldTo a (k + 1) = _ from HS.out]⟩
      case measure => simp [intOf]; omega
    · have hk5 : k = 5 := by omega
      subst hk5
      rw [show ((5 : Nat) : Int) = 5 from rfl]
      have HE : Hid (Cc.lowest a = (Cc.carTo a (5 * Cc.heldTo a 5) 5).1) := by
        have : Cc.lowest a = (Cc.carTo a (5 * Cc.heldTo a 5) 5).1 := rfl
        exact this
      generalize Cc.heldTo a 5 = o at HE ⊢
      have a0 := U_mul5 o
      generalize 5 * o = p at a0 HE
      go_wp2
      go_loopw [6, 19] (fun o i wr => ∃ k : Nat, k ≤ 5 ∧ i = .int .i64 k ∧ o = .int .u64 (U (Cc.carTo a p k).2) ∧ Blk wr w.heap.size (Ws (Cc.carTo a p k).1) 208 ∧ Blk wr (w.heap.size + 1) (Ws [0, 0, 0, 0, 0]) 208 ∧ Below w.heap.size w wr) (fun _ i _ => 5 - (intOf i).toNat)
      case atStart => exact ⟨0, by omega, rfl, rfl, hb1, hb2, hbel⟩
      case round =>
        clear hb1 hb2 hbel
        obtain ⟨k, hk, rfl, rfl, hb1, hb2, hbel⟩ := hrel
        by_cases hlt : k < 5
        · have HS : Hid (Cc.carTo a p (k + 1) = (((Cc.carTo a p k).1.set k ((Cc.carTo a p k).1.getD k 0 + (Cc.carTo a p k).2)).set k (((Cc.carTo a p k).1.getD k 0 + (Cc.carTo a p k).2) &&& 67108863), ((Cc.carTo a p k).1.getD k 0 + (Cc.carTo a p k).2) >>> 26)) := by
            have : Cc.carTo a p (k + 1) = (((Cc.carTo a p k).1.set k ((Cc.carTo a p k).1.getD k 0 + (Cc.carTo a p k).2)).set k (((Cc.carTo a p k).1.getD k 0 + (Cc.carTo a p k).2) &&& 67108863), ((Cc.carTo a p k).1.getD k 0 + (Cc.carTo a p k).2) >>> 26) := rfl
            exact this
          have hlL : (Cc.carTo a p k).1.length = 5 := by rw [Cc.carTo_length, ha]
          generalize (Cc.carTo a p k).1 = L at hb1 HS hlL
          generalize (Cc.carTo a p k).2 = o' at HS ⊢
          have c1 := hb1.cell k
          rw [Ws_at _ _ (by omega)] at c1
          have f1 := hb1.frozen k
          generalize L.getD k 0 = x at c1 HS
          have i1 : (k : Int) < 5 := by omega
          have a1 := U_add x o'
          have a2 := U_and26 (x + o')
          have a3 := U_shrI (x + o') 67108864 26 rfl
          generalize x + o' = y at a1 a2 a3 HS
          generalize y &&& 67108863 = z at a2 HS
          generalize y >>> 26 = q at a3 HS
          go_wp2
          go_roundw
          case rel =>
            rw [hb1.set, (hb1.row _).set, setRow_setRow, Ws_set, Ws_set]
            refine ⟨k + 1, by omega, by go_num, ?_, ?_, hb2.other (by omega) _, below_setRow hbel (by omega) _⟩
            · rw [show Cc.carTo a p (k + 1) = _ from HS.out]
            · rw [show Cc.carTo a p (k + 1) = _ from HS.out]; exact hb1.row _
          case measure => simp [intOf]; omega
        · have hk8 : k = 5 := by omega
          subst hk8
          have hlL : (Cc.carTo a p 5).1.length = 5 := by rw [Cc.carTo_length, ha]
          generalize (Cc.carTo a p 5).1 = L at hb1 HE hlL
          have g1 := hb1; have g2 := hb2
          unfold Blk at g1 g2
          have hl : (Ws L).size = 5 := by rw [Ws_size, hlL]
          have e0 : (Ws [0, 0, 0, 0, 0]).size = 5 := by rw [Ws_size]; rfl
          go_wp2_with (first
            | (refine wpList_load_row rfl 208 _ rfl w.heap.size rfl 208 _ (0, 0) _ g1 Tryz.underlying208 rfl (by rw [hl]; exact Tryz.info5) ?_)
            | (refine wpList_store_row rfl 208 _ _ rfl (w.heap.size + 1) _ rfl rfl 208 _ g2 (by rw [hl]; exact Tryz.info5) (by rw [hl, e0]) (Ws_one _) ?_))
          refine bodyPost_ret (v := .agg (Ws L)) ?_ rfl ⟨by rw [show Cc.lowest a = L from HE.out], below_setRow hbel (by omega) _⟩
          exact results_cell_row rfl _ _ (w.heap.size + 1) 208 _ (0, 0) _ rfl (hb2.row _) Tryz.underlying208 rfl (by rw [hl]; exact Tryz.info5)

end Go.Proofs.YtclpbaokadfhhaaGreatDoor

namespace Go.Proofs.YtclpbaokadfhhaaGreatDoor
open Go.RowKit

namespace Cc
/-- byte k of a word of 64 bits, the lowest first -/
def byteL (x : BitVec 64) (k : Nat) : UInt8 := UInt8.ofNat (x >>> (8 * k)).toNat
def putL (l : List UInt8) (off : Nat) (x : BitVec 64) : Nat → List UInt8
  | 0 => l
  | k + 1 => (putL l off x k).set (off + k) (byteL x k)
theorem putL_length (l : List UInt8) (off : Nat) (x : BitVec 64) (k : Nat) : (putL l off x k).length = l.length := by
  induction k with
  | zero => rfl
  | succ k ih => simp [putL, ih]
theorem byteL_eq (x : BitVec 64) (k : Nat) : U x / 2 ^ (8 * k) % 256 = ((byteL x k).toNat : Int) := by
  rw [U_shr]; unfold byteL U; simp
/-- what is carried out of a sum -/
def over (x y c : BitVec 64) : BitVec 64 := BitVec.ofNat 64 ((x.toNat + y.toNat + c.toNat) / 18446744073709551616)
theorem over_le (x y c : BitVec 64) (h : c.toNat ≤ 1) : (over x y c).toNat ≤ 1 := by
  have hx := x.isLt; have hy := y.isLt
  unfold over; rw [BitVec.toNat_ofNat]
  have : (x.toNat + y.toNat + c.toNat) / 18446744073709551616 ≤ 1 := by omega
  omega
def tell2 (x y : BitVec 64) : Nat → List UInt8
  | 0 => zeros 16
  | i + 1 => putL (tell2 x y i) (8 * i) ([x, y].getD i 0) 8
theorem tell2_length (x y : BitVec 64) (i : Nat) : (tell2 x y i).length = 16 := by
  induction i with
  | zero => rfl
  | succ i ih => simp only [tell2, putL_length, ih]
def lowWord (h : List (BitVec 64)) : BitVec 64 := h.getD 0 0 ||| h.getD 1 0 <<< 26 ||| h.getD 2 0 <<< 52
def highWord (h : List (BitVec 64)) : BitVec 64 := h.getD 2 0 >>> 12 ||| h.getD 3 0 <<< 14 ||| h.getD 4 0 <<< 40
def sumLow (h : List (BitVec 64)) (s0 : BitVec 64) : BitVec 64 := lowWord h + s0 + 0
def sumHigh (h : List (BitVec 64)) (s0 s1 : BitVec 64) : BitVec 64 := highWord h + s1 + over (lowWord h) s0 0
def tellSum (h : List (BitVec 64)) (s0 s1 : BitVec 64) : List UInt8 := tell2 (sumLow h s0) (sumHigh h s0 s1) 2
theorem tellSum_length (h : List (BitVec 64)) (s0 s1 : BitVec 64) : (tellSum h s0 s1).length = 16 := tell2_length _ _ _
end Cc

theorem add64_run (x y c : BitVec 64) (h : c.toNat ≤ 1) (w : World) :
    (callFunc 182 #[.int .u64 (U x), .int .u64 (U y), .int .u64 (U c)]).run Tryz.prog w = .ok (.value (.tuple #[.int .u64 (U (x + y + c)), .int .u64 (U (Cc.over x y c))])) w := by
  rw [run_callFunc_extern Tryz.func182 (by kernel_rfl) (by kernel_rfl) (by kernel_rfl) (e := add64Entry) (by kernel_rfl), run_add64 (U x) (U y) (U c) (U_lo _) (U_lo _) (U_lo _) (by unfold U; omega)]
  have hx := x.isLt; have hy := y.isLt
  simp only [Result.andThen]
  have e1 : (U x + U y + U c) % 18446744073709551616 = U (x + y + c) := by
    unfold U; rw [BitVec.toNat_add, BitVec.toNat_add]; omega
  have e2 : (U x + U y + U c) / 18446744073709551616 = U (Cc.over x y c) := by
    unfold Cc.over; rw [← U_of _ (by omega)]; unfold U; omega
  rw [e1, e2]

theorem zero16b (w : World) : Sem.run Tryz.prog (zeroValue 179) w = .ok (.agg (Bs (zeros 16))) w := by kernel_rfl
theorem Tryz.info16b : (Tryz.prog.info? 179).map (·.size) = some 16 := by kernel_rfl
theorem index2 (x y : BitVec 64) (k : Nat) (hk : k < 2) (w : World) :
    (Instr.index 210 (.agg #[.int .u64 (U x), .int .u64 (U y)]) (.int .i64 k)).run Tryz.prog w = .ok (.int .u64 (U ([x, y].getD k 0))) w := by
  obtain rfl | rfl : k = 0 ∨ k = 1 := by omega
  all_goals kernel_rfl

set_option maxRecDepth 100000 in
set_option maxHeartbeats 2000000 in
theorem tellSum_any (h : List (BitVec 64)) (s0 s1 : BitVec 64) (w : World) (hh : h.length = 5) :
    Calls Tryz.prog 223 #[.agg (Ws h), .agg (Ws [s0, s1])] w fun e w' => e = .returned (.agg (Bs (Cc.tellSum h s0 s1))) ∧ Below w.heap.size w w' := by
  obtain ⟨h0, h1, h2, h3, h4, rfl⟩ := list5 h hh
  have hz := zero16b
  have p1 : bits BinOp.or IntKind.u64 (bits BinOp.or IntKind.u64 (U h0) (IntKind.u64.wrap (U h1 * 67108864))) (IntKind.u64.wrap (U h2 * 4503599627370496)) = U (Cc.lowWord [h0, h1, h2, h3, h4]) := by
    rw [U_shlI h1 67108864 26 rfl, U_or, U_shlI h2 4503599627370496 52 rfl, U_or]; rfl
  have p2 : bits BinOp.or IntKind.u64 (bits BinOp.or IntKind.u64 (U h2 / 4096) (IntKind.u64.wrap (U h3 * 16384))) (IntKind.u64.wrap (U h4 * 1099511627776)) = U (Cc.highWord [h0, h1, h2, h3, h4]) := by
    rw [U_shrI h2 4096 12 rfl, U_shlI h3 16384 14 rfl, U_or, U_shlI h4 1099511627776 40 rfl, U_or]; rfl
  have hA := add64_run (Cc.lowWord [h0, h1, h2, h3, h4]) s0 0 (by decide)
  have hB := add64_run (Cc.highWord [h0, h1, h2, h3, h4]) s1 (Cc.over (Cc.lowWord [h0, h1, h2, h3, h4]) s0 0) (Cc.over_le _ _ _ (by decide))
  rw [show U 0 = 0 from rfl] at hA
  have HE : Hid (Cc.tellSum [h0, h1, h2, h3, h4] s0 s1 = Cc.tell2 (Cc.lowWord [h0, h1, h2, h3, h4] + s0 + 0) (Cc.highWord [h0, h1, h2, h3, h4] + s1 + Cc.over (Cc.lowWord [h0, h1, h2, h3, h4]) s0 0) 2) := by
    have : Cc.tellSum [h0, h1, h2, h3, h4] s0 s1 = Cc.tell2 (Cc.lowWord [h0, h1, h2, h3, h4] + s0 + 0) (Cc.highWord [h0, h1, h2, h3, h4] + s1 + Cc.over (Cc.lowWord [h0, h1, h2, h3, h4]) s0 0) 2 := rfl
    exact this
  generalize Cc.tellSum [h0, h1, h2, h3, h4] s0 s1 = R at HE ⊢
  generalize Cc.over (Cc.lowWord [h0, h1, h2, h3, h4]) s0 0 = ov at hA hB HE
  generalize hX : Cc.lowWord [h0, h1, h2, h3, h4] + s0 + 0 = X at hA HE
  generalize hY : Cc.highWord [h0, h1, h2, h3, h4] + s1 + ov = Y at hB HE
  clear hX hY
  generalize Cc.lowWord [h0, h1, h2, h3, h4] = lw at hA p1
  generalize Cc.highWord [h0, h1, h2, h3, h4] = hw at hB p2
  rw [show (Ws [h0, h1, h2, h3, h4]) = #[.int .u64 (U h0), .int .u64 (U h1), .int .u64 (U h2), .int .u64 (U h3), .int .u64 (U h4)] from rfl, show (Ws [s0, s1]) = #[.int .u64 (U s0), .int .u64 (U s1)] from rfl]
  go_enter Tryz.func223, Tryz.ntmps223
  go_wp2_with fail
  have hb3 : Blk ((((w.alloc (.cells #[.int .u64 (U h0), .int .u64 (U h1), .int .u64 (U h2), .int .u64 (U h3), .int .u64 (U h4)] 208)).alloc (.cells #[.int .u64 (U s0), .int .u64 (U s1)] 210)).alloc (.cells (Bs (zeros 16)) 179)).alloc (.cells (Bs (zeros 16)) 179)) (w.heap.size + 1 + 1) (Bs (zeros 16)) 179 := by
    have := Blk.alloc (Blk.new ((w.alloc (.cells #[.int .u64 (U h0), .int .u64 (U h1), .int .u64 (U h2), .int .u64 (U h3), .int .u64 (U h4)] 208)).alloc (.cells #[.int .u64 (U s0), .int .u64 (U s1)] 210)) (Bs (zeros 16)) 179) (.cells (Bs (zeros 16)) 179)
    simpa using this
  have hb4 : Blk ((((w.alloc (.cells #[.int .u64 (U h0), .int .u64 (U h1), .int .u64 (U h2), .int .u64 (U h3), .int .u64 (U h4)] 208)).alloc (.cells #[.int .u64 (U s0), .int .u64 (U s1)] 210)).alloc (.cells (Bs (zeros 16)) 179)).alloc (.cells (Bs (zeros 16)) 179)) (w.heap.size + 1 + 1 + 1) (Bs (zeros 16)) 179 := by
    have := Blk.new (((w.alloc (.cells #[.int .u64 (U h0), .int .u64 (U h1), .int .u64 (U h2), .int .u64 (U h3), .int .u64 (U h4)] 208)).alloc (.cells #[.int .u64 (U s0), .int .u64 (U s1)] 210)).alloc (.cells (Bs (zeros 16)) 179)) (Bs (zeros 16)) 179
    simpa using this
  have hbel : Below w.heap.size w ((((w.alloc (.cells #[.int .u64 (U h0), .int .u64 (U h1), .int .u64 (U h2), .int .u64 (U h3), .int .u64 (U h4)] 208)).alloc (.cells #[.int .u64 (U s0), .int .u64 (U s1)] 210)).alloc (.cells (Bs (zeros 16)) 179)).alloc (.cells (Bs (zeros 16)) 179)) :=
    ((((Below.refl _ _).alloc (Nat.le_refl _) _).alloc (by simp) _).alloc (by simp; omega) _).alloc (by simp; omega) _
  generalize (((w.alloc (.cells #[.int .u64 (U h0), .int .u64 (U h1), .int .u64 (U h2), .int .u64 (U h3), .int .u64 (U h4)] 208)).alloc (.cells #[.int .u64 (U s0), .int .u64 (U s1)] 210)).alloc (.cells (Bs (zeros 16)) 179)).alloc (.cells (Bs (zeros 16)) 179) = w1 at hb3 hb4 hbel ⊢
  clear hA hB p1 p2 hz
  go_loopw [50] (fun c wr => ∃ i : Nat, i ≤ 2 ∧ c = .int .i64 i ∧ Blk wr (w.heap.size + 1 + 1) (Bs (zeros 16)) 179 ∧ Blk wr (w.heap.size + 1 + 1 + 1) (Bs (Cc.tell2 X Y i)) 179 ∧ Below w.heap.size w wr) (fun c _ => 2 - (intOf c).toNat)
  case atStart => exact ⟨0, by omega, rfl, hb3, hb4, hbel⟩
  case round =>
    clear hb3 hb4 hbel w1
    obtain ⟨i, hi, rfl, hb3, hb4, hbel⟩ := hrel
    by_cases hlt : i < 2
    · have i1 : (i : Int) < 2 := by omega
      have hix := index2 X Y i hlt
      have HT : Hid (Cc.tell2 X Y (i + 1) = Cc.putL (Cc.tell2 X Y i) (8 * i) ([X, Y].getD i 0) 8) := by
        have : Cc.tell2 X Y (i + 1) = Cc.putL (Cc.tell2 X Y i) (8 * i) ([X, Y].getD i 0) 8 := rfl
        exact this
      have hlT : (Cc.tell2 X Y i).length = 16 := Cc.tell2_length _ _ _
      generalize [X, Y].getD i 0 = x at hix HT
      generalize Cc.tell2 X Y i = T at hb4 HT hlT
      go_wp2_with fail
      go_loopw [54] (fun c wr => ∃ j : Nat, j ≤ 8 ∧ c = .int .i64 j ∧ Blk wr (w.heap.size + 1 + 1) (Bs (zeros 16)) 179 ∧ Blk wr (w.heap.size + 1 + 1 + 1) (Bs (Cc.putL T (8 * i) x j)) 179 ∧ Below w.heap.size w wr) (fun c _ => 8 - (intOf c).toNat)
      case atStart => exact ⟨0, by omega, rfl, hb3, hb4, hbel⟩
      case round =>
        clear hb3 hb4 hbel
        obtain ⟨j, hj, rfl, hb3, hb4, hbel⟩ := hrel
        by_cases hlj : j < 8
        · have j1 : (j : Int) < 8 := by omega
          have hc := hb4.cell (8 * i + j)
          rw [Bs_at _ _ (by rw [Cc.putL_length]; omega)] at hc
          have hf := hb4.frozen (8 * i + j)
          have k1 : IntKind.i64.wrap (8 * (i : Int) + (j : Int)) = 8 * (i : Int) + (j : Int) := by rw [IntKind.wrap_i64]; omega
          have k2 : 8 * (i : Int) + (j : Int) < 16 := by omega
          have k3 : (0 : Int) ≤ 8 * (i : Int) + (j : Int) := by omega
          have k4 : (8 * (i : Int) + (j : Int)).toNat = 8 * i + j := by omega
          go_wp2
          go_roundw
          case rel =>
            refine ⟨j + 1, by omega, by go_num, ?_, ?_, ?_⟩
            · rw [hb4.set]; exact hb3.other (by omega) _
            · rw [hb4.set, Cc.byteL_eq, Bs_set]; exact hb4.row _
            · exact hbel.setCell (show w.heap.size ≤ w.heap.size + 1 + 1 + 1 by omega) _
          case measure => simp [intOf]; omega
        · have hj5 : j = 8 := by omega
          subst hj5
          go_wp2
          go_roundw
          case rel => exact ⟨i + 1, by omega, by go_num, hb3, by rw [show Cc.tell2 X Y (i + 1) = _ from HT.out]; exact hb4, hbel⟩
          case measure => simp [intOf]; omega
    · have hk8 : i = 2 := by omega
      subst hk8
      have hlT : (Cc.tell2 X Y 2).length = 16 := Cc.tell2_length _ _ _
      generalize Cc.tell2 X Y 2 = T at hb4 HE hlT
      have g1 := hb4; have g2 := hb3
      unfold Blk at g1 g2
      have hl : (Bs T).size = 16 := by rw [Bs_size, hlT]
      have e0 : (Bs (zeros 16)).size = 16 := by rw [Bs_size]; rfl
      go_wp2_with (first
        | (refine wpList_load_row rfl 179 _ rfl (w.heap.size + 1 + 1 + 1) rfl 179 _ (0, 0) _ g1 Tryz.underlying179 rfl (by rw [hl]; exact Tryz.info16b) ?_)
        | (refine wpList_store_row rfl 179 _ _ rfl (w.heap.size + 1 + 1) _ rfl rfl 179 _ g2 (by rw [hl]; exact Tryz.info16b) (by rw [hl, e0]) (Bs_one _) ?_))
      refine bodyPost_ret (v := .agg (Bs T)) ?_ rfl ⟨by rw [show R = T from HE.out], below_setRow hbel (by omega) _⟩
      exact results_cell_row rfl _ _ (w.heap.size + 1 + 1) 179 _ (0, 0) _ rfl (hb3.row _) Tryz.underlying179 rfl (by rw [hl]; exact Tryz.info16b)

end Go.Proofs.YtclpbaokadfhhaaGreatDoor
