/- Contracts of cipher.halves, leaveOut, numberOf. -/
import Derived.Test.YtclpbaokadfhhaaCTurn
import Derived.Deep.QuietTactic
import Derived.BigQuiet
namespace Go.Proofs.Ytclpbaokadfhhaa
open Go.RowKit

namespace Cc
/-- k bytes, the lowest first, as a word of 64 bits -/
def wdL (f : Nat → UInt8) : Nat → BitVec 64
  | 0 => 0
  | k + 1 => wdL f k ||| BitVec.ofNat 64 (f k).toNat <<< (8 * k)
def half (f : Nat → UInt8) (k : Nat) : List (BitVec 64) := [wdL f (min k 8), wdL (fun i => f (8 + i)) (k - 8)]
theorem half_set (f : Nat → UInt8) (k : Nat) (hk : k < 16) : (half f k).set (k / 8) ((half f k).getD (k / 8) 0 ||| BitVec.ofNat 64 (f k).toNat <<< (k % 8 * 8)) = half f (k + 1) := by
  by_cases h : k < 8
  · have e1 : k / 8 = 0 := by omega
    have e2 : k % 8 = k := by omega
    have e3 : min k 8 = k := by omega
    have e4 : min (k + 1) 8 = k + 1 := by omega
    have e5 : k - 8 = 0 := by omega
    have e6 : k + 1 - 8 = 0 := by omega
    rw [e1, e2]; unfold half; rw [e3, e4, e5, e6, Nat.mul_comm k 8]; rfl
  · have e1 : k / 8 = 1 := by omega
    have e2 : k % 8 = k - 8 := by omega
    have e3 : min k 8 = 8 := by omega
    have e4 : min (k + 1) 8 = 8 := by omega
    have e6 : k + 1 - 8 = (k - 8) + 1 := by omega
    have e7 : f k = f (8 + (k - 8)) := by congr 1; omega
    rw [e1, e2]; unfold half; rw [e3, e4, e6, Nat.mul_comm (k - 8) 8, e7]; rfl
def words2 (f : Nat → UInt8) : List (BitVec 64) := [wdL f 8, wdL (fun i => f (8 + i)) 8]
def leaveOut (lo hi : BitVec 64) : List (BitVec 64) := [lo &&& 1152921487695413247, hi &&& 1152921487695413244]
def numberOf (lo hi above : BitVec 64) : List (BitVec 64) :=
  [lo &&& 67108863, lo >>> 26 &&& 67108863, (lo >>> 52 ||| hi <<< 12) &&& 67108863, hi >>> 14 &&& 67108863, hi >>> 40 ||| above <<< 24]
end Cc

theorem or_step (x : BitVec 64) (c : UInt8) (n : Nat) : bits BinOp.or IntKind.u64 (U x) (IntKind.u64.wrap (IntKind.u64.wrap (c.toNat : Int) * 2 ^ n)) = U (x ||| BitVec.ofNat 64 c.toNat <<< n) := by
  have h : c.toNat < 256 := c.toNat_lt
  rw [U_of c.toNat (by omega), U_wrap, U_shl, U_or]
theorem Try.info2 : (Try.prog.info? 71).map (·.size) = some 2 := by kernel_rfl

set_option maxRecDepth 100000 in
set_option maxHeartbeats 1000000 in
theorem halves_any (b off len cap : Nat) (f : Nat → UInt8) (w : World) (hl : 16 ≤ len) (hm : len ≤ 9223372036854775807)
    (hc : ∀ i, i < 16 → w.cell? ⟨b, off + i, none⟩ = some (.int .u8 (f i).toNat)) :
    Calls Try.prog 42 #[.slice (some ⟨b, off, none⟩) len cap] w fun e w' => e = .returned (.agg (Ws (Cc.words2 f))) ∧ Below w.heap.size w w' := by
  have hblt : b < w.heap.size := block_lt_of_cell (hc 0 (by omega))
  have HC : Hid (∀ i, i < 16 → w.cell? ⟨b, off + i, none⟩ = some (.int .u8 (f i).toNat)) := hc
  clear hc
  go_enter Try.func42, Try.ntmps42
  go_wp2
  rw [show (#[Value.int IntKind.u64 0, Value.int IntKind.u64 0] : Array Value) = Ws [0, 0] from rfl]
  go_loopw [5] (fun i wr => ∃ k : Nat, k ≤ 16 ∧ i = .int .i64 k ∧ Blk wr (w.heap.size + 1) (Ws (Cc.half f k)) 71 ∧ Blk wr w.heap.size (Ws [0, 0]) 71 ∧ Below w.heap.size w wr) (fun i _ => 16 - (intOf i).toNat)
  case atStart => exact ⟨0, Nat.zero_le _, rfl, heap_alloc2_new w _ _, heap_alloc2_old w _ _, ((Below.refl _ _).alloc (Nat.le_refl _) _).alloc (by simp) _⟩
  case round =>
    obtain ⟨k, hk, rfl, hb1, hb0, hbel⟩ := hrel
    by_cases hlt : k < 16
    · have h1 := HC.out k hlt
      rw [← hbel.cell (p := ⟨b, off + k, none⟩) hblt] at h1
      have h2 := hb1.cell (k / 8)
      rw [Ws_at _ _ (by show k / 8 < 2; omega)] at h2
      have h3 := hb1.frozen (k / 8)
      have HS : Hid _ := Cc.half_set f k hlt
      generalize (Cc.half f k).getD (k / 8) 0 = x at h2 HS
      have i1 : (k : Int) < 16 := by omega
      have i2 : (k : Int) / 8 < 2 := by omega
      have i3 : (0 : Int) ≤ (k : Int) / 8 := by omega
      have i4 : ((k : Int) / 8).toNat = k / 8 := by omega
      have i5 : (k : Int) < len := by omega
      go_wp2_with fail
      go_region
      go_wp2
      go_roundw
      case rel =>
        rw [or_step, hb1.set, Ws_set, show _ = _ from HS.out]
        exact ⟨k + 1, by omega, by go_num, hb1.row _, hb0.other (by omega) _, (below_setRow hbel (by omega) _).drew⟩
      case measure => simp [intOf]; omega
    · have hk8 : k = 16 := by omega
      subst hk8
      have g0 := hb0; have g1 := hb1
      unfold Blk at g0 g1
      rw [show Cc.half f 16 = Cc.words2 f from rfl] at g1
      have e1 : (Ws (Cc.words2 f)).size = 2 := by rw [Ws_size]; rfl
      have e0 : (Ws [0, 0]).size = 2 := by rw [Ws_size]; rfl
      go_wp2_with (first
        | (refine wpList_load_row rfl 71 _ rfl (w.heap.size + 1) rfl 71 _ (0, 0) _ g1 Try.underlying71 rfl (by rw [e1]; exact Try.info2) ?_)
        | (refine wpList_store_row rfl 71 _ _ rfl w.heap.size _ rfl rfl 71 _ g0 (by rw [e1]; exact Try.info2) (by rw [e1, e0]) (Ws_one _) ?_))
      refine bodyPost_ret (v := .agg (Ws (Cc.words2 f))) ?_ rfl ⟨rfl, below_setRow hbel (Nat.le_refl _) _⟩
      exact results_cell_row rfl _ _ w.heap.size 71 _ (0, 0) _ rfl (hb0.row _) Try.underlying71 rfl (by rw [e1]; exact Try.info2)

set_option maxRecDepth 100000 in
set_option maxHeartbeats 1000000 in
theorem leaveOut_any (lo hi : BitVec 64) (w : World) :
    Calls Try.prog 41 #[.agg (Ws [lo, hi])] w fun e w' => e = .returned (.agg (Ws (Cc.leaveOut lo hi))) ∧ Below w.heap.size w w' := by
  have e1 : bits BinOp.and IntKind.u64 (U lo) 1152921487695413247 = U (lo &&& 1152921487695413247) := by
    rw [show (1152921487695413247 : Int) = U 1152921487695413247 by decide, U_and]
  have e2 : bits BinOp.and IntKind.u64 (U hi) 1152921487695413244 = U (hi &&& 1152921487695413244) := by
    rw [show (1152921487695413244 : Int) = U 1152921487695413244 by decide, U_and]
  rw [show (Ws [lo, hi]) = #[.int .u64 (U lo), .int .u64 (U hi)] from rfl]
  go_enter Try.func41, Try.ntmps41
  go_wp2
  refine bodyPost_ret (v := .agg (Ws (Cc.leaveOut lo hi))) ?_ rfl ⟨rfl, ((Below.refl _ _).alloc (Nat.le_refl _) _).alloc (by simp) _⟩
  exact results_cell_row rfl _ _ (w.heap.size + 1) 71 _ (0, 0) _ rfl (heap_alloc2_new w _ _) Try.underlying71 rfl Try.info2

theorem Try.info5 : (Try.prog.info? 69).map (·.size) = some 5 := by kernel_rfl
theorem U_and26 (x : BitVec 64) : bits BinOp.and IntKind.u64 (U x) 67108863 = U (x &&& 67108863) := by
  rw [show (67108863 : Int) = U 67108863 by decide, U_and]
theorem U_shrI (x : BitVec 64) (k : Int) (n : Nat) (h : (2 : Int) ^ n = k) : U x / k = U (x >>> n) := by rw [← h, U_shr]
theorem U_shlI (x : BitVec 64) (k : Int) (n : Nat) (h : (2 : Int) ^ n = k) : IntKind.u64.wrap (U x * k) = U (x <<< n) := by rw [← h, U_shl]

/-- five cells of a row set, one after the other -/
theorem set5 {w : World} {b t : Nat} {y0 y1 y2 y3 y4 : BitVec 64} (hb : Blk w b (Ws [y0, y1, y2, y3, y4]) t) (x0 x1 x2 x3 x4 : BitVec 64) :
    ((((w.setCell ⟨b, 0, none⟩ (.int .u64 (U x0))).setCell ⟨b, 1, none⟩ (.int .u64 (U x1))).setCell ⟨b, 2, none⟩ (.int .u64 (U x2))).setCell ⟨b, 3, none⟩ (.int .u64 (U x3))).setCell ⟨b, 4, none⟩ (.int .u64 (U x4)) = w.setRow b (Ws [x0, x1, x2, x3, x4]) := by
  rw [hb.set, (hb.row _).set, setRow_setRow, (hb.row _).set, setRow_setRow, (hb.row _).set, setRow_setRow, (hb.row _).set, setRow_setRow]
  rfl

set_option maxRecDepth 100000 in
set_option maxHeartbeats 1000000 in
theorem numberOf_any (lo hi ab : BitVec 64) (w : World) :
    Calls Try.prog 40 #[.agg (Ws [lo, hi]), .int .u64 (U ab)] w fun e w' => e = .returned (.agg (Ws (Cc.numberOf lo hi ab))) ∧ Below w.heap.size w w' := by
  have a1 := U_and26 lo
  have a2 : bits BinOp.and IntKind.u64 (U lo / 67108864) 67108863 = U (lo >>> 26 &&& 67108863) := by rw [U_shrI lo 67108864 26 rfl, U_and26]
  have a3 : bits BinOp.and IntKind.u64 (bits BinOp.or IntKind.u64 (U lo / 4503599627370496) (IntKind.u64.wrap (U hi * 4096))) 67108863 = U ((lo >>> 52 ||| hi <<< 12) &&& 67108863) := by
    rw [U_shrI lo 4503599627370496 52 rfl, U_shlI hi 4096 12 rfl, U_or, U_and26]
  have a4 : bits BinOp.and IntKind.u64 (U hi / 16384) 67108863 = U (hi >>> 14 &&& 67108863) := by rw [U_shrI hi 16384 14 rfl, U_and26]
  have a5 : bits BinOp.or IntKind.u64 (U hi / 1099511627776) (IntKind.u64.wrap (U ab * 16777216)) = U (hi >>> 40 ||| ab <<< 24) := by
    rw [U_shrI hi 1099511627776 40 rfl, U_shlI ab 16777216 24 rfl, U_or]
  have HR : Hid (Cc.numberOf lo hi ab = [lo &&& 67108863, lo >>> 26 &&& 67108863, (lo >>> 52 ||| hi <<< 12) &&& 67108863, hi >>> 14 &&& 67108863, hi >>> 40 ||| ab <<< 24]) := by
    have : Cc.numberOf lo hi ab = [lo &&& 67108863, lo >>> 26 &&& 67108863, (lo >>> 52 ||| hi <<< 12) &&& 67108863, hi >>> 14 &&& 67108863, hi >>> 40 ||| ab <<< 24] := rfl
    exact this
  generalize Cc.numberOf lo hi ab = R at HR ⊢
  generalize lo &&& 67108863 = x0 at a1 HR
  generalize lo >>> 26 &&& 67108863 = x1 at a2 HR
  generalize (lo >>> 52 ||| hi <<< 12) &&& 67108863 = x2 at a3 HR
  generalize hi >>> 14 &&& 67108863 = x3 at a4 HR
  generalize hi >>> 40 ||| ab <<< 24 = x4 at a5 HR
  rw [show (Ws [lo, hi]) = #[.int .u64 (U lo), .int .u64 (U hi)] from rfl]
  go_enter Try.func40, Try.ntmps40
  go_wp2_with fail
  go_quiet (fail)
  have hb : ∀ n, Blk (((w.alloc (.cells #[.int .u64 (U lo), .int .u64 (U hi)] 71)).alloc (.cells #[.int .u64 0, .int .u64 0, .int .u64 0, .int .u64 0, .int .u64 0] 69)).drewN n) (w.heap.size + 1) (Ws [0, 0, 0, 0, 0]) 69 := fun n => heap_alloc2_new w _ _
  have hbel : ∀ n, Below w.heap.size w (((w.alloc (.cells #[.int .u64 (U lo), .int .u64 (U hi)] 71)).alloc (.cells #[.int .u64 0, .int .u64 0, .int .u64 0, .int .u64 0, .int .u64 0] 69)).drewN n) := fun n => below_drewN (((Below.refl _ _).alloc (Nat.le_refl _) _).alloc (by simp) _) _
  go_wp2
  rw [set5 (hb _)]
  refine bodyPost_ret (v := .agg (Ws [x0, x1, x2, x3, x4])) ?_ rfl ⟨by rw [show R = _ from HR.out], below_setRow (hbel _) (by omega) _⟩
  exact results_cell_row rfl _ _ (w.heap.size + 1) 69 _ (0, 0) _ rfl ((hb _).row _) Try.underlying69 rfl Try.info5

end Go.Proofs.Ytclpbaokadfhhaa
