/- Contracts of scalar's modulus, onlyIf, Bit. -/
import Derived.Test.YtclpbaokadfhhaaDoorFw
import Derived.Test.YtclpbaokadfhhaaDoorSc
import Derived.Shelf.Spec.BitsCarry
namespace Go.Proofs.YtclpbaokadfhhaaDoor
open Go.RowKit

theorem Tryd.infoS4 : (Tryd.prog.info? 52).map (·.size) = some 4 := by kernel_rfl
theorem Tryd.infoM4 : (Tryd.prog.info? 51).map (·.size) = some 4 := by kernel_rfl
theorem SZ4 : (#[.int .u64 0, .int .u64 0, .int .u64 0, .int .u64 0] : Array Value) = Ws [0, 0, 0, 0] := rfl
theorem Scells {w : World} {b t : Nat} {x0 x1 x2 x3 : BitVec 64} (h : Blk w b (Ws [x0, x1, x2, x3]) t) :
    w.cell? ⟨b, 0, none⟩ = some (.int .u64 (U x0)) ∧ w.cell? ⟨b, 1, none⟩ = some (.int .u64 (U x1)) ∧ w.cell? ⟨b, 2, none⟩ = some (.int .u64 (U x2)) ∧ w.cell? ⟨b, 3, none⟩ = some (.int .u64 (U x3)) :=
  ⟨h.cell 0, h.cell 1, h.cell 2, h.cell 3⟩
theorem S_sub64 (x y b : BitVec 64) (h : b.toNat ≤ 1) (w : World) :
    (callFunc 81 #[.int .u64 (U x), .int .u64 (U y), .int .u64 (U b)]).run Tryd.prog w = .ok (.value (.tuple #[.int .u64 (U (x - y - b)), .int .u64 (U (Sc.less x y b))])) w := by
  have e := run_sub64 (P := Tryd.prog) x.toNat y.toNat b.toNat h w
  rw [run_callFunc_extern Tryd.func81 (by kernel_rfl) (by kernel_rfl) (by kernel_rfl) (e := sub64Entry) (by kernel_rfl)]
  rw [show U x = (x.toNat : Int) from rfl, show U y = (y.toNat : Int) from rfl, show U b = (b.toNat : Int) from rfl, e]
  have hx := x.isLt; have hy := y.isLt
  simp only [Result.andThen]
  have e1 : (((x.toNat + 18446744073709551616 - y.toNat - b.toNat) % 18446744073709551616 : Nat) : Int) = U (x - y - b) := by
    unfold U; rw [BitVec.toNat_sub, BitVec.toNat_sub]; omega
  have e2 : ((if x.toNat < y.toNat + b.toNat then 1 else 0 : Nat) : Int) = U (Sc.less x y b) := by
    unfold Sc.less; split <;> rfl
  rw [e1, e2]

set_option maxRecDepth 100000 in
set_option maxHeartbeats 1000000 in
theorem S_modulus (w : World) : Calls Tryd.prog 80 #[] w fun e w' => e = .returned (.agg (Ws Sc.md)) ∧ Below w.heap.size w w' := by
  go_enter Tryd.func80, Tryd.ntmps80
  go_wp2
  refine bodyPost_ret (v := .agg (Ws Sc.md)) ?_ rfl ⟨rfl, (Below.refl _ _).alloc (Nat.le_refl _) _⟩
  exact results_cell_row rfl _ _ w.heap.size 51 (Ws Sc.md) (0, 0) _ rfl (Blk.new w (Ws Sc.md) _) Tryd.underlying51 rfl Tryd.infoM4

theorem S_and1 (x : BitVec 64) : bits BinOp.and IntKind.u64 (U x) 1 = U (x &&& 1) := U_and x 1

set_option maxRecDepth 100000 in
set_option maxHeartbeats 1000000 in
theorem S_bit (a : List (BitVec 64)) (k : Nat) (w : World) (ha : a.length = 4) (hk : k < 256) :
    Calls Tryd.prog 58 #[.agg (Ws a), .int .i64 k] w fun e w' => e = .returned (.int .u64 (U (Sc.bit a k))) ∧ Below w.heap.size w w' := by
  have sa : (Ws a).size = 4 := by rw [Ws_size, ha]
  have hb := Blk.new w (Ws a) 52
  have c1 := hb.cell (k / 64)
  rw [Ws_at _ _ (by omega)] at c1
  have HE : Hid (Sc.bit a k = (a.getD (k / 64) 0 >>> (k % 64)) &&& 1) := by
    have : Sc.bit a k = (a.getD (k / 64) 0 >>> (k % 64)) &&& 1 := rfl
    exact this
  generalize Sc.bit a k = R at HE ⊢
  generalize a.getD (k / 64) 0 = x at c1 HE
  have sh : U x / 2 ^ (k % 64) = U (x >>> (k % 64)) := U_shr x (k % 64)
  have an := S_and1 (x >>> (k % 64))
  have hbel : Below w.heap.size w (w.alloc (.cells (Ws a) 52)) := (Below.refl _ _).alloc (Nat.le_refl _) _
  clear hb
  go_enter Tryd.func58, Tryd.ntmps58
  go_wp2
  go_ret
  exact ⟨by rw [show R = _ from HE.out]; rfl, hbel⟩

set_option maxRecDepth 100000 in
set_option maxHeartbeats 1000000 in
theorem S_onlyIf (a : List (BitVec 64)) (bit : BitVec 64) (w : World) (ha : a.length = 4) :
    Calls Tryd.prog 64 #[.agg (Ws a), .int .u64 (U bit)] w fun e w' => e = .returned (.agg (Ws (Sc.onlyIf a bit))) ∧ Below w.heap.size w w' := by
  have sa : (Ws a).size = 4 := by rw [Ws_size, ha]
  have a0 := F_neg bit
  have HE : Hid (Sc.onlyIf a bit = Sc.onlyTo a (-bit) 4) := by
    have : Sc.onlyIf a bit = Sc.onlyTo a (-bit) 4 := rfl
    exact this
  generalize -bit = m at a0 HE
  generalize Sc.onlyIf a bit = R at HE ⊢
  have hb1 := Blk.alloc (Blk.new w (Ws a) 52) (.cells (Ws [0, 0, 0, 0]) 52)
  have hb2 := Blk.new (w.alloc (.cells (Ws a) 52)) (Ws [0, 0, 0, 0]) 52
  have hbel : Below w.heap.size w ((w.alloc (.cells (Ws a) 52)).alloc (.cells (Ws [0, 0, 0, 0]) 52)) := ((Below.refl _ _).alloc (Nat.le_refl _) _).alloc (by simp) _
  rw [show (w.alloc (.cells (Ws a) 52)).heap.size = w.heap.size + 1 by simp] at hb2
  go_enter Tryd.func64, Tryd.ntmps64
  go_wp2_with fail
  rw [SZ4]
  generalize (w.alloc (.cells (Ws a) 52)).alloc (.cells (Ws [0, 0, 0, 0]) 52) = w1 at hb1 hb2 hbel ⊢
  go_loopw [6] (fun i wr => ∃ k : Nat, k ≤ 4 ∧ i = .int .i64 k ∧ Blk wr w.heap.size (Ws (Sc.onlyTo a m k)) 52 ∧ Blk wr (w.heap.size + 1) (Ws [0, 0, 0, 0]) 52 ∧ Below w.heap.size w wr) (fun i _ => 4 - (intOf i).toNat)
  case atStart => exact ⟨0, by omega, rfl, hb1, hb2, hbel⟩
  case round =>
    clear hb1 hb2 hbel w1
    obtain ⟨k, hk, rfl, hb1, hb2, hbel⟩ := hrel
    by_cases hlt : k < 4
    · have c1 := hb1.cell k
      rw [Ws_at _ _ (by rw [Sc.onlyTo_length]; omega)] at c1
      have f1 := hb1.frozen k
      have HS : Hid (Sc.onlyTo a m (k + 1) = (Sc.onlyTo a m k).set k ((Sc.onlyTo a m k).getD k 0 &&& m)) := by
        have : Sc.onlyTo a m (k + 1) = (Sc.onlyTo a m k).set k ((Sc.onlyTo a m k).getD k 0 &&& m) := rfl
        exact this
      generalize (Sc.onlyTo a m k).getD k 0 = x at c1 HS
      have i1 : (k : Int) < 4 := by omega
      have a1 := U_and x m
      generalize x &&& m = d at a1 HS
      go_wp2
      go_roundw
      case rel =>
        rw [hb1.set, Ws_set]
        exact ⟨k + 1, by omega, by go_num, by rw [show Sc.onlyTo a m (k + 1) = _ from HS.out]; exact hb1.row _, hb2.other (by omega) _, below_setRow hbel (by omega) _⟩
      case measure => simp [intOf]; omega
    · have hk8 : k = 4 := by omega
      subst hk8
      have hlS : (Sc.onlyTo a m 4).length = 4 := by rw [Sc.onlyTo_length, ha]
      generalize Sc.onlyTo a m 4 = S at hb1 hlS HE
      have g0 := hb1
      unfold Blk at g0
      have sS : (Ws S).size = 4 := by rw [Ws_size, hlS]
      have hst := storeRow (l := S) hb2 (by rw [hlS]; rfl)
      go_wp2_with (first
        | (refine wpList_load_row rfl 52 _ rfl w.heap.size rfl 52 _ (0, 0) _ g0 Tryd.underlying52 rfl (by rw [sS]; exact Tryd.infoS4) ?_))
      refine bodyPost_ret (v := .agg (Ws S)) ?_ rfl ⟨by rw [show R = _ from HE.out], below_setRow hbel (by omega) _⟩
      exact results_cell_row rfl _ _ (w.heap.size + 1) 52 _ (0, 0) _ rfl (hb2.row _) Tryd.underlying52 rfl (by rw [sS]; exact Tryd.infoS4)
end Go.Proofs.YtclpbaokadfhhaaDoor
