/- Several texts as one: Sp1, Sp2, Sp3, Sp4. -/
import Derived.Test.YtclpbaokadfhhaaGreatDoorXc
import Derived.Test.YtclpbaokadfhhaaGreatDoorSc
import Derived.Shelf.Spec.BitsCarry
import Derived.Laws.BitsAllLaws
import Derived.Test.YtclpbaokadfhhaaGreatDoorXi
import Derived.Test.YtclpbaokadfhhaaGreatDoorZe
namespace Go.Proofs.YtclpbaokadfhhaaGreatDoor
open Go.RowKit

theorem Tryz.infoS4 : (Tryz.prog.info? 71).map (·.size) = some 4 := by kernel_rfl
theorem Tryz.infoM4 : (Tryz.prog.info? 70).map (·.size) = some 4 := by kernel_rfl
theorem SZ4 : (#[.int .u64 0, .int .u64 0, .int .u64 0, .int .u64 0] : Array Value) = Ws [0, 0, 0, 0] := rfl
theorem S_sub64 (x y b : BitVec 64) (h : b.toNat ≤ 1) (w : World) :
    (callFunc 227 #[.int .u64 (U x), .int .u64 (U y), .int .u64 (U b)]).run Tryz.prog w = .ok (.value (.tuple #[.int .u64 (U (x - y - b)), .int .u64 (U (Sc.less x y b))])) w := by
  have e := run_sub64 (P := Tryz.prog) x.toNat y.toNat b.toNat h w
  rw [run_callFunc_extern Tryz.func227 (by kernel_rfl) (by kernel_rfl) (by kernel_rfl) (e := sub64Entry) (by kernel_rfl)]
  rw [show U x = (x.toNat : Int) from rfl, show U y = (y.toNat : Int) from rfl, show U b = (b.toNat : Int) from rfl, e]
  have hx := x.isLt; have hy := y.isLt
  simp only [Result.andThen]
  have e1 : (((x.toNat + 18446744073709551616 - y.toNat - b.toNat) % 18446744073709551616 : Nat) : Int) = U (x - y - b) := by
    unfold U; rw [BitVec.toNat_sub, BitVec.toNat_sub]; omega
  have e2 : ((if x.toNat < y.toNat + b.toNat then 1 else 0 : Nat) : Int) = U (Sc.less x y b) := by
    unfold Sc.less; split <;> rfl
  rw [e1, e2]

set_option maxRecDepth 100000 in
set_option maxHeartbeats 1000000 in
theorem S_modulus (w : World) : Calls Tryz.prog 226 #[] w fun e w' => e = .returned (.agg (Ws Sc.md)) ∧ Below w.heap.size w w' := by
  go_enter Tryz.func226, Tryz.ntmps226
  go_wp2
  refine bodyPost_ret (v := .agg (Ws Sc.md)) ?_ rfl ⟨rfl, (Below.refl _ _).alloc (Nat.le_refl _) _⟩
  exact results_cell_row rfl _ _ w.heap.size 70 (Ws Sc.md) (0, 0) _ rfl (Blk.new w (Ws Sc.md) _) Tryz.underlying70 rfl Tryz.infoM4

theorem S_and1 (x : BitVec 64) : bits BinOp.and IntKind.u64 (U x) 1 = U (x &&& 1) := U_and x 1

set_option maxRecDepth 100000 in
set_option maxHeartbeats 1000000 in
theorem S_bit (a : List (BitVec 64)) (k : Nat) (w : World) (ha : a.length = 4) (hk : k < 256) :
    Calls Tryz.prog 176 #[.agg (Ws a), .int .i64 k] w fun e w' => e = .returned (.int .u64 (U (Sc.bit a k))) ∧ Below w.heap.size w w' := by
  have sa : (Ws a).size = 4 := by rw [Ws_size, ha]
  have hb := Blk.new w (Ws a) 71
  have c1 := hb.cell (k / 64)
  rw [Ws_at _ _ (by omega)] at c1
  have HE : Hid (Sc.bit a k = (a.getD (k / 64) 0 >>> (k % 64)) &&& 1) := by
    have : Sc.bit a k = (a.getD (k / 64) 0 >>> (k % 64)) &&& 1 := rfl
    exact this
  generalize Sc.bit a k = R at HE ⊢
  generalize a.getD (k / 64) 0 = x at c1 HE
  have sh : U x / 2 ^ (k % 64) = U (x >>> (k % 64)) := U_shr x (k % 64)
  have an := S_and1 (x >>> (k % 64))
  have hbel : Below w.heap.size w (w.alloc (.cells (Ws a) 71)) := (Below.refl _ _).alloc (Nat.le_refl _) _
  clear hb
  go_enter Tryz.func176, Tryz.ntmps176
  go_wp2
  go_ret
  exact ⟨by rw [show R = _ from HE.out]; rfl, hbel⟩

set_option maxRecDepth 100000 in
set_option maxHeartbeats 1000000 in
theorem S_onlyIf (a : List (BitVec 64)) (bit : BitVec 64) (w : World) (ha : a.length = 4) :
    Calls Tryz.prog 184 #[.agg (Ws a), .int .u64 (U bit)] w fun e w' => e = .returned (.agg (Ws (Sc.onlyIf a bit))) ∧ Below w.heap.size w w' := by
  have sa : (Ws a).size = 4 := by rw [Ws_size, ha]
  have a0 := F_neg bit
  have HE : Hid (Sc.onlyIf a bit = Sc.onlyTo a (-bit) 4) := by
    have : Sc.onlyIf a bit = Sc.onlyTo a (-bit) 4 := rfl
    exact this
  generalize -bit = m at a0 HE
  generalize Sc.onlyIf a bit = R at HE ⊢
  have hb1 := Blk.alloc (Blk.new w (Ws a) 71) (.cells (Ws [0, 0, 0, 0]) 71)
  have hb2 := Blk.new (w.alloc (.cells (Ws a) 71)) (Ws [0, 0, 0, 0]) 71
  have hbel : Below w.heap.size w ((w.alloc (.cells (Ws a) 71)).alloc (.cells (Ws [0, 0, 0, 0]) 71)) := ((Below.refl _ _).alloc (Nat.le_refl _) _).alloc (by simp) _
  rw [show (w.alloc (.cells (Ws a) 71)).heap.size = w.heap.size + 1 by simp] at hb2
  go_enter Tryz.func184, Tryz.ntmps184
  go_wp2_with fail
  rw [SZ4]
  generalize (w.alloc (.cells (Ws a) 71)).alloc (.cells (Ws [0, 0, 0, 0]) 71) = w1 at hb1 hb2 hbel ⊢
  go_loopw [6] (fun i wr => ∃ k : Nat, k ≤ 4 ∧ i = .int .i64 k ∧ Blk wr w.heap.size (Ws (Sc.onlyTo a m k)) 71 ∧ Blk wr (w.heap.size + 1) (Ws [0, 0, 0, 0]) 71 ∧ Below w.heap.size w wr) (fun i _ => 4 - (intOf i).toNat)
  case atStart => exact ⟨0, by omega, rfl, hb1, hb2, hbel⟩
  case round =>
    clear hb1 hb2 hbel w1
    obtain ⟨k, hk, rfl, hb1, hb2, hbel⟩ := hrel
    by_cases hlt : k < 4
    · have c1 := hb1.cell k
      rw [Ws_at _ _ (by rw [Sc.onlyTo_length]; omega)] at c1
      have f1 := hb1.frozen k
      have HS : Hid (Sc.onlyTo a m (k + 1) = (Sc.onlyTo a m k).set k ((Sc.onlyTo a m k).getD k 0 &&& m)) := by
        have : Sc.onlyTo a m (k + 1) = (Sc.onlyTo a m k).set k ((Sc.onlyTo a m k).getD k 0 &&& m) := rfl
        exact this
      generalize (Sc.onlyTo a m k).getD k 0 = x at c1 HS
      have i1 : (k : Int) < 4 := by omega
      have a1 := U_and x m
      generalize x &&& m = d at a1 HS
      go_wp2
      go_roundw
      case rel =>
        rw [hb1.set, Ws_set]
        exact ⟨k + 1, by omega, by go_num, by rw [show Sc.onlyTo a m (k + 1) = _ from HS.out]; exact hb1.row _, hb2.other (by omega) _, below_setRow hbel (by omega) _⟩
      case measure => simp [intOf]; omega
    · have hk8 : k = 4 := by omega
      subst hk8
      have hlS : (Sc.onlyTo a m 4).length = 4 := by rw [Sc.onlyTo_length, ha]
      generalize Sc.onlyTo a m 4 = S at hb1 hlS HE
      have g0 := hb1
      unfold Blk at g0
      have sS : (Ws S).size = 4 := by rw [Ws_size, hlS]
      have hst := storeRow (l := S) hb2 (by rw [hlS]; rfl)
      go_wp2_with (first
        | (refine wpList_load_row rfl 71 _ rfl w.heap.size rfl 71 _ (0, 0) _ g0 Tryz.underlying71 rfl (by rw [sS]; exact Tryz.infoS4) ?_))
      refine bodyPost_ret (v := .agg (Ws S)) ?_ rfl ⟨by rw [show R = _ from HE.out], below_setRow hbel (by omega) _⟩
      exact results_cell_row rfl _ _ (w.heap.size + 1) 71 _ (0, 0) _ rfl (hb2.row _) Tryz.underlying71 rfl (by rw [sS]; exact Tryz.infoS4)
end Go.Proofs.YtclpbaokadfhhaaGreatDoor

namespace Go.Proofs.YtclpbaokadfhhaaGreatDoor
open Go.RowKit

theorem S_index4' (x0 x1 x2 x3 : BitVec 64) (k : Nat) (hk : k < 4) (w : World) :
    (Instr.index 70 (.agg (Ws [x0, x1, x2, x3])) (.int .i64 k)).run Tryz.prog w = .ok (.int .u64 (U ([x0, x1, x2, x3].getD k 0))) w := by
  obtain rfl | rfl | rfl | rfl : k = 0 ∨ k = 1 ∨ k = 2 ∨ k = 3 := by omega
  all_goals kernel_rfl
theorem S_andNot (x m : BitVec 64) : bits BinOp.andNot IntKind.u64 (U x) (U m) = U (x &&& ~~~m) := by
  unfold U
  rw [u64_andNot_nat _ _ x.isLt m.isLt, BitVec.toNat_and, BitVec.toNat_not]

set_option maxRecDepth 100000 in
set_option maxHeartbeats 2000000 in
theorem S_lowered (a : List (BitVec 64)) (w : World) (ha : a.length = 4) :
    Calls Tryz.prog 183 #[.agg (Ws a)] w fun e w' => e = .returned (.agg (Ws (Sc.lowered a))) ∧ Below w.heap.size w w' := by
  have sa : (Ws a).size = 4 := by rw [Ws_size, ha]
  have HE : Hid (Sc.lowered a = Sc.pickTo a (Sc.subTo a 4).1 (-(Sc.subTo a 4).2) 4) := by
    have : Sc.lowered a = Sc.pickTo a (Sc.subTo a 4).1 (-(Sc.subTo a 4).2) 4 := rfl
    exact this
  generalize Sc.lowered a = R at HE ⊢
  have H1 : Hid (∀ wx : World, Calls Tryz.prog 226 #[] wx fun e w' => e = .returned (.agg (Ws Sc.md)) ∧ Below wx.heap.size wx w') := S_modulus
  have hb1 := Blk.alloc (Blk.alloc (Blk.new w (Ws a) 71) (.cells (Ws [0, 0, 0, 0]) 71)) (.cells (Ws [0, 0, 0, 0]) 71)
  have hb2 := Blk.alloc (Blk.new (w.alloc (.cells (Ws a) 71)) (Ws [0, 0, 0, 0]) 71) (.cells (Ws [0, 0, 0, 0]) 71)
  have hb3 := Blk.new ((w.alloc (.cells (Ws a) 71)).alloc (.cells (Ws [0, 0, 0, 0]) 71)) (Ws [0, 0, 0, 0]) 71
  have hbel : Below w.heap.size w (((w.alloc (.cells (Ws a) 71)).alloc (.cells (Ws [0, 0, 0, 0]) 71)).alloc (.cells (Ws [0, 0, 0, 0]) 71)) :=
    (((Below.refl _ _).alloc (Nat.le_refl _) _).alloc (by simp) _).alloc (by simp; omega) _
  rw [show (w.alloc (.cells (Ws a) 71)).heap.size = w.heap.size + 1 by simp] at hb2
  rw [show ((w.alloc (.cells (Ws a) 71)).alloc (.cells (Ws [0, 0, 0, 0]) 71)).heap.size = w.heap.size + 1 + 1 by simp] at hb3
  go_enter Tryz.func183, Tryz.ntmps183
  go_wp2_with fail
  rw [SZ4]
  generalize ((w.alloc (.cells (Ws a) 71)).alloc (.cells (Ws [0, 0, 0, 0]) 71)).alloc (.cells (Ws [0, 0, 0, 0]) 71) = w1 at hb1 hb2 hb3 hbel ⊢
  refine (H1.out _).mono ?_
  rintro e w2 ⟨rfl, k2⟩
  replace hb1 := hb1.keep k2
  replace hb2 := hb2.keep k2
  replace hb3 := hb3.keep k2
  replace hbel := hbel.trans (k2.mono hbel.size)
  clear k2 H1
  go_wp2_with fail
  go_loopw [4, 10] (fun o i wr => ∃ k : Nat, k ≤ 4 ∧ i = .int .i64 k ∧ o = .int .u64 (U (Sc.subTo a k).2) ∧ Blk wr (w.heap.size + 1 + 1) (Ws (Sc.subTo a k).1) 71 ∧ Blk wr w.heap.size (Ws a) 71 ∧ Blk wr (w.heap.size + 1) (Ws [0, 0, 0, 0]) 71 ∧ Below w.heap.size w wr) (fun _ i _ => 4 - (intOf i).toNat)
  case atStart => exact ⟨0, by omega, rfl, rfl, hb3, hb1, hb2, hbel⟩
  case round =>
    clear hb1 hb2 hb3 hbel w2
    obtain ⟨k, hk, rfl, rfl, hb3, hb1, hb2, hbel⟩ := hrel
    have hl3 : (Sc.subTo a k).1.length = 4 := Sc.subTo_length a k
    by_cases hlt : k < 4
    · have c1 := hb1.cell k
      rw [Ws_at _ _ (by omega)] at c1
      have f3 := hb3.frozen k
      have c3 := hb3.cell k
      rw [Ws_at _ _ (by omega)] at c3
      have HS : Hid (Sc.subTo a (k + 1) = ((Sc.subTo a k).1.set k (a.getD k 0 - Sc.md.getD k 0 - (Sc.subTo a k).2), Sc.less (a.getD k 0) (Sc.md.getD k 0) (Sc.subTo a k).2)) := by
        have : Sc.subTo a (k + 1) = ((Sc.subTo a k).1.set k (a.getD k 0 - Sc.md.getD k 0 - (Sc.subTo a k).2), Sc.less (a.getD k 0) (Sc.md.getD k 0) (Sc.subTo a k).2) := rfl
        exact this
      have hA := S_sub64 (a.getD k 0) (Sc.md.getD k 0) (Sc.subTo a k).2 (Sc.subTo_over a k)
      have hix : ∀ wx : World, (Instr.index 70 (.agg (Ws Sc.md)) (.int .i64 k)).run Tryz.prog wx = .ok (.int .u64 (U (Sc.md.getD k 0))) wx := S_index4' _ _ _ _ k hlt
      generalize (Sc.subTo a k).1 = L at hb3 hl3 HS c3
      generalize (Sc.subTo a k).2 = o at HS hA ⊢
      generalize a.getD k 0 = x at c1 HS hA
      generalize Sc.md.getD k 0 = y at HS hA hix
      generalize x - y - o = d at HS hA
      generalize Sc.less x y o = m at HS hA
      generalize L.getD k 0 = z at c3
      have i1 : (k : Int) < 4 := by omega
      go_wp2
      go_roundw
      case rel =>
        rw [hb3.set, Ws_set]
        refine ⟨k + 1, by omega, by go_num, ?_, ?_, hb1.other (by omega) _, hb2.other (by omega) _, below_setRow hbel (by omega) _⟩
        · rw [show Sc.subTo a (k + 1) = _ from HS.out]
        · rw [show Sc.subTo a (k + 1) = _ from HS.out]; exact hb3.row _
      case measure => simp [intOf]; omega
    · have hk8 : k = 4 := by omega
      subst hk8
      rw [show ((4 : Nat) : Int) = 4 from rfl]
      have a0 := F_neg (Sc.subTo a 4).2
      generalize (Sc.subTo a 4).1 = L at hb3 hl3 HE
      generalize -(Sc.subTo a 4).2 = m at HE a0
      generalize (Sc.subTo a 4).2 = o at a0 ⊢
      go_wp2_with fail
      go_loopw [28] (fun i wr => ∃ k : Nat, k ≤ 4 ∧ i = .int .i64 k ∧ Blk wr w.heap.size (Ws (Sc.pickTo a L m k)) 71 ∧ Blk wr (w.heap.size + 1 + 1) (Ws L) 71 ∧ Blk wr (w.heap.size + 1) (Ws [0, 0, 0, 0]) 71 ∧ Below w.heap.size w wr) (fun i _ => 4 - (intOf i).toNat)
      case atStart => exact ⟨0, by omega, rfl, hb1, hb3, hb2, hbel⟩
      case round =>
        clear hb1 hb2 hb3 hbel
        obtain ⟨k, hk, rfl, hb1, hb3, hb2, hbel⟩ := hrel
        have hl1 : (Sc.pickTo a L m k).length = 4 := by rw [Sc.pickTo_length, ha]
        by_cases hlt : k < 4
        · have c1 := hb1.cell k
          rw [Ws_at _ _ (by omega)] at c1
          have c3 := hb3.cell k
          rw [Ws_at _ _ (by omega)] at c3
          have f1 := hb1.frozen k
          have HS : Hid (Sc.pickTo a L m (k + 1) = (Sc.pickTo a L m k).set k (((Sc.pickTo a L m k).getD k 0 &&& m) ||| (L.getD k 0 &&& ~~~m))) := by
            have : Sc.pickTo a L m (k + 1) = (Sc.pickTo a L m k).set k (((Sc.pickTo a L m k).getD k 0 &&& m) ||| (L.getD k 0 &&& ~~~m)) := rfl
            exact this
          generalize Sc.pickTo a L m k = A at hb1 HS hl1 c1
          generalize A.getD k 0 = x at c1 HS
          generalize L.getD k 0 = y at c3 HS
          have i1 : (k : Int) < 4 := by omega
          have a1 := U_and x m
          have a2 := S_andNot y m
          generalize x &&& m = u at a1 HS
          generalize y &&& ~~~m = v at a2 HS
          have a3 := U_or u v
          generalize u ||| v = z at a3 HS
          go_wp2_with fail
          go_region
          go_wp2
          go_roundw
          case rel =>
            rw [hb1.set, Ws_set]
            exact ⟨k + 1, by omega, by go_num, by rw [show Sc.pickTo a L m (k + 1) = _ from HS.out]; exact hb1.row _, hb3.other (by omega) _, hb2.other (by omega) _, (below_setRow hbel (by omega) _).drew⟩
          case measure => simp [intOf]; omega
        · have hk8 : k = 4 := by omega
          subst hk8
          generalize Sc.pickTo a L m 4 = S at hb1 hl1 HE
          have g0 := hb1
          unfold Blk at g0
          have sS : (Ws S).size = 4 := by rw [Ws_size, hl1]
          have hst := storeRow (l := S) hb2 (by rw [hl1]; rfl)
          go_wp2_with (first
            | (refine wpList_load_row rfl 71 _ rfl w.heap.size rfl 71 _ (0, 0) _ g0 Tryz.underlying71 rfl (by rw [sS]; exact Tryz.infoS4) ?_))
          refine bodyPost_ret (v := .agg (Ws S)) ?_ rfl ⟨by rw [show R = _ from HE.out], below_setRow hbel (by omega) _⟩
          exact results_cell_row rfl _ _ (w.heap.size + 1) 71 _ (0, 0) _ rfl (hb2.row _) Tryz.underlying71 rfl (by rw [sS]; exact Tryz.infoS4)

set_option maxRecDepth 100000 in
set_option maxHeartbeats 2000000 in
theorem S_plus (a b : List (BitVec 64)) (w : World) (ha : a.length = 4) (hb : b.length = 4) :
    Calls Tryz.prog 121 #[.agg (Ws a), .agg (Ws b)] w fun e w' => e = .returned (.agg (Ws (Sc.plus a b))) ∧ Below w.heap.size w w' := by
  have sa : (Ws a).size = 4 := by rw [Ws_size, ha]
  have sb : (Ws b).size = 4 := by rw [Ws_size, hb]
  have HE : Hid (Sc.plus a b = Sc.lowered (Sc.addTo a b 4).1) := by
    have : Sc.plus a b = Sc.lowered (Sc.addTo a b 4).1 := rfl
    exact this
  generalize Sc.plus a b = R at HE ⊢
  have hb1 := Blk.alloc (Blk.alloc (Blk.new w (Ws a) 71) (.cells (Ws b) 71)) (.cells (Ws [0, 0, 0, 0]) 71)
  have hb2 := Blk.alloc (Blk.new (w.alloc (.cells (Ws a) 71)) (Ws b) 71) (.cells (Ws [0, 0, 0, 0]) 71)
  have hb3 := Blk.new ((w.alloc (.cells (Ws a) 71)).alloc (.cells (Ws b) 71)) (Ws [0, 0, 0, 0]) 71
  have hbel : Below w.heap.size w (((w.alloc (.cells (Ws a) 71)).alloc (.cells (Ws b) 71)).alloc (.cells (Ws [0, 0, 0, 0]) 71)) :=
    (((Below.refl _ _).alloc (Nat.le_refl _) _).alloc (by simp) _).alloc (by simp; omega) _
  rw [show (w.alloc (.cells (Ws a) 71)).heap.size = w.heap.size + 1 by simp] at hb2
  rw [show ((w.alloc (.cells (Ws a) 71)).alloc (.cells (Ws b) 71)).heap.size = w.heap.size + 1 + 1 by simp] at hb3
  go_enter Tryz.func121, Tryz.ntmps121
  go_wp2_with fail
  rw [SZ4]
  generalize ((w.alloc (.cells (Ws a) 71)).alloc (.cells (Ws b) 71)).alloc (.cells (Ws [0, 0, 0, 0]) 71) = w1 at hb1 hb2 hb3 hbel ⊢
  go_loopw [5, 7] (fun o i wr => ∃ k : Nat, k ≤ 4 ∧ i = .int .i64 k ∧ o = .int .u64 (U (Sc.addTo a b k).2) ∧ Blk wr w.heap.size (Ws (Sc.addTo a b k).1) 71 ∧ Blk wr (w.heap.size + 1) (Ws b) 71 ∧ Blk wr (w.heap.size + 1 + 1) (Ws [0, 0, 0, 0]) 71 ∧ Below w.heap.size w wr) (fun _ i _ => 4 - (intOf i).toNat)
  case atStart => exact ⟨0, by omega, rfl, rfl, hb1, hb2, hb3, hbel⟩
  case round =>
    clear hb1 hb2 hb3 hbel w1
    obtain ⟨k, hk, rfl, rfl, hb1, hb2, hb3, hbel⟩ := hrel
    have hl1 : (Sc.addTo a b k).1.length = 4 := by rw [Sc.addTo_length, ha]
    by_cases hlt : k < 4
    · have c1 := hb1.cell k
      rw [Ws_at _ _ (by omega)] at c1
      have c2 := hb2.cell k
      rw [Ws_at _ _ (by omega)] at c2
      have f1 := hb1.frozen k
      have HS : Hid (Sc.addTo a b (k + 1) = ((Sc.addTo a b k).1.set k ((Sc.addTo a b k).1.getD k 0 + b.getD k 0 + (Sc.addTo a b k).2), BitVec.ofNat 64 ((((Sc.addTo a b k).1.getD k 0).toNat + (b.getD k 0).toNat + (Sc.addTo a b k).2.toNat) / 18446744073709551616))) := by
        have : Sc.addTo a b (k + 1) = ((Sc.addTo a b k).1.set k ((Sc.addTo a b k).1.getD k 0 + b.getD k 0 + (Sc.addTo a b k).2), BitVec.ofNat 64 ((((Sc.addTo a b k).1.getD k 0).toNat + (b.getD k 0).toNat + (Sc.addTo a b k).2.toNat) / 18446744073709551616)) := rfl
        exact this
      have hA := F_add64 ((Sc.addTo a b k).1.getD k 0) (b.getD k 0) (Sc.addTo a b k).2 (Sc.addTo_over a b k)
      generalize (Sc.addTo a b k).1 = L at hb1 hl1 HS c1 hA
      generalize (Sc.addTo a b k).2 = o at HS hA ⊢
      generalize L.getD k 0 = x at c1 HS hA
      generalize b.getD k 0 = y at c2 HS hA
      generalize x + y + o = d at HS hA
      generalize BitVec.ofNat 64 ((x.toNat + y.toNat + o.toNat) / 18446744073709551616) = m at HS hA
      have i1 : (k : Int) < 4 := by omega
      go_wp2_with fail
      go_region
      go_wp2
      go_roundw
      case rel =>
        rw [hb1.set, Ws_set]
        refine ⟨k + 1, by omega, by go_num, ?_, ?_, hb2.other (by omega) _, hb3.other (by omega) _, (below_setRow hbel (by omega) _).drew⟩
        · rw [show Sc.addTo a b (k + 1) = _ from HS.out]
        · rw [show Sc.addTo a b (k + 1) = _ from HS.out]; exact hb1.row _
      case measure => simp [intOf]; omega
    · have hk8 : k = 4 := by omega
      subst hk8
      have H1 : Hid (∀ wx : World, Calls Tryz.prog 183 #[.agg (Ws (Sc.addTo a b 4).1)] wx fun e w' => e = .returned (.agg (Ws (Sc.lowered (Sc.addTo a b 4).1))) ∧ Below wx.heap.size wx w') := fun wx => S_lowered _ wx hl1
      have hlR : (Sc.lowered (Sc.addTo a b 4).1).length = 4 := by rw [Sc.lowered_length, hl1]
      generalize Sc.lowered (Sc.addTo a b 4).1 = T at HE H1 hlR
      generalize (Sc.addTo a b 4).1 = S at hb1 hl1 H1
      have g0 := hb1
      unfold Blk at g0
      have sS : (Ws S).size = 4 := by rw [Ws_size, hl1]
      have sT : (Ws T).size = 4 := by rw [Ws_size, hlR]
      go_wp2_with (first
        | (refine wpList_load_row rfl 71 _ rfl w.heap.size rfl 71 _ (0, 0) _ g0 Tryz.underlying71 rfl (by rw [sS]; exact Tryz.infoS4) ?_))
      refine (H1.out _).mono ?_
      rintro e w2 ⟨rfl, k2⟩
      replace hb3 := hb3.keep k2
      replace hbel := hbel.trans (k2.mono hbel.size)
      have hst := storeRow (l := T) hb3 (by rw [hlR]; rfl)
      go_wp2
      refine bodyPost_ret (v := .agg (Ws T)) ?_ rfl ⟨by rw [show R = _ from HE.out], below_setRow hbel (by omega) _⟩
      exact results_cell_row rfl _ _ (w.heap.size + 1 + 1) 71 _ (0, 0) _ rfl (hb3.row _) Tryz.underlying71 rfl (by rw [sT]; exact Tryz.infoS4)
end Go.Proofs.YtclpbaokadfhhaaGreatDoor

namespace Go.Proofs.YtclpbaokadfhhaaGreatDoor
open Go.RowKit

set_option maxRecDepth 100000 in
set_option maxHeartbeats 4000000 in
theorem S_times (a b : List (BitVec 64)) (w : World) (ha : a.length = 4) (hb : b.length = 4) :
    Calls Tryz.prog 123 #[.agg (Ws a), .agg (Ws b)] w fun e w' => e = .returned (.agg (Ws (Sc.times a b))) ∧ Below w.heap.size w w' := by
  have sa : (Ws a).size = 4 := by rw [Ws_size, ha]
  have sb : (Ws b).size = 4 := by rw [Ws_size, hb]
  have HE : Hid (Sc.times a b = Sc.timesTo a b 253) := by
    have : Sc.times a b = Sc.timesTo a b 253 := rfl
    exact this
  generalize Sc.times a b = R at HE ⊢
  have h1 := (WS.start (w := w)).new (Ws a) 71
  have h2 := h1.new (Ws b) 71
  rw [show (w.alloc (.cells (Ws a) 71)).heap.size = w.heap.size + 1 by simp] at h2
  have h3 := h2.new (Ws [0, 0, 0, 0]) 71
  rw [show ((w.alloc (.cells (Ws a) 71)).alloc (.cells (Ws b) 71)).heap.size = w.heap.size + 1 + 1 by simp] at h3
  have hW := h3.new (Ws [0, 0, 0, 0]) 71
  rw [show (((w.alloc (.cells (Ws a) 71)).alloc (.cells (Ws b) 71)).alloc (.cells (Ws [0, 0, 0, 0]) 71)).heap.size = w.heap.size + 1 + 1 + 1 by simp] at hW
  clear h1 h2 h3
  go_enter Tryz.func123, Tryz.ntmps123
  go_wp2_with fail
  rw [SZ4]
  generalize (((w.alloc (.cells (Ws a) 71)).alloc (.cells (Ws b) 71)).alloc (.cells (Ws [0, 0, 0, 0]) 71)).alloc (.cells (Ws [0, 0, 0, 0]) 71) = w1 at hW ⊢
  go_loopw [6] (fun c wr => ∃ n : Nat, n ≤ 253 ∧ c = .int .i64 (252 - (n : Int)) ∧ WS w w.heap.size [(w.heap.size + 1 + 1 + 1, Ws (Sc.timesTo a b n), 71), (w.heap.size + 1 + 1, Ws [0, 0, 0, 0], 71), (w.heap.size + 1, Ws b, 71), (w.heap.size, Ws a, 71)] wr) (fun c _ => ((intOf c) + 1).toNat)
  case atStart => exact ⟨0, by omega, rfl, hW⟩
  case round =>
    clear hW
    obtain ⟨n, hn, rfl, hW⟩ := hrel
    have hlS := Sc.timesTo_length a b n
    by_cases hlt : n < 253
    · have HS : Hid (Sc.timesTo a b (n + 1) = Sc.plus (Sc.plus (Sc.timesTo a b n) (Sc.timesTo a b n)) (Sc.onlyIf a (Sc.bit b (252 - n)))) := by
        have : Sc.timesTo a b (n + 1) = Sc.plus (Sc.plus (Sc.timesTo a b n) (Sc.timesTo a b n)) (Sc.onlyIf a (Sc.bit b (252 - n))) := by rw [Sc.timesTo]
        exact this
      obtain ⟨at0, hat⟩ : ∃ at0 : Nat, at0 = 252 - n := ⟨_, rfl⟩
      rw [← hat] at HS
      have hc : (252 - (n : Int)) = (at0 : Int) := by omega
      rw [hc]
      have hat2 : at0 ≤ 252 := by omega
      clear hat
      replace hc : Hid (252 - (n : Int) = (at0 : Int)) := hc
      have i3 : (0 : Int) ≤ (at0 : Int) := by omega
      generalize hS : Sc.timesTo a b n = S at hW hlS HS
      replace hS : Hid (Sc.timesTo a b n = S) := hS
      have H1 : Hid (∀ wx : World, Calls Tryz.prog 121 #[.agg (Ws S), .agg (Ws S)] wx fun e w' => e = .returned (.agg (Ws (Sc.plus S S))) ∧ Below wx.heap.size wx w') := fun wx => S_plus S S wx hlS hlS
      have lP : (Sc.plus S S).length = 4 := by rw [Sc.plus_length, hlS]
      have H2 : Hid (∀ wx : World, Calls Tryz.prog 176 #[.agg (Ws b), .int .i64 (at0 : Int)] wx fun e w' => e = .returned (.int .u64 (U (Sc.bit b at0))) ∧ Below wx.heap.size wx w') := fun wx => S_bit b at0 wx hb (by omega)
      generalize Sc.plus S S = P at H1 lP HS
      generalize Sc.bit b at0 = t at H2 HS
      have H3 : Hid (∀ wx : World, Calls Tryz.prog 184 #[.agg (Ws a), .int .u64 (U t)] wx fun e w' => e = .returned (.agg (Ws (Sc.onlyIf a t))) ∧ Below wx.heap.size wx w') := fun wx => S_onlyIf a t wx ha
      have lO : (Sc.onlyIf a t).length = 4 := by rw [Sc.onlyIf_length, ha]
      generalize Sc.onlyIf a t = O at H3 lO HS
      have H4 : Hid (∀ wx : World, Calls Tryz.prog 121 #[.agg (Ws P), .agg (Ws O)] wx fun e w' => e = .returned (.agg (Ws (Sc.plus P O))) ∧ Below wx.heap.size wx w') := fun wx => S_plus P O wx lP lO
      have lT : (Sc.plus P O).length = 4 := by rw [Sc.plus_length, lP]
      generalize Sc.plus P O = T at H4 lT HS
      have sS : (Ws S).size = 4 := by rw [Ws_size, hlS]
      have sT : (Ws T).size = 4 := by rw [Ws_size, lT]
      clear lP lO
      go_wp2_with fail
      refine wp_region_M (S := WS w (w.heap.size) [(w.heap.size + 1 + 1 + 1, Ws S, 71), (w.heap.size + 1 + 1, Ws [0, 0, 0, 0], 71), (w.heap.size + 1, Ws b, 71), (w.heap.size, Ws a, 71)]) (ls := [9]) (by kernel_rfl) ?_
      have hW0 : WS w (w.heap.size) [(w.heap.size + 1 + 1 + 1, Ws S, 71), (w.heap.size + 1 + 1, Ws [0, 0, 0, 0], 71), (w.heap.size + 1, Ws b, 71), (w.heap.size, Ws a, 71)] wr.drew := hW.drew
      clear hW
      generalize World.drew wr = rd at hW0 ⊢
      refine wpAnyM_take (i := 0) (dst := some 11) (v := .agg (Ws S)) rfl rfl (by kernel_rfl) (by kernel_rfl) (by kernel_rfl) (by kernel_rfl) (by kernel_rfl) (fun _ _ _ h => h) (Or.inl ⟨by rfl, ?hyr0⟩) hW0 ?rer0
      case hyr0 => exact fun wx hSx => exec_load_row 71 _ rfl (w.heap.size + 1 + 1 + 1) rfl 71 _ (0, 0) _ (hSx.get 0 rfl) Tryz.underlying71 rfl (by rw [sS]; exact Tryz.infoS4)
      refine wpAnyM_take (i := 1) (dst := some 12) (v := .agg (Ws S)) rfl rfl (by kernel_rfl) (by kernel_rfl) (by kernel_rfl) (by kernel_rfl) (by kernel_rfl) (fun _ _ _ h => h) (Or.inl ⟨by rfl, ?hyr1⟩) hW0 ?rer1
      case hyr1 => exact fun wx hSx => exec_load_row 71 _ rfl (w.heap.size + 1 + 1 + 1) rfl 71 _ (0, 0) _ (hSx.get 0 rfl) Tryz.underlying71 rfl (by rw [sS]; exact Tryz.infoS4)
      refine wpAnyM_take (i := 3) (dst := some 14) (v := .agg (Ws a)) rfl rfl (by kernel_rfl) (by kernel_rfl) (by kernel_rfl) (by kernel_rfl) (by kernel_rfl) (fun _ _ _ h => h) (Or.inl ⟨by rfl, ?hyr3⟩) hW0 ?rer3
      case hyr3 => exact fun wx hSx => exec_load_row 71 _ rfl (w.heap.size) rfl 71 _ (0, 0) _ (hSx.get 3 rfl) Tryz.underlying71 rfl (by rw [sa]; exact Tryz.infoS4)
      simp only [Act.put, List.setIfInBounds_toArray, List.set_cons_zero, List.set_cons_succ]
      refine wpAnyM_take (i := 4) (dst := some 15) (v := .agg (Ws b)) rfl rfl (by kernel_rfl) (by kernel_rfl) (by kernel_rfl) (by kernel_rfl) (by kernel_rfl) (fun _ _ _ h => h) (Or.inl ⟨by rfl, ?hyr4⟩) hW0 ?rer4
      case hyr4 => exact fun wx hSx => exec_load_row 71 _ rfl (w.heap.size + 1) rfl 71 _ (0, 0) _ (hSx.get 2 rfl) Tryz.underlying71 rfl (by rw [sb]; exact Tryz.infoS4)
      refine wpAnyM_take (i := 5) (dst := some 16) (v := ?vr5) rfl rfl (by kernel_rfl) (by kernel_rfl) (by kernel_rfl) (by kernel_rfl) (by kernel_rfl) (fun _ _ _ h => h) (Or.inl ⟨by rfl, ?hyr5⟩) hW0 ?rer5
      case hyr5 => (intro wx hSx; clear hSx; go_simp; try (with_reducible rfl))
      try simp only [Act.put, List.setIfInBounds_toArray, List.set_cons_zero, List.set_cons_succ]
      refine wpAnyM_one (i := 2) (by kernel_rfl) rfl (fun K hK => ?_)
      go_simp
      go_wp2_with (go_at_call 121; refine (H1.out _).mono ?_; rintro e rx0 ⟨rfl, k0⟩)
      have hW1 := hW0.keep k0
      refine hK.out _ _ hW1 ?_
      try simp only [Act.put, List.setIfInBounds_toArray, List.set_cons_zero, List.set_cons_succ]
      clear hK K k0 hW0
      refine wpAnyM_one (i := 6) (by kernel_rfl) rfl (fun K hK => ?_)
      go_simp
      go_wp2_with (go_at_call 176; refine (H2.out _).mono ?_; rintro e rx1 ⟨rfl, k0⟩)
      have hW2 := hW1.keep k0
      refine hK.out _ _ hW2 ?_
      try simp only [Act.put, List.setIfInBounds_toArray, List.set_cons_zero, List.set_cons_succ]
      clear hK K k0 hW1
      refine wpAnyM_one (i := 7) (by kernel_rfl) rfl (fun K hK => ?_)
      go_simp
      go_wp2_with (go_at_call 184; refine (H3.out _).mono ?_; rintro e rx2 ⟨rfl, k0⟩)
      have hW3 := hW2.keep k0
      refine hK.out _ _ hW3 ?_
      try simp only [Act.put, List.setIfInBounds_toArray, List.set_cons_zero, List.set_cons_succ]
      clear hK K k0 hW2
      refine wpAnyM_one (i := 8) (by kernel_rfl) rfl (fun K hK => ?_)
      go_simp
      go_wp2_with (go_at_call 121; refine (H4.out _).mono ?_; rintro e rx3 ⟨rfl, k0⟩)
      have hW4 := hW3.keep k0
      refine hK.out _ _ hW4 ?_
      try simp only [Act.put, List.setIfInBounds_toArray, List.set_cons_zero, List.set_cons_succ]
      clear hK K k0 hW3
      refine wpAnyM_late (i := 9) (by kernel_rfl) rfl rfl (fun K hK => ?_)
      have hst := storeRow (l := T) (hW4.get 0 rfl) (by rw [sS, lT])
      go_simp
      refine hK.out _ _ ?_
      clear hK K hst
      replace hW4 := hW4.upd (w.heap.size + 1 + 1 + 1) (Ws T) 71 [(w.heap.size + 1 + 1 + 1, Ws T, 71), (w.heap.size + 1 + 1, Ws [0, 0, 0, 0], 71), (w.heap.size + 1, Ws b, 71), (w.heap.size, Ws a, 71)] ⟨_, List.mem_of_getElem? (i := 0) rfl⟩ (by intro x hx; simp only [List.mem_cons, List.not_mem_nil, or_false] at hx; rcases hx with rfl | rfl | rfl | rfl <;> first | exact Or.inl rfl | exact Or.inr ⟨by simp, by dsimp only; omega⟩)
      generalize rx3.setRow (w.heap.size + 1 + 1 + 1) (Ws T) = ry0 at hW4 ⊢
      refine wpAnyM_done (by kernel_rfl) ?_ _
      go_wp2
      go_roundw
      case rel =>
        refine ⟨n + 1, by omega, by have := hc.out; go_num, ?_⟩
        rw [show Sc.timesTo a b (n + 1) = _ from HS.out]
        exact hW4
      case measure => have := hc.out; simp [intOf]; try omega
    · have hk8 : n = 253 := by omega
      subst hk8
      generalize Sc.timesTo a b 253 = S at hW hlS HE
      have g0 := hW.get 0 rfl
      have g1 := hW.get 1 rfl
      dsimp only at g0 g1
      have hst := storeRow (l := S) g1 (by rw [hlS]; rfl)
      have sS : (Ws S).size = 4 := by rw [Ws_size, hlS]
      have hg1 := g1
      unfold Blk at g0
      go_wp2_with (first
        | (refine wpList_load_row rfl 71 _ rfl (w.heap.size + 1 + 1 + 1) rfl 71 _ (0, 0) _ g0 Tryz.underlying71 rfl (by rw [sS]; exact Tryz.infoS4) ?_))
      refine bodyPost_ret (v := .agg (Ws S)) ?_ rfl ⟨by rw [show R = _ from HE.out], below_setRow hW.below (by omega) _⟩
      exact results_cell_row rfl _ _ (w.heap.size + 1 + 1) 71 _ (0, 0) _ rfl (hg1.row _) Tryz.underlying71 rfl (by rw [sS]; exact Tryz.infoS4)
end Go.Proofs.YtclpbaokadfhhaaGreatDoor

namespace Go.Proofs.YtclpbaokadfhhaaGreatDoor
open Go.RowKit

theorem S_bitRun (s : List UInt8) (k : Nat) : bits BinOp.and IntKind.u64 (((s.getD (k / 8) 0).toNat : Int) / 2 ^ (k % 8)) 1 = U (Sc.bitOf s k) := by
  generalize hx : s.getD (k / 8) 0 = x
  have h1 : x.toNat / 2 ^ (k % 8) < 256 := Nat.lt_of_le_of_lt (Nat.div_le_self _ _) x.toNat_lt
  have e1 : (x.toNat : Int) / 2 ^ (k % 8) = ((x.toNat / 2 ^ (k % 8) : Nat) : Int) := by simp
  unfold Sc.bitOf
  rw [hx, e1]
  generalize x.toNat / 2 ^ (k % 8) = n at h1
  have e3 : (n : Int) = U (BitVec.ofNat 64 n) := U_of n (by omega)
  have e4 : (1 : Int) = U 1 := rfl
  rw [e3, e4, U_and]
  unfold U
  congr 1
  rw [BitVec.toNat_and, BitVec.toNat_ofNat, BitVec.toNat_ofNat, Nat.mod_eq_of_lt (by omega), Nat.mod_eq_of_lt (by omega)]
  show n &&& 1 = n % 2
  exact Nat.and_one_is_mod n

set_option maxRecDepth 100000 in
set_option maxHeartbeats 4000000 in
theorem S_of (s : ByteArray) (w : World) (hs : s.size ≤ 1000000) :
    Calls Tryz.prog 114 #[.string s] w fun e w' => e = .returned (.agg (Ws (Sc.of s.data.toList))) ∧ Below w.heap.size w w' := by
  have hsl : s.data.toList.length = s.size := by simp
  have HE : Hid (Sc.of s.data.toList = Sc.ofTo s.data.toList (8 * s.size)) := by
    have : Sc.of s.data.toList = Sc.ofTo s.data.toList (8 * s.size) := by rw [Sc.of, hsl]
    exact this
  generalize Sc.of s.data.toList = R at HE ⊢
  have hb1 : Blk ((w.alloc (.cells (Ws [0, 0, 0, 0]) 71)).alloc (.cells (Ws [0, 0, 0, 0]) 71)) w.heap.size (Ws [0, 0, 0, 0]) 71 := heap_alloc2_old w _ _
  have hb2 : Blk ((w.alloc (.cells (Ws [0, 0, 0, 0]) 71)).alloc (.cells (Ws [0, 0, 0, 0]) 71)) (w.heap.size + 1) (Ws [0, 0, 0, 0]) 71 := heap_alloc2_new w _ _
  have hbel : Below w.heap.size w ((w.alloc (.cells (Ws [0, 0, 0, 0]) 71)).alloc (.cells (Ws [0, 0, 0, 0]) 71)) := ((Below.refl _ _).alloc (Nat.le_refl _) _).alloc (by simp) _
  have hw8 : IntKind.i64.wrap (8 * (s.size : Int)) = 8 * (s.size : Int) := by rw [IntKind.wrap_i64]; omega
  have hw9 : IntKind.i64.wrap (8 * (s.size : Int) - 1) = 8 * (s.size : Int) - 1 := by rw [IntKind.wrap_i64]; omega
  go_enter Tryz.func114, Tryz.ntmps114
  go_wp2_with fail
  rw [SZ4]
  generalize (w.alloc (.cells (Ws [0, 0, 0, 0]) 71)).alloc (.cells (Ws [0, 0, 0, 0]) 71) = w1 at hb1 hb2 hbel ⊢
  go_loopw [4] (fun c wr => ∃ n : Nat, n ≤ 8 * s.size ∧ c = .int .i64 (8 * (s.size : Int) - 1 - (n : Int)) ∧ Blk wr (w.heap.size + 1) (Ws (Sc.ofTo s.data.toList n)) 71 ∧ Blk wr w.heap.size (Ws [0, 0, 0, 0]) 71 ∧ Below w.heap.size w wr) (fun c _ => ((intOf c) + 1).toNat)
  case atStart => exact ⟨0, by omega, by simp, hb2, hb1, hbel⟩
  case round =>
    clear hb1 hb2 hbel w1
    obtain ⟨n, hn, rfl, hb2, hb1, hbel⟩ := hrel
    have hlS := Sc.ofTo_length s.data.toList n
    by_cases hlt : n < 8 * s.size
    · have HS : Hid (Sc.ofTo s.data.toList (n + 1) = Sc.plus (Sc.plus (Sc.ofTo s.data.toList n) (Sc.ofTo s.data.toList n)) [Sc.bitOf s.data.toList (8 * s.size - 1 - n), 0, 0, 0]) := by
        have : Sc.ofTo s.data.toList (n + 1) = Sc.plus (Sc.plus (Sc.ofTo s.data.toList n) (Sc.ofTo s.data.toList n)) [Sc.bitOf s.data.toList (8 * s.size - 1 - n), 0, 0, 0] := by rw [Sc.ofTo, hsl]
        exact this
      obtain ⟨at0, hat⟩ : ∃ at0 : Nat, at0 = 8 * s.size - 1 - n := ⟨_, rfl⟩
      rw [← hat] at HS
      have hc : (8 * (s.size : Int) - 1 - (n : Int)) = (at0 : Int) := by omega
      rw [hc]
      have hat2 : at0 < 8 * s.size := by omega
      clear hat
      replace hc : Hid (8 * (s.size : Int) - 1 - (n : Int) = (at0 : Int)) := hc
      have i3 : (0 : Int) ≤ (at0 : Int) := by omega
      have hix := byte_run s (at0 / 8) (by omega)
      have hix2 : ∀ wx : World, (Instr.index 9 (.string s) (.int .i64 ((at0 : Int) / 8))).run Tryz.prog wx = .ok (.int .u8 ((s.data.toList.getD (at0 / 8) 0).toNat : Int)) wx := by
        intro wx
        have : ((at0 : Int) / 8) = ((at0 / 8 : Nat) : Int) := by omega
        rw [this]
        exact hix wx
      have hbit := S_bitRun s.data.toList at0
      generalize s.data.toList.getD (at0 / 8) 0 = x at hix hix2 hbit
      generalize Sc.bitOf s.data.toList at0 = bit at hbit HS
      have i1 : IntKind.i64.wrap ((at0 : Int) / 8) = ((at0 / 8 : Nat) : Int) := by rw [IntKind.wrap_i64]; omega
      have i2 : (at0 : Int).tmod 8 = ((at0 % 8 : Nat) : Int) := by rw [Int.tmod_eq_emod_of_nonneg (by omega)]; omega
      have i4 : ((at0 % 8 : Nat) : Int) < 8 := by omega
      have hbit2 : bits BinOp.and IntKind.u64 (IntKind.u64.wrap ((x.toNat : Int) / 2 ^ (at0 % 8))) 1 = U bit := by
        have h1 : x.toNat / 2 ^ (at0 % 8) < 256 := Nat.lt_of_le_of_lt (Nat.div_le_self _ _) x.toNat_lt
        have e1 : (x.toNat : Int) / 2 ^ (at0 % 8) = ((x.toNat / 2 ^ (at0 % 8) : Nat) : Int) := by simp
        have e2 : IntKind.u64.wrap ((x.toNat / 2 ^ (at0 % 8) : Nat) : Int) = ((x.toNat / 2 ^ (at0 % 8) : Nat) : Int) := by
          generalize x.toNat / 2 ^ (at0 % 8) = n at h1
          rw [IntKind.wrap_u64]; omega
        rw [← hbit, e1, e2]
      generalize hS : Sc.ofTo s.data.toList n = S at hb2 hlS HS
      clear hS
      have H1 : Hid (∀ wx : World, Calls Tryz.prog 121 #[.agg (Ws S), .agg (Ws S)] wx fun e w' => e = .returned (.agg (Ws (Sc.plus S S))) ∧ Below wx.heap.size wx w') := fun wx => S_plus S S wx hlS hlS
      have lP : (Sc.plus S S).length = 4 := by rw [Sc.plus_length, hlS]
      generalize Sc.plus S S = P at H1 lP HS
      have H2 : Hid (∀ wx : World, Calls Tryz.prog 121 #[.agg (Ws P), .agg #[.int .u64 (U bit), .int .u64 0, .int .u64 0, .int .u64 0]] wx fun e w' => e = .returned (.agg (Ws (Sc.plus P [bit, 0, 0, 0]))) ∧ Below wx.heap.size wx w') := fun wx => S_plus P [bit, 0, 0, 0] wx lP rfl
      have lT : (Sc.plus P [bit, 0, 0, 0]).length = 4 := by rw [Sc.plus_length, lP]
      generalize Sc.plus P [bit, 0, 0, 0] = T at H2 lT HS
      have sS : (Ws S).size = 4 := by rw [Ws_size, hlS]
      have sT : (Ws T).size = 4 := by rw [Ws_size, lT]
      clear lP
      have g2 := hb2
      unfold Blk at g2
      go_wp2_with (first
        | (refine wpList_load_row rfl 71 _ rfl (w.heap.size + 1) rfl 71 _ (0, 0) _ g2 Tryz.underlying71 rfl (by rw [sS]; exact Tryz.infoS4) ?_))
      refine (H1.out _).mono ?_
      rintro e x1 ⟨rfl, k1⟩
      replace hb2 := hb2.keep k1
      replace hb1 := hb1.keep k1
      replace hbel := hbel.trans (k1.mono hbel.size)
      clear k1 g2
      go_wp2_with fail
      refine (H2.out _).mono ?_
      rintro e x2 ⟨rfl, k2⟩
      replace hb2 := hb2.keep k2
      replace hb1 := hb1.keep k2
      replace hbel := hbel.trans (k2.mono hbel.size)
      clear k2
      have hst := storeRow (l := T) hb2 (by rw [sS, lT])
      go_wp2
      go_roundw
      case rel =>
        refine ⟨n + 1, by omega, by have := hc.out; go_num, ?_, hb1.other (by omega) _, below_setRow hbel (by omega) _⟩
        rw [show Sc.ofTo s.data.toList (n + 1) = _ from HS.out]
        exact hb2.row _
      case measure => have := hc.out; simp [intOf]; try omega
    · have hk8 : n = 8 * s.size := by omega
      have hc : (8 * (s.size : Int) - 1 - (n : Int)) = -1 := by omega
      rw [hc]
      rw [← hk8] at HE
      generalize Sc.ofTo s.data.toList n = S at hb2 hlS HE
      have g0 := hb2
      unfold Blk at g0
      have sS : (Ws S).size = 4 := by rw [Ws_size, hlS]
      have hst := storeRow (l := S) hb1 (by rw [hlS]; rfl)
      go_wp2_with (first
        | (refine wpList_load_row rfl 71 _ rfl (w.heap.size + 1) rfl 71 _ (0, 0) _ g0 Tryz.underlying71 rfl (by rw [sS]; exact Tryz.infoS4) ?_))
      refine bodyPost_ret (v := .agg (Ws S)) ?_ rfl ⟨by rw [show R = _ from HE.out], below_setRow hbel (by omega) _⟩
      exact results_cell_row rfl _ _ w.heap.size 71 _ (0, 0) _ rfl (hb1.row _) Tryz.underlying71 rfl (by rw [sS]; exact Tryz.infoS4)

set_option maxRecDepth 100000 in
set_option maxHeartbeats 4000000 in
theorem S_bytes (a : List (BitVec 64)) (w : World) (ha : a.length = 4) :
    Calls Tryz.prog 124 #[.agg (Ws a)] w fun e w' => e = .returned (.string ⟨(Ff.bytesTo a 32).toArray⟩) ∧ Below w.heap.size w w' := by
  have sa : (Ws a).size = 4 := by rw [Ws_size, ha]
  have hz := zero32
  generalize hR : Ff.bytesTo a 32 = R
  replace hR : Hid (Ff.bytesTo a 32 = R) := hR
  have hW4 : Blk ((w.alloc (.cells (Ws a) 71)).alloc (.cells (Bs (zeros 32)) 130)) w.heap.size (Ws a) 71 := heap_alloc2_old w _ _
  have hO4 : Blk ((w.alloc (.cells (Ws a) 71)).alloc (.cells (Bs (zeros 32)) 130)) (w.heap.size + 1) (Bs (zeros 32)) 130 := heap_alloc2_new w _ _
  have bel4 : Below w.heap.size w ((w.alloc (.cells (Ws a) 71)).alloc (.cells (Bs (zeros 32)) 130)) := ((Below.refl _ _).alloc (Nat.le_refl _) _).alloc (by simp) _
  go_enter Tryz.func124, Tryz.ntmps124
  go_wp2_with fail
  generalize (w.alloc (.cells (Ws a) 71)).alloc (.cells (Bs (zeros 32)) 130) = w4 at hW4 hO4 bel4 ⊢
  clear hz
  go_loopw [5] (fun c wr => ∃ k : Nat, k ≤ 32 ∧ c = .int .i64 (k : Int) ∧ Blk wr w.heap.size (Ws a) 71 ∧ Blk wr (w.heap.size + 1) (Bs (Ff.bytesTo a k)) 130 ∧ Below w.heap.size w wr) (fun c _ => 32 - (intOf c).toNat)
  case atStart => exact ⟨0, by omega, rfl, hW4, hO4, bel4⟩
  case round =>
    clear hW4 hO4 bel4
    obtain ⟨k, hk, rfl, hW4, hO4, bel4⟩ := hrel
    have hl := Ff.bytesTo_length a k
    by_cases hlt : k < 32
    · have HB : Hid (Ff.bytesTo a (k + 1) = (Ff.bytesTo a k).set k ((a.getD (k / 8) 0 >>> (k % 8 * 8)).toNat.toUInt8)) := by
        have : Ff.bytesTo a (k + 1) = (Ff.bytesTo a k).set k ((a.getD (k / 8) 0 >>> (k % 8 * 8)).toNat.toUInt8) := by rw [Ff.bytesTo]; rfl
        exact this
      have cw := hW4.cell (k / 8)
      rw [Ws_at _ _ (show k / 8 < a.length by omega)] at cw
      have co := hO4.cell k
      rw [Bs_at _ _ (by omega)] at co
      have fo := hO4.frozen k
      have i1 : IntKind.i64.wrap ((k : Int) / 8) = ((k / 8 : Nat) : Int) := by rw [IntKind.wrap_i64]; omega
      have i2 : IntKind.i64.wrap ((k : Int).tmod 8 * 8) = ((k % 8 * 8 : Nat) : Int) := by rw [IntKind.wrap_i64, Int.tmod_eq_emod_of_nonneg (by omega)]; omega
      have q2 : ((k / 8 : Nat) : Int) < 4 := by omega
      have s2 : ((k % 8 * 8 : Nat) : Int) < 64 := by omega
      generalize hq : k / 8 = q at *
      generalize hsf : k % 8 * 8 = sft at *
      replace hq : Hid (k / 8 = q) := hq
      replace hsf : Hid (k % 8 * 8 = sft) := hsf
      generalize a.getD q 0 = y at cw HB
      generalize (Ff.bytesTo a k).getD k 0 = z at co
      have sh : U y / 2 ^ sft = U (y >>> sft) := U_shr y sft
      have lb := low_byte (y >>> sft)
      have lb2 : IntKind.u8.wrap (U y / 2 ^ sft) = ((y >>> sft).toNat.toUInt8.toNat : Int) := by rw [sh, lb]
      generalize (y >>> sft).toNat.toUInt8 = v at HB lb lb2
      clear lb sh
      have hlt' : (k : Int) < 32 := by omega
      go_wp2
      go_roundw
      case rel =>
        have e : U y / 2 ^ (k % 8 * 8) % 256 = (v.toNat : Int) := by rw [hsf.out, ← IntKind.wrap_u8, lb2]
        rw [e, hO4.set, Bs_set]
        refine ⟨k + 1, by omega, by go_num, hW4.other (by omega) _, ?_, below_setRow bel4 (by omega) _⟩
        rw [HB.out]
        exact hO4.row _
      case measure => simp [intOf]; omega
    · have hk32 : k = 32 := by omega
      subst hk32
      have hso := stringOf (cap := 32) hO4 32 hl.symm
      generalize Ff.bytesTo a 32 = T at hso hR
      go_wp2
      go_ret
      exact ⟨by rw [← show T = R from hR.out]; rfl, bel4⟩
end Go.Proofs.YtclpbaokadfhhaaGreatDoor
