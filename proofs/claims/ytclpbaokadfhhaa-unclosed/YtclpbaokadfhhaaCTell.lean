/- Contract of cipher.tellSum. -/
import Derived.Test.YtclpbaokadfhhaaCLow
namespace Go.Proofs.Ytclpbaokadfhhaa
open Go.RowKit

namespace Cc
/-- byte k of a word of 64 bits, the lowest first -/
def byteL (x : BitVec 64) (k : Nat) : UInt8 := UInt8.ofNat (x >>> (8 * k)).toNat
def putL (l : List UInt8) (off : Nat) (x : BitVec 64) : Nat → List UInt8
  | 0 => l
  | k + 1 => (putL l off x k).set (off + k) (byteL x k)
theorem putL_length (l : List UInt8) (off : Nat) (x : BitVec 64) (k : Nat) : (putL l off x k).length = l.length := by
  induction k with
  | zero => rfl
  | succ k ih => simp [putL, ih]
theorem byteL_eq (x : BitVec 64) (k : Nat) : U x / 2 ^ (8 * k) % 256 = ((byteL x k).toNat : Int) := by
  rw [U_shr]; unfold byteL U; simp
/-- what is carried out of a sum -/
def over (x y c : BitVec 64) : BitVec 64 := BitVec.ofNat 64 ((x.toNat + y.toNat + c.toNat) / 18446744073709551616)
theorem over_le (x y c : BitVec 64) (h : c.toNat ≤ 1) : (over x y c).toNat ≤ 1 := by
  have hx := x.isLt; have hy := y.isLt
  unfold over; rw [BitVec.toNat_ofNat]
  have : (x.toNat + y.toNat + c.toNat) / 18446744073709551616 ≤ 1 := by omega
  omega
def tell2 (x y : BitVec 64) : Nat → List UInt8
  | 0 => zeros 16
  | i + 1 => putL (tell2 x y i) (8 * i) ([x, y].getD i 0) 8
theorem tell2_length (x y : BitVec 64) (i : Nat) : (tell2 x y i).length = 16 := by
  induction i with
  | zero => rfl
  | succ i ih => simp only [tell2, putL_length, ih]
def lowWord (h : List (BitVec 64)) : BitVec 64 := h.getD 0 0 ||| h.getD 1 0 <<< 26 ||| h.getD 2 0 <<< 52
def highWord (h : List (BitVec 64)) : BitVec 64 := h.getD 2 0 >>> 12 ||| h.getD 3 0 <<< 14 ||| h.getD 4 0 <<< 40
def sumLow (h : List (BitVec 64)) (s0 : BitVec 64) : BitVec 64 := lowWord h + s0 + 0
def sumHigh (h : List (BitVec 64)) (s0 s1 : BitVec 64) : BitVec 64 := highWord h + s1 + over (lowWord h) s0 0
def tellSum (h : List (BitVec 64)) (s0 s1 : BitVec 64) : List UInt8 := tell2 (sumLow h s0) (sumHigh h s0 s1) 2
theorem tellSum_length (h : List (BitVec 64)) (s0 s1 : BitVec 64) : (tellSum h s0 s1).length = 16 := tell2_length _ _ _
end Cc

theorem add64_run (x y c : BitVec 64) (h : c.toNat ≤ 1) (w : World) :
    (callFunc 62 #[.int .u64 (U x), .int .u64 (U y), .int .u64 (U c)]).run Try.prog w = .ok (.value (.tuple #[.int .u64 (U (x + y + c)), .int .u64 (U (Cc.over x y c))])) w := by
  rw [run_callFunc_extern Try.func62 (by kernel_rfl) (by kernel_rfl) (by kernel_rfl) (e := add64Entry) (by kernel_rfl), run_add64 (U x) (U y) (U c) (U_lo _) (U_lo _) (U_lo _) (by unfold U; omega)]
  have hx := x.isLt; have hy := y.isLt
  simp only [Result.andThen]
  have e1 : (U x + U y + U c) % 18446744073709551616 = U (x + y + c) := by
    unfold U; rw [BitVec.toNat_add, BitVec.toNat_add]; omega
  have e2 : (U x + U y + U c) / 18446744073709551616 = U (Cc.over x y c) := by
    unfold Cc.over; rw [← U_of _ (by omega)]; unfold U; omega
  rw [e1, e2]

theorem zero16b (w : World) : Sem.run Try.prog (zeroValue 53) w = .ok (.agg (Bs (zeros 16))) w := by kernel_rfl
theorem Try.info16b : (Try.prog.info? 53).map (·.size) = some 16 := by kernel_rfl
theorem index2 (x y : BitVec 64) (k : Nat) (hk : k < 2) (w : World) :
    (Instr.index 71 (.agg #[.int .u64 (U x), .int .u64 (U y)]) (.int .i64 k)).run Try.prog w = .ok (.int .u64 (U ([x, y].getD k 0))) w := by
  obtain rfl | rfl : k = 0 ∨ k = 1 := by omega
  all_goals kernel_rfl

set_option maxRecDepth 100000 in
set_option maxHeartbeats 2000000 in
theorem tellSum_any (h : List (BitVec 64)) (s0 s1 : BitVec 64) (w : World) (hh : h.length = 5) :
    Calls Try.prog 46 #[.agg (Ws h), .agg (Ws [s0, s1])] w fun e w' => e = .returned (.agg (Bs (Cc.tellSum h s0 s1))) ∧ Below w.heap.size w w' := by
  obtain ⟨h0, h1, h2, h3, h4, rfl⟩ := list5 h hh
  have hz := zero16b
  have p1 : bits BinOp.or IntKind.u64 (bits BinOp.or IntKind.u64 (U h0) (IntKind.u64.wrap (U h1 * 67108864))) (IntKind.u64.wrap (U h2 * 4503599627370496)) = U (Cc.lowWord [h0, h1, h2, h3, h4]) := by
    rw [U_shlI h1 67108864 26 rfl, U_or, U_shlI h2 4503599627370496 52 rfl, U_or]; rfl
  have p2 : bits BinOp.or IntKind.u64 (bits BinOp.or IntKind.u64 (U h2 / 4096) (IntKind.u64.wrap (U h3 * 16384))) (IntKind.u64.wrap (U h4 * 1099511627776)) = U (Cc.highWord [h0, h1, h2, h3, h4]) := by
    rw [U_shrI h2 4096 12 rfl, U_shlI h3 16384 14 rfl, U_or, U_shlI h4 1099511627776 40 rfl, U_or]; rfl
  have hA := add64_run (Cc.lowWord [h0, h1, h2, h3, h4]) s0 0 (by decide)
  have hB := add64_run (Cc.highWord [h0, h1, h2, h3, h4]) s1 (Cc.over (Cc.lowWord [h0, h1, h2, h3, h4]) s0 0) (Cc.over_le _ _ _ (by decide))
  rw [show U 0 = 0 from rfl] at hA
  have HE : Hid (Cc.tellSum [h0, h1, h2, h3, h4] s0 s1 = Cc.tell2 (Cc.lowWord [h0, h1, h2, h3, h4] + s0 + 0) (Cc.highWord [h0, h1, h2, h3, h4] + s1 + Cc.over (Cc.lowWord [h0, h1, h2, h3, h4]) s0 0) 2) := by
    have : Cc.tellSum [h0, h1, h2, h3, h4] s0 s1 = Cc.tell2 (Cc.lowWord [h0, h1, h2, h3, h4] + s0 + 0) (Cc.highWord [h0, h1, h2, h3, h4] + s1 + Cc.over (Cc.lowWord [h0, h1, h2, h3, h4]) s0 0) 2 := rfl
    exact this
  generalize Cc.tellSum [h0, h1, h2, h3, h4] s0 s1 = R at HE ⊢
  generalize Cc.over (Cc.lowWord [h0, h1, h2, h3, h4]) s0 0 = ov at hA hB HE
  generalize hX : Cc.lowWord [h0, h1, h2, h3, h4] + s0 + 0 = X at hA HE
  generalize hY : Cc.highWord [h0, h1, h2, h3, h4] + s1 + ov = Y at hB HE
  clear hX hY
  generalize Cc.lowWord [h0, h1, h2, h3, h4] = lw at hA p1
  generalize Cc.highWord [h0, h1, h2, h3, h4] = hw at hB p2
  rw [show (Ws [h0, h1, h2, h3, h4]) = #[.int .u64 (U h0), .int .u64 (U h1), .int .u64 (U h2), .int .u64 (U h3), .int .u64 (U h4)] from rfl, show (Ws [s0, s1]) = #[.int .u64 (U s0), .int .u64 (U s1)] from rfl]
  go_enter Try.func46, Try.ntmps46
  go_wp2_with fail
  have hb3 : Blk ((((w.alloc (.cells #[.int .u64 (U h0), .int .u64 (U h1), .int .u64 (U h2), .int .u64 (U h3), .int .u64 (U h4)] 69)).alloc (.cells #[.int .u64 (U s0), .int .u64 (U s1)] 71)).alloc (.cells (Bs (zeros 16)) 53)).alloc (.cells (Bs (zeros 16)) 53)) (w.heap.size + 1 + 1) (Bs (zeros 16)) 53 := by
    have := Blk.alloc (Blk.new ((w.alloc (.cells #[.int .u64 (U h0), .int .u64 (U h1), .int .u64 (U h2), .int .u64 (U h3), .int .u64 (U h4)] 69)).alloc (.cells #[.int .u64 (U s0), .int .u64 (U s1)] 71)) (Bs (zeros 16)) 53) (.cells (Bs (zeros 16)) 53)
    simpa using this
  have hb4 : Blk ((((w.alloc (.cells #[.int .u64 (U h0), .int .u64 (U h1), .int .u64 (U h2), .int .u64 (U h3), .int .u64 (U h4)] 69)).alloc (.cells #[.int .u64 (U s0), .int .u64 (U s1)] 71)).alloc (.cells (Bs (zeros 16)) 53)).alloc (.cells (Bs (zeros 16)) 53)) (w.heap.size + 1 + 1 + 1) (Bs (zeros 16)) 53 := by
    have := Blk.new (((w.alloc (.cells #[.int .u64 (U h0), .int .u64 (U h1), .int .u64 (U h2), .int .u64 (U h3), .int .u64 (U h4)] 69)).alloc (.cells #[.int .u64 (U s0), .int .u64 (U s1)] 71)).alloc (.cells (Bs (zeros 16)) 53)) (Bs (zeros 16)) 53
    simpa using this
  have hbel : Below w.heap.size w ((((w.alloc (.cells #[.int .u64 (U h0), .int .u64 (U h1), .int .u64 (U h2), .int .u64 (U h3), .int .u64 (U h4)] 69)).alloc (.cells #[.int .u64 (U s0), .int .u64 (U s1)] 71)).alloc (.cells (Bs (zeros 16)) 53)).alloc (.cells (Bs (zeros 16)) 53)) :=
    ((((Below.refl _ _).alloc (Nat.le_refl _) _).alloc (by simp) _).alloc (by simp; omega) _).alloc (by simp; omega) _
  generalize (((w.alloc (.cells #[.int .u64 (U h0), .int .u64 (U h1), .int .u64 (U h2), .int .u64 (U h3), .int .u64 (U h4)] 69)).alloc (.cells #[.int .u64 (U s0), .int .u64 (U s1)] 71)).alloc (.cells (Bs (zeros 16)) 53)).alloc (.cells (Bs (zeros 16)) 53) = w1 at hb3 hb4 hbel ⊢
  clear hA hB p1 p2 hz
  go_loopw [50] (fun c wr => ∃ i : Nat, i ≤ 2 ∧ c = .int .i64 i ∧ Blk wr (w.heap.size + 1 + 1) (Bs (zeros 16)) 53 ∧ Blk wr (w.heap.size + 1 + 1 + 1) (Bs (Cc.tell2 X Y i)) 53 ∧ Below w.heap.size w wr) (fun c _ => 2 - (intOf c).toNat)
  case atStart => exact ⟨0, by omega, rfl, hb3, hb4, hbel⟩
  case round =>
    clear hb3 hb4 hbel w1
    obtain ⟨i, hi, rfl, hb3, hb4, hbel⟩ := hrel
    by_cases hlt : i < 2
    · have i1 : (i : Int) < 2 := by omega
      have hix := index2 X Y i hlt
      have HT : Hid (Cc.tell2 X Y (i + 1) = Cc.putL (Cc.tell2 X Y i) (8 * i) ([X, Y].getD i 0) 8) := by
        have : Cc.tell2 X Y (i + 1) = Cc.putL (Cc.tell2 X Y i) (8 * i) ([X, Y].getD i 0) 8 := rfl
        exact this
      have hlT : (Cc.tell2 X Y i).length = 16 := Cc.tell2_length _ _ _
      generalize [X, Y].getD i 0 = x at hix HT
      generalize Cc.tell2 X Y i = T at hb4 HT hlT
      go_wp2_with fail
      go_loopw [54] (fun c wr => ∃ j : Nat, j ≤ 8 ∧ c = .int .i64 j ∧ Blk wr (w.heap.size + 1 + 1) (Bs (zeros 16)) 53 ∧ Blk wr (w.heap.size + 1 + 1 + 1) (Bs (Cc.putL T (8 * i) x j)) 53 ∧ Below w.heap.size w wr) (fun c _ => 8 - (intOf c).toNat)
      case atStart => exact ⟨0, by omega, rfl, hb3, hb4, hbel⟩
      case round =>
        clear hb3 hb4 hbel
        obtain ⟨j, hj, rfl, hb3, hb4, hbel⟩ := hrel
        by_cases hlj : j < 8
        · have j1 : (j : Int) < 8 := by omega
          have hc := hb4.cell (8 * i + j)
          rw [Bs_at _ _ (by rw [Cc.putL_length]; omega)] at hc
          have hf := hb4.frozen (8 * i + j)
          have k1 : IntKind.i64.wrap (8 * (i : Int) + (j : Int)) = 8 * (i : Int) + (j : Int) := by rw [IntKind.wrap_i64]; omega
          have k2 : 8 * (i : Int) + (j : Int) < 16 := by omega
          have k3 : (0 : Int) ≤ 8 * (i : Int) + (j : Int) := by omega
          have k4 : (8 * (i : Int) + (j : Int)).toNat = 8 * i + j := by omega
          go_wp2
          go_roundw
          case rel =>
            refine ⟨j + 1, by omega, by go_num, ?_, ?_, ?_⟩
            · rw [hb4.set]; exact hb3.other (by omega) _
            · rw [hb4.set, Cc.byteL_eq, Bs_set]; exact hb4.row _
            · exact hbel.setCell (show w.heap.size ≤ w.heap.size + 1 + 1 + 1 by omega) _
          case measure => simp [intOf]; omega
        · have hj5 : j = 8 := by omega
          subst hj5
          go_wp2
          go_roundw
          case rel => exact ⟨i + 1, by omega, by go_num, hb3, by rw [show Cc.tell2 X Y (i + 1) = _ from HT.out]; exact hb4, hbel⟩
          case measure => simp [intOf]; omega
    · have hk8 : i = 2 := by omega
      subst hk8
      have hlT : (Cc.tell2 X Y 2).length = 16 := Cc.tell2_length _ _ _
      generalize Cc.tell2 X Y 2 = T at hb4 HE hlT
      have g1 := hb4; have g2 := hb3
      unfold Blk at g1 g2
      have hl : (Bs T).size = 16 := by rw [Bs_size, hlT]
      have e0 : (Bs (zeros 16)).size = 16 := by rw [Bs_size]; rfl
      go_wp2_with (first
        | (refine wpList_load_row rfl 53 _ rfl (w.heap.size + 1 + 1 + 1) rfl 53 _ (0, 0) _ g1 Try.underlying53 rfl (by rw [hl]; exact Try.info16b) ?_)
        | (refine wpList_store_row rfl 53 _ _ rfl (w.heap.size + 1 + 1) _ rfl rfl 53 _ g2 (by rw [hl]; exact Try.info16b) (by rw [hl, e0]) (Bs_one _) ?_))
      refine bodyPost_ret (v := .agg (Bs T)) ?_ rfl ⟨by rw [show R = T from HE.out], below_setRow hbel (by omega) _⟩
      exact results_cell_row rfl _ _ (w.heap.size + 1 + 1) 53 _ (0, 0) _ rfl (hb3.row _) Try.underlying53 rfl (by rw [hl]; exact Try.info16b)

end Go.Proofs.Ytclpbaokadfhhaa
