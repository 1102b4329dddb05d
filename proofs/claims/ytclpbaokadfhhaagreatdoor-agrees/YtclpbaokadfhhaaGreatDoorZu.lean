/- Several texts as one: Pq1, Pq2. -/
import Derived.Test.YtclpbaokadfhhaaGreatDoorZp
import Derived.Test.YtclpbaokadfhhaaGreatDoorXk
namespace Go.Proofs.YtclpbaokadfhhaaGreatDoor
namespace Cc
def P130 : Nat := 1361129467683753853853498429727072845819
def v5 (l : List (BitVec 64)) : Nat := (l.getD 0 0).toNat + 67108864 * (l.getD 1 0).toNat + 4503599627370496 * (l.getD 2 0).toNat + 302231454903657293676544 * (l.getD 3 0).toNat + 20282409603651670423947251286016 * (l.getD 4 0).toNat
theorem orL_add (a : BitVec 64) (x : UInt8) (k : Nat) (hk : k ≤ 56) (ha : a.toNat < 2 ^ k) : (a ||| BitVec.ofNat 64 x.toNat <<< k).toNat = a.toNat + 2 ^ k * x.toNat := by
  have hx := x.toNat_lt
  have h1 : 2 ^ k ≤ 2 ^ 56 := Nat.pow_le_pow_right (by omega) hk
  have h2 : x.toNat * 2 ^ k < 2 ^ 64 := by
    have : x.toNat * 2 ^ k ≤ 255 * 2 ^ 56 := Nat.mul_le_mul (by omega) h1
    omega
  rw [BitVec.toNat_or, BitVec.toNat_shiftLeft, BitVec.toNat_ofNat, Nat.mod_eq_of_lt (by omega : x.toNat < 2 ^ 64), Nat.shiftLeft_eq, Nat.mod_eq_of_lt h2, Nat.or_comm, Nat.mul_comm, ← Nat.two_pow_add_eq_or_of_lt ha, Nat.add_comm]
def n8 (f : Nat → UInt8) : Nat := (f 0).toNat + 256 * (f 1).toNat + 65536 * (f 2).toNat + 16777216 * (f 3).toNat + 4294967296 * (f 4).toNat + 1099511627776 * (f 5).toNat + 281474976710656 * (f 6).toNat + 72057594037927936 * (f 7).toNat
theorem wdL_nat (f : Nat → UInt8) : (wdL f 8).toNat = n8 f := by
  have x0 := (f 0).toNat_lt; have x1 := (f 1).toNat_lt; have x2 := (f 2).toNat_lt; have x3 := (f 3).toNat_lt
  have x4 := (f 4).toNat_lt; have x5 := (f 5).toNat_lt; have x6 := (f 6).toNat_lt; have x7 := (f 7).toNat_lt
  have e0 := orL_add 0 (f 0) 0 (by omega) (by decide)
  have z : (0 : BitVec 64).toNat = 0 := rfl
  have e1 := orL_add _ (f 1) 8 (by omega) (by rw [e0]; omega)
  have e2 := orL_add _ (f 2) 16 (by omega) (by rw [e1, e0]; omega)
  have e3 := orL_add _ (f 3) 24 (by omega) (by rw [e2, e1, e0]; omega)
  have e4 := orL_add _ (f 4) 32 (by omega) (by rw [e3, e2, e1, e0]; omega)
  have e5 := orL_add _ (f 5) 40 (by omega) (by rw [e4, e3, e2, e1, e0]; omega)
  have e6 := orL_add _ (f 6) 48 (by omega) (by rw [e5, e4, e3, e2, e1, e0]; omega)
  have e7 := orL_add _ (f 7) 56 (by omega) (by rw [e6, e5, e4, e3, e2, e1, e0]; omega)
  show (((((((((0 : BitVec 64) ||| BitVec.ofNat 64 (f 0).toNat <<< 0) ||| BitVec.ofNat 64 (f 1).toNat <<< 8) ||| BitVec.ofNat 64 (f 2).toNat <<< 16) ||| BitVec.ofNat 64 (f 3).toNat <<< 24) ||| BitVec.ofNat 64 (f 4).toNat <<< 32) ||| BitVec.ofNat 64 (f 5).toNat <<< 40) ||| BitVec.ofNat 64 (f 6).toNat <<< 48) ||| BitVec.ofNat 64 (f 7).toNat <<< 56).toNat = n8 f
  rw [e7, e6, e5, e4, e3, e2, e1, e0]
  unfold n8
  omega
theorem m26 (x : BitVec 64) : (x &&& 67108863).toNat = x.toNat % 67108864 := by
  rw [BitVec.toNat_and, show (67108863 : BitVec 64).toNat = 2 ^ 26 - 1 from rfl, Nat.and_two_pow_sub_one_eq_mod]
theorem number_val (lo hi ab : BitVec 64) (hab : ab.toNat ≤ 1) : v5 (numberOf lo hi ab) = lo.toNat + 18446744073709551616 * hi.toNat + 340282366920938463463374607431768211456 * ab.toNat ∧
    (((numberOf lo hi ab).getD 0 0).toNat < 67108864 ∧ ((numberOf lo hi ab).getD 1 0).toNat < 67108864 ∧ ((numberOf lo hi ab).getD 2 0).toNat < 67108864 ∧ ((numberOf lo hi ab).getD 3 0).toNat < 67108864 ∧ ((numberOf lo hi ab).getD 4 0).toNat < 67108864) := by
  have hl := lo.isLt; have hh := hi.isLt
  have e0 : (lo &&& 67108863).toNat = lo.toNat % 67108864 := m26 lo
  have e1 : (lo >>> 26 &&& 67108863).toNat = lo.toNat / 67108864 % 67108864 := by rw [m26, BitVec.toNat_ushiftRight, Nat.shiftRight_eq_div_pow]
  have e2 : ((lo >>> 52 ||| hi <<< 12) &&& 67108863).toNat = (lo.toNat / 4503599627370496 + 4096 * hi.toNat) % 67108864 := by
    rw [m26, BitVec.toNat_or, BitVec.toNat_ushiftRight, BitVec.toNat_shiftLeft, Nat.shiftRight_eq_div_pow, Nat.shiftLeft_eq]
    rw [show hi.toNat * 2 ^ 12 % 2 ^ 64 = 2 ^ 12 * (hi.toNat % 2 ^ 52) by omega, Nat.or_comm, ← Nat.two_pow_add_eq_or_of_lt (i := 12) (by omega)]
    omega
  have e3 : (hi >>> 14 &&& 67108863).toNat = hi.toNat / 16384 % 67108864 := by rw [m26, BitVec.toNat_ushiftRight, Nat.shiftRight_eq_div_pow]
  have e4 : (hi >>> 40 ||| ab <<< 24).toNat = hi.toNat / 1099511627776 + 16777216 * ab.toNat := by
    rw [BitVec.toNat_or, BitVec.toNat_ushiftRight, BitVec.toNat_shiftLeft, Nat.shiftRight_eq_div_pow, Nat.shiftLeft_eq]
    rw [show ab.toNat * 2 ^ 24 % 2 ^ 64 = 2 ^ 24 * ab.toNat by omega, Nat.or_comm, ← Nat.two_pow_add_eq_or_of_lt (i := 24) (by omega)]
    omega
  unfold v5 numberOf
  simp only [List.getD_cons_zero, List.getD_cons_succ]
  rw [e0, e1, e2, e3, e4]
  omega
def Nar (l : List (BitVec 64)) : Prop := l.length = 5 ∧ (l.getD 0 0).toNat < 67108864 ∧ (l.getD 1 0).toNat < 134217728 ∧ (l.getD 2 0).toNat < 67108864 ∧ (l.getD 3 0).toNat < 67108864 ∧ (l.getD 4 0).toNat < 67108864
theorem plus_eq (a0 a1 a2 a3 a4 b0 b1 b2 b3 b4 : BitVec 64) : plus [a0, a1, a2, a3, a4] [b0, b1, b2, b3, b4] = [a0 + b0, a1 + b1, a2 + b2, a3 + b3, a4 + b4] := rfl
theorem add_nat (x y : BitVec 64) (h : x.toNat + y.toNat < 18446744073709551616) : (x + y).toNat = x.toNat + y.toNat := by rw [BitVec.toNat_add]; exact Nat.mod_eq_of_lt h
theorem mul_nat (x y : BitVec 64) (h : x.toNat * y.toNat < 18446744073709551616) : (x * y).toNat = x.toNat * y.toNat := by rw [BitVec.toNat_mul]; exact Nat.mod_eq_of_lt h
theorem plus_val {a b : List (BitVec 64)} (ha : Nar a) (hb : Nar b) : v5 (plus a b) = v5 a + v5 b ∧ (plus a b).length = 5 ∧ ∀ i, ((plus a b).getD i 0).toNat < 268435456 := by
  obtain ⟨a0, a1, a2, a3, a4, rfl⟩ := list5 a ha.1
  obtain ⟨b0, b1, b2, b3, b4, rfl⟩ := list5 b hb.1
  obtain ⟨_, ha0, ha1, ha2, ha3, ha4⟩ := ha
  obtain ⟨_, hb0, hb1, hb2, hb3, hb4⟩ := hb
  simp only [List.getD_cons_zero, List.getD_cons_succ] at ha0 ha1 ha2 ha3 ha4 hb0 hb1 hb2 hb3 hb4
  have e0 := add_nat a0 b0 (by omega); have e1 := add_nat a1 b1 (by omega); have e2 := add_nat a2 b2 (by omega); have e3 := add_nat a3 b3 (by omega); have e4 := add_nat a4 b4 (by omega)
  rw [plus_eq]
  refine ⟨?_, rfl, fun i => ?_⟩
  · unfold v5
    simp only [List.getD_cons_zero, List.getD_cons_succ]
    rw [e0, e1, e2, e3, e4]
    omega
  · match i with
    | 0 => show (a0 + b0).toNat < _; omega
    | 1 => show (a1 + b1).toNat < _; omega
    | 2 => show (a2 + b2).toNat < _; omega
    | 3 => show (a3 + b3).toNat < _; omega
    | 4 => show (a4 + b4).toNat < _; omega
    | n + 5 => show (0 : BitVec 64).toNat < _; decide
theorem carry_eq (a0 a1 a2 a3 a4 : BitVec 64) : carry [a0, a1, a2, a3, a4] = [(((a0 + (0 : BitVec 64)) &&& (67108863 : BitVec 64)) + (5 : BitVec 64) * (a4 + (a3 + (a2 + (a1 + (a0 + (0 : BitVec 64)) >>> 26) >>> 26) >>> 26) >>> 26) >>> 26) &&& (67108863 : BitVec 64), ((a1 + (a0 + (0 : BitVec 64)) >>> 26) &&& (67108863 : BitVec 64)) + (((a0 + (0 : BitVec 64)) &&& (67108863 : BitVec 64)) + (5 : BitVec 64) * (a4 + (a3 + (a2 + (a1 + (a0 + (0 : BitVec 64)) >>> 26) >>> 26) >>> 26) >>> 26) >>> 26) >>> 26, (a2 + (a1 + (a0 + (0 : BitVec 64)) >>> 26) >>> 26) &&& (67108863 : BitVec 64), (a3 + (a2 + (a1 + (a0 + (0 : BitVec 64)) >>> 26) >>> 26) >>> 26) &&& (67108863 : BitVec 64), (a4 + (a3 + (a2 + (a1 + (a0 + (0 : BitVec 64)) >>> 26) >>> 26) >>> 26) >>> 26) &&& (67108863 : BitVec 64)] := rfl
theorem shr26 (x : BitVec 64) : (x >>> 26).toNat = x.toNat / 67108864 := by rw [BitVec.toNat_ushiftRight, Nat.shiftRight_eq_div_pow]
theorem carry_val {l : List (BitVec 64)} (hl : l.length = 5) (hb : ∀ i, (l.getD i 0).toNat < 1152921504606846976) : Nar (carry l) ∧ ∃ k, v5 (carry l) + P130 * k = v5 l := by
  obtain ⟨a0, a1, a2, a3, a4, rfl⟩ := list5 l hl
  have h0 := hb 0; have h1 := hb 1; have h2 := hb 2; have h3 := hb 3; have h4 := hb 4
  simp only [List.getD_cons_zero, List.getD_cons_succ] at h0 h1 h2 h3 h4
  rw [carry_eq]
  have z0 : a0 + (0 : BitVec 64) = a0 := BitVec.add_zero a0
  rw [z0]
  have q0 := shr26 a0
  have s1 := add_nat a1 (a0 >>> 26) (by omega)
  generalize a1 + a0 >>> 26 = x1 at s1 ⊢
  have q1 := shr26 x1
  have s2 := add_nat a2 (x1 >>> 26) (by omega)
  generalize a2 + x1 >>> 26 = x2 at s2 ⊢
  have q2 := shr26 x2
  have s3 := add_nat a3 (x2 >>> 26) (by omega)
  generalize a3 + x2 >>> 26 = x3 at s3 ⊢
  have q3 := shr26 x3
  have s4 := add_nat a4 (x3 >>> 26) (by omega)
  generalize a4 + x3 >>> 26 = x4 at s4 ⊢
  have q4 := shr26 x4
  have m0 := m26 a0; have m1 := m26 x1; have m2 := m26 x2; have m3 := m26 x3; have m4 := m26 x4
  have t5 := mul_nat (5 : BitVec 64) (x4 >>> 26) (by rw [show (5 : BitVec 64).toNat = 5 from rfl]; omega)
  rw [show (5 : BitVec 64).toNat = 5 from rfl] at t5
  have s5 := add_nat (a0 &&& (67108863 : BitVec 64)) ((5 : BitVec 64) * x4 >>> 26) (by omega)
  generalize (a0 &&& (67108863 : BitVec 64)) + (5 : BitVec 64) * x4 >>> 26 = y0 at s5 ⊢
  have q5 := shr26 y0
  have m5 := m26 y0
  have s6 := add_nat (x1 &&& (67108863 : BitVec 64)) (y0 >>> 26) (by omega)
  refine ⟨⟨rfl, ?_, ?_, ?_, ?_, ?_⟩, (x4 >>> 26).toNat, ?_⟩
  · show (y0 &&& 67108863).toNat < _; omega
  · show ((x1 &&& (67108863 : BitVec 64)) + y0 >>> 26).toNat < _; omega
  · show (x2 &&& 67108863).toNat < _; omega
  · show (x3 &&& 67108863).toNat < _; omega
  · show (x4 &&& 67108863).toNat < _; omega
  · unfold v5 P130
    simp only [List.getD_cons_zero, List.getD_cons_succ]
    omega
theorem row_0 (a0 a1 a2 a3 a4 b0 b1 b2 b3 b4 s0 s1 s2 s3 s4 : BitVec 64) : rowT [a0, a1, a2, a3, a4] [b0, b1, b2, b3, b4] [s0, s1, s2, s3, s4] 0 5 = [s0 + a0 * b0, s1 + a0 * b1, s2 + a0 * b2, s3 + a0 * b3, s4 + a0 * b4] := rfl
theorem row_1 (a0 a1 a2 a3 a4 b0 b1 b2 b3 b4 s0 s1 s2 s3 s4 : BitVec 64) : rowT [a0, a1, a2, a3, a4] [b0, b1, b2, b3, b4] [s0, s1, s2, s3, s4] 1 5 = [s0 + (5 : BitVec 64) * (a1 * b4), s1 + a1 * b0, s2 + a1 * b1, s3 + a1 * b2, s4 + a1 * b3] := rfl
theorem row_2 (a0 a1 a2 a3 a4 b0 b1 b2 b3 b4 s0 s1 s2 s3 s4 : BitVec 64) : rowT [a0, a1, a2, a3, a4] [b0, b1, b2, b3, b4] [s0, s1, s2, s3, s4] 2 5 = [s0 + (5 : BitVec 64) * (a2 * b3), s1 + (5 : BitVec 64) * (a2 * b4), s2 + a2 * b0, s3 + a2 * b1, s4 + a2 * b2] := rfl
theorem row_3 (a0 a1 a2 a3 a4 b0 b1 b2 b3 b4 s0 s1 s2 s3 s4 : BitVec 64) : rowT [a0, a1, a2, a3, a4] [b0, b1, b2, b3, b4] [s0, s1, s2, s3, s4] 3 5 = [s0 + (5 : BitVec 64) * (a3 * b2), s1 + (5 : BitVec 64) * (a3 * b3), s2 + (5 : BitVec 64) * (a3 * b4), s3 + a3 * b0, s4 + a3 * b1] := rfl
theorem row_4 (a0 a1 a2 a3 a4 b0 b1 b2 b3 b4 s0 s1 s2 s3 s4 : BitVec 64) : rowT [a0, a1, a2, a3, a4] [b0, b1, b2, b3, b4] [s0, s1, s2, s3, s4] 4 5 = [s0 + (5 : BitVec 64) * (a4 * b1), s1 + (5 : BitVec 64) * (a4 * b2), s2 + (5 : BitVec 64) * (a4 * b3), s3 + (5 : BitVec 64) * (a4 * b4), s4 + a4 * b0] := rfl
theorem timesTo_eq (a0 a1 a2 a3 a4 b0 b1 b2 b3 b4 : BitVec 64) : timesTo [a0, a1, a2, a3, a4] [b0, b1, b2, b3, b4] 5 = [((((((0 : BitVec 64) + a0 * b0) + (5 : BitVec 64) * (a1 * b4)) + (5 : BitVec 64) * (a2 * b3)) + (5 : BitVec 64) * (a3 * b2)) + (5 : BitVec 64) * (a4 * b1)), ((((((0 : BitVec 64) + a0 * b1) + a1 * b0) + (5 : BitVec 64) * (a2 * b4)) + (5 : BitVec 64) * (a3 * b3)) + (5 : BitVec 64) * (a4 * b2)), ((((((0 : BitVec 64) + a0 * b2) + a1 * b1) + a2 * b0) + (5 : BitVec 64) * (a3 * b4)) + (5 : BitVec 64) * (a4 * b3)), ((((((0 : BitVec 64) + a0 * b3) + a1 * b2) + a2 * b1) + a3 * b0) + (5 : BitVec 64) * (a4 * b4)), ((((((0 : BitVec 64) + a0 * b4) + a1 * b3) + a2 * b2) + a3 * b1) + a4 * b0)] := by
  show rowT [a0, a1, a2, a3, a4] [b0, b1, b2, b3, b4] (rowT [a0, a1, a2, a3, a4] [b0, b1, b2, b3, b4] (rowT [a0, a1, a2, a3, a4] [b0, b1, b2, b3, b4] (rowT [a0, a1, a2, a3, a4] [b0, b1, b2, b3, b4] (rowT [a0, a1, a2, a3, a4] [b0, b1, b2, b3, b4] [0, 0, 0, 0, 0] 0 5) 1 5) 2 5) 3 5) 4 5 = _
  rw [row_0, row_1, row_2, row_3, row_4]
end Cc
end Go.Proofs.YtclpbaokadfhhaaGreatDoor
namespace Go.Proofs.YtclpbaokadfhhaaGreatDoor
namespace Cc
theorem convN (X A0 A1 A2 A3 A4 B0 B1 B2 B3 B4 : Nat) : (A0 + X * A1 + X * X * A2 + X * X * X * A3 + X * X * X * X * A4) * (B0 + X * B1 + X * X * B2 + X * X * X * B3 + X * X * X * X * B4) = (A0 * B0) + X * (A0 * B1 + A1 * B0) + X * X * (A0 * B2 + A1 * B1 + A2 * B0) + X * X * X * (A0 * B3 + A1 * B2 + A2 * B1 + A3 * B0) + X * X * X * X * (A0 * B4 + A1 * B3 + A2 * B2 + A3 * B1 + A4 * B0) + X * X * X * X * X * ((A1 * B4 + A2 * B3 + A3 * B2 + A4 * B1) + X * (A2 * B4 + A3 * B3 + A4 * B2) + X * X * (A3 * B4 + A4 * B3) + X * X * X * (A4 * B4)) := by grind
theorem sum5 (x0 x1 x2 x3 x4 : BitVec 64) (h0 : x0.toNat < 1152921504606846976) (h1 : x1.toNat < 1152921504606846976) (h2 : x2.toNat < 1152921504606846976) (h3 : x3.toNat < 1152921504606846976) (h4 : x4.toNat < 1152921504606846976) :
    ((((((0 : BitVec 64) + x0) + x1) + x2) + x3) + x4).toNat = x0.toNat + x1.toNat + x2.toNat + x3.toNat + x4.toNat := by
  have z : ((0 : BitVec 64) + x0) = x0 := BitVec.zero_add x0
  rw [z]
  have e1 := add_nat x0 x1 (by omega)
  have e2 := add_nat (x0 + x1) x2 (by omega)
  have e3 := add_nat (x0 + x1 + x2) x3 (by omega)
  have e4 := add_nat (x0 + x1 + x2 + x3) x4 (by omega)
  omega
theorem pr (x y : BitVec 64) (hx : x.toNat < 268435456) (hy : y.toNat < 67108864) : (x * y).toNat = x.toNat * y.toNat ∧ ((5 : BitVec 64) * (x * y)).toNat = 5 * (x.toNat * y.toNat) ∧ x.toNat * y.toNat ≤ 18014398509481984 := by
  have hb : x.toNat * y.toNat ≤ 268435456 * 67108864 := Nat.mul_le_mul (by omega) (by omega)
  have e1 := mul_nat x y (by omega)
  have e2 := mul_nat (5 : BitVec 64) (x * y) (by rw [e1, show (5 : BitVec 64).toNat = 5 from rfl]; omega)
  rw [e1, show (5 : BitVec 64).toNat = 5 from rfl] at e2
  exact ⟨e1, e2, by omega⟩
set_option maxHeartbeats 1000000 in
theorem times_val {a b : List (BitVec 64)} (ha : a.length = 5) (hA : ∀ i, (a.getD i 0).toNat < 268435456) (hb : b.length = 5) (hB : ∀ i, (b.getD i 0).toNat < 67108864) : Nar (times a b) ∧ ∃ k, v5 (times a b) + P130 * k = v5 a * v5 b := by
  obtain ⟨a0, a1, a2, a3, a4, rfl⟩ := list5 a ha
  obtain ⟨b0, b1, b2, b3, b4, rfl⟩ := list5 b hb
  have ha0 := hA 0; have ha1 := hA 1; have ha2 := hA 2; have ha3 := hA 3; have ha4 := hA 4
  have hb0 := hB 0; have hb1 := hB 1; have hb2 := hB 2; have hb3 := hB 3; have hb4 := hB 4
  simp only [List.getD_cons_zero, List.getD_cons_succ] at ha0 ha1 ha2 ha3 ha4 hb0 hb1 hb2 hb3 hb4
  unfold times
  rw [timesTo_eq]
  obtain ⟨p00, f00, w00⟩ := pr a0 b0 ha0 hb0
  obtain ⟨p01, f01, w01⟩ := pr a0 b1 ha0 hb1
  obtain ⟨p02, f02, w02⟩ := pr a0 b2 ha0 hb2
  obtain ⟨p03, f03, w03⟩ := pr a0 b3 ha0 hb3
  obtain ⟨p04, f04, w04⟩ := pr a0 b4 ha0 hb4
  obtain ⟨p10, f10, w10⟩ := pr a1 b0 ha1 hb0
  obtain ⟨p11, f11, w11⟩ := pr a1 b1 ha1 hb1
  obtain ⟨p12, f12, w12⟩ := pr a1 b2 ha1 hb2
  obtain ⟨p13, f13, w13⟩ := pr a1 b3 ha1 hb3
  obtain ⟨p14, f14, w14⟩ := pr a1 b4 ha1 hb4
  obtain ⟨p20, f20, w20⟩ := pr a2 b0 ha2 hb0
  obtain ⟨p21, f21, w21⟩ := pr a2 b1 ha2 hb1
  obtain ⟨p22, f22, w22⟩ := pr a2 b2 ha2 hb2
  obtain ⟨p23, f23, w23⟩ := pr a2 b3 ha2 hb3
  obtain ⟨p24, f24, w24⟩ := pr a2 b4 ha2 hb4
  obtain ⟨p30, f30, w30⟩ := pr a3 b0 ha3 hb0
  obtain ⟨p31, f31, w31⟩ := pr a3 b1 ha3 hb1
  obtain ⟨p32, f32, w32⟩ := pr a3 b2 ha3 hb2
  obtain ⟨p33, f33, w33⟩ := pr a3 b3 ha3 hb3
  obtain ⟨p34, f34, w34⟩ := pr a3 b4 ha3 hb4
  obtain ⟨p40, f40, w40⟩ := pr a4 b0 ha4 hb0
  obtain ⟨p41, f41, w41⟩ := pr a4 b1 ha4 hb1
  obtain ⟨p42, f42, w42⟩ := pr a4 b2 ha4 hb2
  obtain ⟨p43, f43, w43⟩ := pr a4 b3 ha4 hb3
  obtain ⟨p44, f44, w44⟩ := pr a4 b4 ha4 hb4
  have s0 := sum5 (a0 * b0) ((5 : BitVec 64) * (a1 * b4)) ((5 : BitVec 64) * (a2 * b3)) ((5 : BitVec 64) * (a3 * b2)) ((5 : BitVec 64) * (a4 * b1)) (by omega) (by omega) (by omega) (by omega) (by omega)
  rw [p00, f14, f23, f32, f41] at s0
  generalize ((((((0 : BitVec 64) + (a0 * b0)) + ((5 : BitVec 64) * (a1 * b4))) + ((5 : BitVec 64) * (a2 * b3))) + ((5 : BitVec 64) * (a3 * b2))) + ((5 : BitVec 64) * (a4 * b1))) = t0 at s0 ⊢
  have s1 := sum5 (a0 * b1) (a1 * b0) ((5 : BitVec 64) * (a2 * b4)) ((5 : BitVec 64) * (a3 * b3)) ((5 : BitVec 64) * (a4 * b2)) (by omega) (by omega) (by omega) (by omega) (by omega)
  rw [p01, p10, f24, f33, f42] at s1
  generalize ((((((0 : BitVec 64) + (a0 * b1)) + (a1 * b0)) + ((5 : BitVec 64) * (a2 * b4))) + ((5 : BitVec 64) * (a3 * b3))) + ((5 : BitVec 64) * (a4 * b2))) = t1 at s1 ⊢
  have s2 := sum5 (a0 * b2) (a1 * b1) (a2 * b0) ((5 : BitVec 64) * (a3 * b4)) ((5 : BitVec 64) * (a4 * b3)) (by omega) (by omega) (by omega) (by omega) (by omega)
  rw [p02, p11, p20, f34, f43] at s2
  generalize ((((((0 : BitVec 64) + (a0 * b2)) + (a1 * b1)) + (a2 * b0)) + ((5 : BitVec 64) * (a3 * b4))) + ((5 : BitVec 64) * (a4 * b3))) = t2 at s2 ⊢
  have s3 := sum5 (a0 * b3) (a1 * b2) (a2 * b1) (a3 * b0) ((5 : BitVec 64) * (a4 * b4)) (by omega) (by omega) (by omega) (by omega) (by omega)
  rw [p03, p12, p21, p30, f44] at s3
  generalize ((((((0 : BitVec 64) + (a0 * b3)) + (a1 * b2)) + (a2 * b1)) + (a3 * b0)) + ((5 : BitVec 64) * (a4 * b4))) = t3 at s3 ⊢
  have s4 := sum5 (a0 * b4) (a1 * b3) (a2 * b2) (a3 * b1) (a4 * b0) (by omega) (by omega) (by omega) (by omega) (by omega)
  rw [p04, p13, p22, p31, p40] at s4
  generalize ((((((0 : BitVec 64) + (a0 * b4)) + (a1 * b3)) + (a2 * b2)) + (a3 * b1)) + (a4 * b0)) = t4 at s4 ⊢
  have hv : v5 [a0, a1, a2, a3, a4] * v5 [b0, b1, b2, b3, b4] = (a0.toNat * b0.toNat) + 67108864 * (a0.toNat * b1.toNat + a1.toNat * b0.toNat) + 4503599627370496 * (a0.toNat * b2.toNat + a1.toNat * b1.toNat + a2.toNat * b0.toNat) + 302231454903657293676544 * (a0.toNat * b3.toNat + a1.toNat * b2.toNat + a2.toNat * b1.toNat + a3.toNat * b0.toNat) + 20282409603651670423947251286016 * (a0.toNat * b4.toNat + a1.toNat * b3.toNat + a2.toNat * b2.toNat + a3.toNat * b1.toNat + a4.toNat * b0.toNat) + 1361129467683753853853498429727072845824 * ((a1.toNat * b4.toNat + a2.toNat * b3.toNat + a3.toNat * b2.toNat + a4.toNat * b1.toNat) + 67108864 * (a2.toNat * b4.toNat + a3.toNat * b3.toNat + a4.toNat * b2.toNat) + 4503599627370496 * (a3.toNat * b4.toNat + a4.toNat * b3.toNat) + 302231454903657293676544 * (a4.toNat * b4.toNat)) := by
    have h := convN 67108864 (a0.toNat) (a1.toNat) (a2.toNat) (a3.toNat) (a4.toNat) (b0.toNat) (b1.toNat) (b2.toNat) (b3.toNat) (b4.toNat)
    simp only [Nat.reduceMul] at h
    exact h
  clear p00 f00 p01 f01 p02 f02 p03 f03 p04 f04 p10 f10 p11 f11 p12 f12 p13 f13 p14 f14 p20 f20 p21 f21 p22 f22 p23 f23 p24 f24 p30 f30 p31 f31 p32 f32 p33 f33 p34 f34 p40 f40 p41 f41 p42 f42 p43 f43 p44 f44 hA hB
  generalize a0.toNat * b0.toNat = e00 at w00 s0 hv
  generalize a0.toNat * b1.toNat = e01 at w01 s1 hv
  generalize a0.toNat * b2.toNat = e02 at w02 s2 hv
  generalize a0.toNat * b3.toNat = e03 at w03 s3 hv
  generalize a0.toNat * b4.toNat = e04 at w04 s4 hv
  generalize a1.toNat * b0.toNat = e10 at w10 s1 hv
  generalize a1.toNat * b1.toNat = e11 at w11 s2 hv
  generalize a1.toNat * b2.toNat = e12 at w12 s3 hv
  generalize a1.toNat * b3.toNat = e13 at w13 s4 hv
  generalize a1.toNat * b4.toNat = e14 at w14 s0 hv
  generalize a2.toNat * b0.toNat = e20 at w20 s2 hv
  generalize a2.toNat * b1.toNat = e21 at w21 s3 hv
  generalize a2.toNat * b2.toNat = e22 at w22 s4 hv
  generalize a2.toNat * b3.toNat = e23 at w23 s0 hv
  generalize a2.toNat * b4.toNat = e24 at w24 s1 hv
  generalize a3.toNat * b0.toNat = e30 at w30 s3 hv
  generalize a3.toNat * b1.toNat = e31 at w31 s4 hv
  generalize a3.toNat * b2.toNat = e32 at w32 s0 hv
  generalize a3.toNat * b3.toNat = e33 at w33 s1 hv
  generalize a3.toNat * b4.toNat = e34 at w34 s2 hv
  generalize a4.toNat * b0.toNat = e40 at w40 s4 hv
  generalize a4.toNat * b1.toNat = e41 at w41 s0 hv
  generalize a4.toNat * b2.toNat = e42 at w42 s1 hv
  generalize a4.toNat * b3.toNat = e43 at w43 s2 hv
  generalize a4.toNat * b4.toNat = e44 at w44 s3 hv
  obtain ⟨hn, k, hk⟩ := carry_val (l := [t0, t1, t2, t3, t4]) rfl (fun i => by
    match i with
    | 0 => show t0.toNat < _; omega
    | 1 => show t1.toNat < _; omega
    | 2 => show t2.toNat < _; omega
    | 3 => show t3.toNat < _; omega
    | 4 => show t4.toNat < _; omega
    | n + 5 => show (0 : BitVec 64).toNat < _; decide)
  refine ⟨hn, k + ((e14 + e23 + e32 + e41) + 67108864 * (e24 + e33 + e42) + 4503599627370496 * (e34 + e43) + 302231454903657293676544 * (e44)), ?_⟩
  rw [hv, Nat.mul_add, ← Nat.add_assoc, hk]
  unfold v5 P130
  simp only [List.getD_cons_zero, List.getD_cons_succ]
  omega
theorem carTo_eq (a0 a1 a2 a3 a4 o : BitVec 64) : (carTo [a0, a1, a2, a3, a4] o 5).1 = [(a0 + o) &&& (67108863 : BitVec 64), (a1 + (a0 + o) >>> 26) &&& (67108863 : BitVec 64), (a2 + (a1 + (a0 + o) >>> 26) >>> 26) &&& (67108863 : BitVec 64), (a3 + (a2 + (a1 + (a0 + o) >>> 26) >>> 26) >>> 26) &&& (67108863 : BitVec 64), (a4 + (a3 + (a2 + (a1 + (a0 + o) >>> 26) >>> 26) >>> 26) >>> 26) &&& (67108863 : BitVec 64)] := rfl
theorem held_eq (a0 a1 a2 a3 a4 : BitVec 64) : heldTo [a0, a1, a2, a3, a4] 5 = (a4 + (a3 + (a2 + (a1 + (a0 + (5 : BitVec 64)) >>> 26) >>> 26) >>> 26) >>> 26) >>> 26 := rfl
theorem lowest_eq (a0 a1 a2 a3 a4 : BitVec 64) : lowest [a0, a1, a2, a3, a4] = [(a0 + ((5 : BitVec 64) * (a4 + (a3 + (a2 + (a1 + (a0 + (5 : BitVec 64)) >>> 26) >>> 26) >>> 26) >>> 26) >>> 26)) &&& (67108863 : BitVec 64), (a1 + (a0 + ((5 : BitVec 64) * (a4 + (a3 + (a2 + (a1 + (a0 + (5 : BitVec 64)) >>> 26) >>> 26) >>> 26) >>> 26) >>> 26)) >>> 26) &&& (67108863 : BitVec 64), (a2 + (a1 + (a0 + ((5 : BitVec 64) * (a4 + (a3 + (a2 + (a1 + (a0 + (5 : BitVec 64)) >>> 26) >>> 26) >>> 26) >>> 26) >>> 26)) >>> 26) >>> 26) &&& (67108863 : BitVec 64), (a3 + (a2 + (a1 + (a0 + ((5 : BitVec 64) * (a4 + (a3 + (a2 + (a1 + (a0 + (5 : BitVec 64)) >>> 26) >>> 26) >>> 26) >>> 26) >>> 26)) >>> 26) >>> 26) >>> 26) &&& (67108863 : BitVec 64), (a4 + (a3 + (a2 + (a1 + (a0 + ((5 : BitVec 64) * (a4 + (a3 + (a2 + (a1 + (a0 + (5 : BitVec 64)) >>> 26) >>> 26) >>> 26) >>> 26) >>> 26)) >>> 26) >>> 26) >>> 26) >>> 26) &&& (67108863 : BitVec 64)] := by
  unfold lowest
  rw [carTo_eq, held_eq]
theorem chain5 (A0 A1 A2 A3 A4 O Z0 Z1 Z2 Z3 Z4 : Nat) (u0 : Z0 = A0 + O) (u1 : Z1 = A1 + Z0 / 67108864) (u2 : Z2 = A2 + Z1 / 67108864) (u3 : Z3 = A3 + Z2 / 67108864) (u4 : Z4 = A4 + Z3 / 67108864) :
    A0 + 67108864 * A1 + 4503599627370496 * A2 + 302231454903657293676544 * A3 + 20282409603651670423947251286016 * A4 + O = Z0 % 67108864 + 67108864 * (Z1 % 67108864) + 4503599627370496 * (Z2 % 67108864) + 302231454903657293676544 * (Z3 % 67108864) + 20282409603651670423947251286016 * (Z4 % 67108864) + 1361129467683753853853498429727072845824 * (Z4 / 67108864) := by
  have e0 := Nat.mod_add_div Z0 67108864
  have e1 := Nat.mod_add_div Z1 67108864
  have e2 := Nat.mod_add_div Z2 67108864
  have e3 := Nat.mod_add_div Z3 67108864
  have e4 := Nat.mod_add_div Z4 67108864
  generalize Z0 % 67108864 = M0 at *
  generalize Z1 % 67108864 = M1 at *
  generalize Z2 % 67108864 = M2 at *
  generalize Z3 % 67108864 = M3 at *
  generalize Z4 % 67108864 = M4 at *
  generalize Z0 / 67108864 = D0 at *
  generalize Z1 / 67108864 = D1 at *
  generalize Z2 / 67108864 = D2 at *
  generalize Z3 / 67108864 = D3 at *
  generalize Z4 / 67108864 = D4 at *
  omega
theorem low_fin (A0 A1 A2 A3 A4 Y0 Y1 Y2 Y3 Y4 Z0 Z1 Z2 Z3 Z4 O5 : Nat) (h0 : A0 < 67108864) (h1 : A1 < 134217728) (h2 : A2 < 67108864) (h3 : A3 < 67108864) (h4 : A4 < 67108864)
    (s0 : Y0 = A0 + 5) (s1 : Y1 = A1 + Y0 / 67108864) (s2 : Y2 = A2 + Y1 / 67108864) (s3 : Y3 = A3 + Y2 / 67108864) (s4 : Y4 = A4 + Y3 / 67108864) (t5 : O5 = 5 * (Y4 / 67108864))
    (u0 : Z0 = A0 + O5) (u1 : Z1 = A1 + Z0 / 67108864) (u2 : Z2 = A2 + Z1 / 67108864) (u3 : Z3 = A3 + Z2 / 67108864) (u4 : Z4 = A4 + Z3 / 67108864) :
    Z0 % 67108864 + 67108864 * (Z1 % 67108864) + 4503599627370496 * (Z2 % 67108864) + 302231454903657293676544 * (Z3 % 67108864) + 20282409603651670423947251286016 * (Z4 % 67108864) = (A0 + 67108864 * A1 + 4503599627370496 * A2 + 302231454903657293676544 * A3 + 20282409603651670423947251286016 * A4) % 1361129467683753853853498429727072845819 := by
  have c1 := chain5 A0 A1 A2 A3 A4 5 Y0 Y1 Y2 Y3 Y4 s0 s1 s2 s3 s4
  have c2 := chain5 A0 A1 A2 A3 A4 O5 Z0 Z1 Z2 Z3 Z4 u0 u1 u2 u3 u4
  have hV : A0 + 67108864 * A1 + 4503599627370496 * A2 + 302231454903657293676544 * A3 + 20282409603651670423947251286016 * A4 < 2722258935367507707706996859454145691638 := by omega
  have y0 := Nat.mod_lt Y0 (show 67108864 > 0 by decide); have y1 := Nat.mod_lt Y1 (show 67108864 > 0 by decide); have y2 := Nat.mod_lt Y2 (show 67108864 > 0 by decide); have y3 := Nat.mod_lt Y3 (show 67108864 > 0 by decide); have y4 := Nat.mod_lt Y4 (show 67108864 > 0 by decide)
  have z0 := Nat.mod_lt Z0 (show 67108864 > 0 by decide); have z1 := Nat.mod_lt Z1 (show 67108864 > 0 by decide); have z2 := Nat.mod_lt Z2 (show 67108864 > 0 by decide); have z3 := Nat.mod_lt Z3 (show 67108864 > 0 by decide); have z4 := Nat.mod_lt Z4 (show 67108864 > 0 by decide)
  generalize A0 + 67108864 * A1 + 4503599627370496 * A2 + 302231454903657293676544 * A3 + 20282409603651670423947251286016 * A4 = V at *
  clear s0 s1 s2 s3 s4 u0 u1 u2 u3 u4 h0 h1 h2 h3 h4
  generalize Y0 % 67108864 = M0 at *
  generalize Y1 % 67108864 = M1 at *
  generalize Y2 % 67108864 = M2 at *
  generalize Y3 % 67108864 = M3 at *
  generalize Y4 % 67108864 = M4 at *
  generalize Y4 / 67108864 = H at *
  generalize Z0 % 67108864 = N0 at *
  generalize Z1 % 67108864 = N1 at *
  generalize Z2 % 67108864 = N2 at *
  generalize Z3 % 67108864 = N3 at *
  generalize Z4 % 67108864 = N4 at *
  generalize Z4 / 67108864 = D at *
  have hH : H ≤ 1 := by omega
  have hL : N0 + 67108864 * N1 + 4503599627370496 * N2 + 302231454903657293676544 * N3 + 20282409603651670423947251286016 * N4 < 1361129467683753853853498429727072845824 := by omega
  have hM : M0 + 67108864 * M1 + 4503599627370496 * M2 + 302231454903657293676544 * M3 + 20282409603651670423947251286016 * M4 < 1361129467683753853853498429727072845824 := by omega
  generalize N0 + 67108864 * N1 + 4503599627370496 * N2 + 302231454903657293676544 * N3 + 20282409603651670423947251286016 * N4 = L at *
  generalize M0 + 67108864 * M1 + 4503599627370496 * M2 + 302231454903657293676544 * M3 + 20282409603651670423947251286016 * M4 = M at *
  have hc : H = 0 ∨ H = 1 := by omega
  rcases hc with rfl | rfl
  · have hD : D = 0 := by omega
    subst hD
    rw [Nat.mod_eq_of_lt (by omega)]
    omega
  · have hD : D = 1 := by omega
    subst hD
    have hVL : V = 1361129467683753853853498429727072845819 + L := by omega
    rw [hVL, Nat.add_mod_left, Nat.mod_eq_of_lt (by omega)]
theorem lowest_val5 {a : List (BitVec 64)} (h : Nar a) : v5 (lowest a) = v5 a % P130 ∧ ((lowest a).getD 0 0).toNat < 67108864 ∧ ((lowest a).getD 1 0).toNat < 67108864 ∧ ((lowest a).getD 2 0).toNat < 67108864 ∧ ((lowest a).getD 3 0).toNat < 67108864 ∧ ((lowest a).getD 4 0).toNat < 67108864 := by
  obtain ⟨hl, h0, h1, h2, h3, h4⟩ := h
  obtain ⟨a0, a1, a2, a3, a4, rfl⟩ := list5 a hl
  simp only [List.getD_cons_zero, List.getD_cons_succ] at h0 h1 h2 h3 h4
  rw [lowest_eq]
  have s0 := add_nat a0 (5 : BitVec 64) (by rw [show (5 : BitVec 64).toNat = 5 from rfl]; omega)
  rw [show (5 : BitVec 64).toNat = 5 from rfl] at s0
  generalize a0 + (5 : BitVec 64) = y0 at s0 ⊢
  have q0 := shr26 y0
  have s1 := add_nat a1 (y0 >>> 26) (by omega)
  generalize a1 + y0 >>> 26 = y1 at s1 ⊢
  have q1 := shr26 y1
  have s2 := add_nat a2 (y1 >>> 26) (by omega)
  generalize a2 + y1 >>> 26 = y2 at s2 ⊢
  have q2 := shr26 y2
  have s3 := add_nat a3 (y2 >>> 26) (by omega)
  generalize a3 + y2 >>> 26 = y3 at s3 ⊢
  have q3 := shr26 y3
  have s4 := add_nat a4 (y3 >>> 26) (by omega)
  generalize a4 + y3 >>> 26 = y4 at s4 ⊢
  have q4 := shr26 y4
  have t5 := mul_nat (5 : BitVec 64) (y4 >>> 26) (by rw [show (5 : BitVec 64).toNat = 5 from rfl]; omega)
  rw [show (5 : BitVec 64).toNat = 5 from rfl] at t5
  generalize (5 : BitVec 64) * y4 >>> 26 = o5 at t5 ⊢
  have u0 := add_nat a0 o5 (by omega)
  generalize a0 + o5 = z0 at u0 ⊢
  have r0 := shr26 z0
  have u1 := add_nat a1 (z0 >>> 26) (by omega)
  generalize a1 + z0 >>> 26 = z1 at u1 ⊢
  have r1 := shr26 z1
  have u2 := add_nat a2 (z1 >>> 26) (by omega)
  generalize a2 + z1 >>> 26 = z2 at u2 ⊢
  have r2 := shr26 z2
  have u3 := add_nat a3 (z2 >>> 26) (by omega)
  generalize a3 + z2 >>> 26 = z3 at u3 ⊢
  have r3 := shr26 z3
  have u4 := add_nat a4 (z3 >>> 26) (by omega)
  generalize a4 + z3 >>> 26 = z4 at u4 ⊢
  have m0 := m26 z0; have m1 := m26 z1; have m2 := m26 z2; have m3 := m26 z3; have m4 := m26 z4
  unfold v5 P130
  simp only [List.getD_cons_zero, List.getD_cons_succ]
  rw [m0, m1, m2, m3, m4]
  clear m0 m1 m2 m3 m4
  generalize a0.toNat = A0 at *
  generalize a1.toNat = A1 at *
  generalize a2.toNat = A2 at *
  generalize a3.toNat = A3 at *
  generalize a4.toNat = A4 at *
  rw [q0] at s1
  rw [q1] at s2
  rw [q2] at s3
  rw [q3] at s4
  rw [q4] at t5
  rw [r0] at u1
  rw [r1] at u2
  rw [r2] at u3
  rw [r3] at u4
  clear q0 q1 q2 q3 q4 r0 r1 r2 r3
  generalize y0.toNat = Y0 at *
  generalize y1.toNat = Y1 at *
  generalize y2.toNat = Y2 at *
  generalize y3.toNat = Y3 at *
  generalize y4.toNat = Y4 at *
  generalize z0.toNat = Z0 at *
  generalize z1.toNat = Z1 at *
  generalize z2.toNat = Z2 at *
  generalize z3.toNat = Z3 at *
  generalize z4.toNat = Z4 at *
  generalize o5.toNat = O5 at *
  refine ⟨low_fin A0 A1 A2 A3 A4 Y0 Y1 Y2 Y3 Y4 Z0 Z1 Z2 Z3 Z4 O5 h0 h1 h2 h3 h4 s0 s1 s2 s3 s4 t5 u0 u1 u2 u3 u4, Nat.mod_lt _ (by decide), Nat.mod_lt _ (by decide), Nat.mod_lt _ (by decide), Nat.mod_lt _ (by decide), Nat.mod_lt _ (by decide)⟩
theorem num_lo (n : Nat) : ∀ k, Sc.num (Fd.lo n k) = n % 256 ^ k
  | 0 => by show 0 = n % 1; omega
  | k + 1 => by
    rw [Fd.lo, Fd.num_append, num_lo n k, Fd.lo_length]
    show n % 256 ^ k + 256 ^ k * ((UInt8.ofNat (n / 256 ^ k % 256)).toNat + 256 * 0) = _
    rw [UInt8.toNat_ofNat', Nat.mod_eq_of_lt (by omega : n / 256 ^ k % 256 < 256), Nat.mul_zero, Nat.add_zero, Nat.mod_pow_succ]
theorem low_word (h : List (BitVec 64)) (h0 : (h.getD 0 0).toNat < 67108864) (h1 : (h.getD 1 0).toNat < 67108864) (h2 : (h.getD 2 0).toNat < 67108864) (h3 : (h.getD 3 0).toNat < 67108864) (_h4 : (h.getD 4 0).toNat < 67108864) :
    (lowWord h).toNat + 18446744073709551616 * (highWord h).toNat = v5 h % 340282366920938463463374607431768211456 := by
  unfold lowWord highWord v5
  generalize h.getD 0 0 = x0 at *
  generalize h.getD 1 0 = x1 at *
  generalize h.getD 2 0 = x2 at *
  generalize h.getD 3 0 = x3 at *
  generalize h.getD 4 0 = x4 at *
  have l1 : (x0 ||| x1 <<< 26).toNat = x0.toNat + 67108864 * x1.toNat := by
    rw [BitVec.toNat_or, BitVec.toNat_shiftLeft, Nat.shiftLeft_eq, show x1.toNat * 2 ^ 26 % 2 ^ 64 = 2 ^ 26 * x1.toNat by omega, Nat.or_comm, ← Nat.two_pow_add_eq_or_of_lt (i := 26) (by omega)]
    omega
  have l2 : (x0 ||| x1 <<< 26 ||| x2 <<< 52).toNat = x0.toNat + 67108864 * x1.toNat + 4503599627370496 * (x2.toNat % 4096) := by
    rw [BitVec.toNat_or, l1, BitVec.toNat_shiftLeft, Nat.shiftLeft_eq, show x2.toNat * 2 ^ 52 % 2 ^ 64 = 2 ^ 52 * (x2.toNat % 4096) by omega, Nat.or_comm, ← Nat.two_pow_add_eq_or_of_lt (i := 52) (by omega)]
    omega
  have g1 : (x2 >>> 12 ||| x3 <<< 14).toNat = x2.toNat / 4096 + 16384 * x3.toNat := by
    rw [BitVec.toNat_or, BitVec.toNat_ushiftRight, BitVec.toNat_shiftLeft, Nat.shiftRight_eq_div_pow, Nat.shiftLeft_eq, show x3.toNat * 2 ^ 14 % 2 ^ 64 = 2 ^ 14 * x3.toNat by omega, Nat.or_comm, ← Nat.two_pow_add_eq_or_of_lt (i := 14) (by omega)]
    omega
  have g2 : (x2 >>> 12 ||| x3 <<< 14 ||| x4 <<< 40).toNat = x2.toNat / 4096 + 16384 * x3.toNat + 1099511627776 * (x4.toNat % 16777216) := by
    rw [BitVec.toNat_or, g1, BitVec.toNat_shiftLeft, Nat.shiftLeft_eq, show x4.toNat * 2 ^ 40 % 2 ^ 64 = 2 ^ 40 * (x4.toNat % 16777216) by omega, Nat.or_comm, ← Nat.two_pow_add_eq_or_of_lt (i := 40) (by omega)]
    omega
  rw [l2, g2]
  omega
end Cc
end Go.Proofs.YtclpbaokadfhhaaGreatDoor
