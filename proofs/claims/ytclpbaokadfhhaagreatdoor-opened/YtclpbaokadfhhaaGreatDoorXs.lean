/- Several texts as one: Fv, Vf. -/
import Derived.Test.YtclpbaokadfhhaaGreatDoorXa
import Derived.Test.YtclpbaokadfhhaaGreatDoorZc
import Derived.Test.YtclpbaokadfhhaaGreatDoorXi
namespace Go.Proofs.YtclpbaokadfhhaaGreatDoor.Ff
open Gf (Fp ofN)

/-- the element that five parts stand for -/
def fe (a : List W) : Fp := ofN (val a)
theorem fe_of_cg {a b : Nat} (h : Cg a b) : ofN a = ofN b := Gf.ofN_eq.2 h
theorem plus_fe {a b : List W} (ha : Small a) (hb : Small b) : Small (plus a b) ∧ fe (plus a b) = fe a + fe b := by
  obtain ⟨h1, h2⟩ := plus_val a b ha hb
  refine ⟨h1.small, ?_⟩
  unfold fe
  rw [fe_of_cg h2, Gf.ofN_add]
theorem minus_fe {a b : List W} (ha : Small a) (hb : Small b) : Small (minus a b) ∧ fe (minus a b) = fe a - fe b := by
  obtain ⟨h1, h2⟩ := minus_val a b ha hb
  refine ⟨h1.small, ?_⟩
  unfold fe
  exact Gf.ofN_sub h2
theorem times_fe {a b : List W} (ha : Small a) (hb : Small b) : Small (times a b) ∧ fe (times a b) = fe a * fe b := by
  obtain ⟨h1, h2⟩ := times_val a b ha hb
  refine ⟨h1.small, ?_⟩
  unfold fe
  rw [fe_of_cg h2, Gf.ofN_mul]
theorem inverse_fe {a : List W} (ha : Small a) : Small (inverse a) ∧ fe (inverse a) = Gf.inv (fe a) := by
  obtain ⟨e, he⟩ : ∃ e, e + 2 = P := ⟨57896044618658097711785492504343953926634992332820282019728792003956564819947, rfl⟩
  obtain ⟨h1, h2⟩ := inverse_val a ha e he
  refine ⟨h1.small, ?_⟩
  unfold fe
  rw [fe_of_cg h2]
  exact Gf.ofN_inv _ _ he
theorem lowest_fe {a : List W} (ha : Small a) : val (lowest a) = Gf.toN (fe a) := by
  have := (lowest_val a (ha.mono (by omega))).2
  rw [this]; rfl
/-- equal elements have equal last forms -/
theorem sm_inj {a b : List W} (ha : Sm 2251799813685248 a) (hb : Sm 2251799813685248 b) (h : val a = val b) : a = b := by
  obtain ⟨a0, a1, a2, a3, a4, rfl⟩ := five a ha.1
  obtain ⟨b0, b1, b2, b3, b4, rfl⟩ := five b hb.1
  have p0 := ha.2 0 (by omega); have p1 := ha.2 1 (by omega); have p2 := ha.2 2 (by omega); have p3 := ha.2 3 (by omega); have p4 := ha.2 4 (by omega)
  have q0 := hb.2 0 (by omega); have q1 := hb.2 1 (by omega); have q2 := hb.2 2 (by omega); have q3 := hb.2 3 (by omega); have q4 := hb.2 4 (by omega)
  simp only [List.getD_cons_zero, List.getD_cons_succ] at p0 p1 p2 p3 p4 q0 q1 q2 q3 q4
  simp only [val, List.getD_cons_zero, List.getD_cons_succ] at h
  have e0 : a0.toNat = b0.toNat := by omega
  have e1 : a1.toNat = b1.toNat := by omega
  have e2 : a2.toNat = b2.toNat := by omega
  have e3 : a3.toNat = b3.toNat := by omega
  have e4 : a4.toNat = b4.toNat := by omega
  rw [BitVec.eq_of_toNat_eq e0, BitVec.eq_of_toNat_eq e1, BitVec.eq_of_toNat_eq e2, BitVec.eq_of_toNat_eq e3, BitVec.eq_of_toNat_eq e4]
theorem lowest_eq {a b : List W} (ha : Small a) (hb : Small b) (h : fe a = fe b) : lowest a = lowest b :=
  sm_inj (lowest_val a (ha.mono (by omega))).1 (lowest_val b (hb.mono (by omega))).1 (by rw [lowest_fe ha, lowest_fe hb, h])

end Go.Proofs.YtclpbaokadfhhaaGreatDoor.Ff

namespace Go.Proofs.YtclpbaokadfhhaaGreatDoor
open Ff (W)

namespace Ff
theorem byteAt_bit (y : W) (k m : Nat) : (bw ((y >>> k).toNat.toUInt8)).getLsbD m = (decide (m < 8) && y.getLsbD (k + m)) := by
  unfold bw
  have e : ((y >>> k).toNat.toUInt8).toNat = (y >>> k).toNat % 2 ^ 8 := by simp
  rw [e, BitVec.getLsbD_ofNat, Nat.testBit_mod_two_pow, BitVec.testBit_toNat, BitVec.getLsbD_ushiftRight]
  by_cases h : m < 8
  · simp [h, show m < 64 by omega]
  · simp [h]
theorem W0_bit (i : Nat) : BitVec.getLsbD (0 : W) i = false := BitVec.getLsbD_zero
theorem word_back (y : W) : (((((((((0 : W) ||| (bw ((y >>> (0 : Nat)).toNat.toUInt8) <<< (0 : Nat))) ||| (bw ((y >>> 8).toNat.toUInt8) <<< 8)) ||| (bw ((y >>> 16).toNat.toUInt8) <<< 16)) ||| (bw ((y >>> 24).toNat.toUInt8) <<< 24)) ||| (bw ((y >>> 32).toNat.toUInt8) <<< 32)) ||| (bw ((y >>> 40).toNat.toUInt8) <<< 40)) ||| (bw ((y >>> 48).toNat.toUInt8) <<< 48)) ||| (bw ((y >>> 56).toNat.toUInt8) <<< 56)) = y := by
  apply BitVec.eq_of_getLsbD_eq
  intro i hi
  simp only [BitVec.getLsbD_or, BitVec.getLsbD_shiftLeft, byteAt_bit, W0_bit]
  obtain ⟨q, r, hq, hr, rfl⟩ : ∃ q r, q < 8 ∧ r < 8 ∧ i = 8 * q + r := ⟨i / 8, i % 8, by omega, by omega, by omega⟩
  match q, hq with
  | 0, _ => simp only [show ¬ (8 * 0 + r < 0) by omega, show 8 * 0 + r - 0 < 8 by omega, show 0 + (8 * 0 + r - 0) = 8 * 0 + r by omega, show 8 * 0 + r < 8 by omega, show 8 * 0 + r < 16 by omega, show 8 * 0 + r < 24 by omega, show 8 * 0 + r < 32 by omega, show 8 * 0 + r < 40 by omega, show 8 * 0 + r < 48 by omega, show 8 * 0 + r < 56 by omega, show 8 * 0 + r < 64 by omega, decide_true, decide_false, Bool.false_and, Bool.and_false, Bool.true_and, Bool.and_true, Bool.not_true, Bool.not_false, Bool.or_false, Bool.false_or]
  | 1, _ => simp only [show ¬ (8 * 1 + r < 0) by omega, show ¬ (8 * 1 + r - 0 < 8) by omega, show ¬ (8 * 1 + r < 8) by omega, show 8 * 1 + r - 8 < 8 by omega, show 8 + (8 * 1 + r - 8) = 8 * 1 + r by omega, show 8 * 1 + r < 16 by omega, show 8 * 1 + r < 24 by omega, show 8 * 1 + r < 32 by omega, show 8 * 1 + r < 40 by omega, show 8 * 1 + r < 48 by omega, show 8 * 1 + r < 56 by omega, show 8 * 1 + r < 64 by omega, decide_true, decide_false, Bool.false_and, Bool.and_false, Bool.true_and, Bool.and_true, Bool.not_true, Bool.not_false, Bool.or_false, Bool.false_or, Bool.or_self]
  | 2, _ => simp only [show ¬ (8 * 2 + r < 0) by omega, show ¬ (8 * 2 + r - 0 < 8) by omega, show ¬ (8 * 2 + r < 8) by omega, show ¬ (8 * 2 + r - 8 < 8) by omega, show ¬ (8 * 2 + r < 16) by omega, show 8 * 2 + r - 16 < 8 by omega, show 16 + (8 * 2 + r - 16) = 8 * 2 + r by omega, show 8 * 2 + r < 24 by omega, show 8 * 2 + r < 32 by omega, show 8 * 2 + r < 40 by omega, show 8 * 2 + r < 48 by omega, show 8 * 2 + r < 56 by omega, show 8 * 2 + r < 64 by omega, decide_true, decide_false, Bool.false_and, Bool.and_false, Bool.true_and, Bool.and_true, Bool.not_true, Bool.not_false, Bool.or_false, Bool.false_or, Bool.or_self]
  | 3, _ => simp only [show ¬ (8 * 3 + r < 0) by omega, show ¬ (8 * 3 + r - 0 < 8) by omega, show ¬ (8 * 3 + r < 8) by omega, show ¬ (8 * 3 + r - 8 < 8) by omega, show ¬ (8 * 3 + r < 16) by omega, show ¬ (8 * 3 + r - 16 < 8) by omega, show ¬ (8 * 3 + r < 24) by omega, show 8 * 3 + r - 24 < 8 by omega, show 24 + (8 * 3 + r - 24) = 8 * 3 + r by omega, show 8 * 3 + r < 32 by omega, show 8 * 3 + r < 40 by omega, show 8 * 3 + r < 48 by omega, show 8 * 3 + r < 56 by omega, show 8 * 3 + r < 64 by omega, decide_true, decide_false, Bool.false_and, Bool.and_false, Bool.true_and, Bool.and_true, Bool.not_true, Bool.not_false, Bool.or_false, Bool.false_or, Bool.or_self]
  | 4, _ => simp only [show ¬ (8 * 4 + r < 0) by omega, show ¬ (8 * 4 + r - 0 < 8) by omega, show ¬ (8 * 4 + r < 8) by omega, show ¬ (8 * 4 + r - 8 < 8) by omega, show ¬ (8 * 4 + r < 16) by omega, show ¬ (8 * 4 + r - 16 < 8) by omega, show ¬ (8 * 4 + r < 24) by omega, show ¬ (8 * 4 + r - 24 < 8) by omega, show ¬ (8 * 4 + r < 32) by omega, show 8 * 4 + r - 32 < 8 by omega, show 32 + (8 * 4 + r - 32) = 8 * 4 + r by omega, show 8 * 4 + r < 40 by omega, show 8 * 4 + r < 48 by omega, show 8 * 4 + r < 56 by omega, show 8 * 4 + r < 64 by omega, decide_true, decide_false, Bool.false_and, Bool.and_false, Bool.true_and, Bool.and_true, Bool.not_true, Bool.not_false, Bool.or_false, Bool.false_or, Bool.or_self]
  | 5, _ => simp only [show ¬ (8 * 5 + r < 0) by omega, show ¬ (8 * 5 + r - 0 < 8) by omega, show ¬ (8 * 5 + r < 8) by omega, show ¬ (8 * 5 + r - 8 < 8) by omega, show ¬ (8 * 5 + r < 16) by omega, show ¬ (8 * 5 + r - 16 < 8) by omega, show ¬ (8 * 5 + r < 24) by omega, show ¬ (8 * 5 + r - 24 < 8) by omega, show ¬ (8 * 5 + r < 32) by omega, show ¬ (8 * 5 + r - 32 < 8) by omega, show ¬ (8 * 5 + r < 40) by omega, show 8 * 5 + r - 40 < 8 by omega, show 40 + (8 * 5 + r - 40) = 8 * 5 + r by omega, show 8 * 5 + r < 48 by omega, show 8 * 5 + r < 56 by omega, show 8 * 5 + r < 64 by omega, decide_true, decide_false, Bool.false_and, Bool.and_false, Bool.true_and, Bool.and_true, Bool.not_true, Bool.not_false, Bool.or_false, Bool.false_or, Bool.or_self]
  | 6, _ => simp only [show ¬ (8 * 6 + r < 0) by omega, show ¬ (8 * 6 + r - 0 < 8) by omega, show ¬ (8 * 6 + r < 8) by omega, show ¬ (8 * 6 + r - 8 < 8) by omega, show ¬ (8 * 6 + r < 16) by omega, show ¬ (8 * 6 + r - 16 < 8) by omega, show ¬ (8 * 6 + r < 24) by omega, show ¬ (8 * 6 + r - 24 < 8) by omega, show ¬ (8 * 6 + r < 32) by omega, show ¬ (8 * 6 + r - 32 < 8) by omega, show ¬ (8 * 6 + r < 40) by omega, show ¬ (8 * 6 + r - 40 < 8) by omega, show ¬ (8 * 6 + r < 48) by omega, show 8 * 6 + r - 48 < 8 by omega, show 48 + (8 * 6 + r - 48) = 8 * 6 + r by omega, show 8 * 6 + r < 56 by omega, show 8 * 6 + r < 64 by omega, decide_true, decide_false, Bool.false_and, Bool.and_false, Bool.true_and, Bool.and_true, Bool.not_true, Bool.not_false, Bool.or_false, Bool.false_or, Bool.or_self]
  | 7, _ => simp only [show ¬ (8 * 7 + r < 0) by omega, show ¬ (8 * 7 + r - 0 < 8) by omega, show ¬ (8 * 7 + r < 8) by omega, show ¬ (8 * 7 + r - 8 < 8) by omega, show ¬ (8 * 7 + r < 16) by omega, show ¬ (8 * 7 + r - 16 < 8) by omega, show ¬ (8 * 7 + r < 24) by omega, show ¬ (8 * 7 + r - 24 < 8) by omega, show ¬ (8 * 7 + r < 32) by omega, show ¬ (8 * 7 + r - 32 < 8) by omega, show ¬ (8 * 7 + r < 40) by omega, show ¬ (8 * 7 + r - 40 < 8) by omega, show ¬ (8 * 7 + r < 48) by omega, show ¬ (8 * 7 + r - 48 < 8) by omega, show ¬ (8 * 7 + r < 56) by omega, show 8 * 7 + r - 56 < 8 by omega, show 56 + (8 * 7 + r - 56) = 8 * 7 + r by omega, show 8 * 7 + r < 64 by omega, decide_true, decide_false, Bool.false_and, Bool.and_false, Bool.true_and, Bool.and_true, Bool.not_false, Bool.false_or, Bool.or_self]

theorem M51_bit (i : Nat) : M51.getLsbD i = decide (i < 51) := by
  have e : M51 = BitVec.ofNat 64 (2 ^ 51 - 1) := by decide
  rw [e, BitVec.getLsbD_ofNat, Nat.testBit_two_pow_sub_one]
  by_cases h : i < 51
  · simp [h, show i < 64 by omega]
  · simp [h]
theorem bit_no {x : W} (h : x.toNat < 2251799813685248) {i : Nat} (hi : 51 ≤ i) : x.getLsbD i = false := by
  rw [← BitVec.testBit_toNat]
  apply Nat.testBit_lt_two_pow
  have : 2 ^ 51 ≤ 2 ^ i := Nat.pow_le_pow_right (by omega) hi
  omega
/-- a word of eight bytes -/
def word (f : Nat → UInt8) (j : Nat) : W := (((((((((0 : W) ||| (bw (f j) <<< (0 : Nat))) ||| (bw (f (j + 1)) <<< 8)) ||| (bw (f (j + 2)) <<< 16)) ||| (bw (f (j + 3)) <<< 24)) ||| (bw (f (j + 4)) <<< 32)) ||| (bw (f (j + 5)) <<< 40)) ||| (bw (f (j + 6)) <<< 48)) ||| (bw (f (j + 7)) <<< 56))
theorem wordsTo_eq (f : Nat → UInt8) : wordsTo f 32 = [word f 0, word f 8, word f 16, word f 24] := by
  have e8 : wordsTo f 8 = [word f 0, 0, 0, 0] := rfl
  have e16 : wordsTo f 16 = [word f 0, word f 8, 0, 0] := by
    simp only [wordsTo] at e8 ⊢
    simp only [e8]
    rfl
  have e24 : wordsTo f 24 = [word f 0, word f 8, word f 16, 0] := by
    simp only [wordsTo] at e16 ⊢
    simp only [e16]
    rfl
  simp only [wordsTo] at e24 ⊢
  simp only [e24]
  rfl
theorem bytesTo_at (l : List W) : ∀ k i : Nat, k ≤ 32 → i < k → (bytesTo l k).getD i 0 = byteAt l i
  | k + 1, i, hk, hi => by
    rw [bytesTo]
    have hl := bytesTo_length l k
    by_cases h : i = k
    · subst h
      simp [List.getD, hl, show i < 32 by omega]
    · have := bytesTo_at l k i (by omega) (by omega)
      rw [← this]
      simp [List.getD, List.getElem?_set_ne (Ne.symm h)]
theorem word_byteAt (l : List W) (g : Nat → UInt8) (q : Nat) (h : ∀ i, i < 8 → g (8 * q + i) = byteAt l (8 * q + i)) : word g (8 * q) = l.getD q 0 := by
  have h0 := h 0 (by omega)
  have h1 := h 1 (by omega)
  have h2 := h 2 (by omega)
  have h3 := h 3 (by omega)
  have h4 := h 4 (by omega)
  have h5 := h 5 (by omega)
  have h6 := h 6 (by omega)
  have h7 := h 7 (by omega)
  unfold byteAt at h0 h1 h2 h3 h4 h5 h6 h7
  rw [show (8 * q + 0) / 8 = q by omega, show (8 * q + 0) % 8 * 8 = 0 by omega] at h0
  rw [show (8 * q + 1) / 8 = q by omega, show (8 * q + 1) % 8 * 8 = 8 by omega] at h1
  rw [show (8 * q + 2) / 8 = q by omega, show (8 * q + 2) % 8 * 8 = 16 by omega] at h2
  rw [show (8 * q + 3) / 8 = q by omega, show (8 * q + 3) % 8 * 8 = 24 by omega] at h3
  rw [show (8 * q + 4) / 8 = q by omega, show (8 * q + 4) % 8 * 8 = 32 by omega] at h4
  rw [show (8 * q + 5) / 8 = q by omega, show (8 * q + 5) % 8 * 8 = 40 by omega] at h5
  rw [show (8 * q + 6) / 8 = q by omega, show (8 * q + 6) % 8 * 8 = 48 by omega] at h6
  rw [show (8 * q + 7) / 8 = q by omega, show (8 * q + 7) % 8 * 8 = 56 by omega] at h7
  rw [Nat.add_zero] at h0
  unfold word
  rw [h0, h1, h2, h3, h4, h5, h6, h7]
  exact word_back _
theorem words_back (l : List W) (hl : l.length = 4) : wordsTo (fun i => (bytesTo l 32).getD i 0) 32 = l := by
  have e : ∀ q, q < 4 → word (fun i => (bytesTo l 32).getD i 0) (8 * q) = l.getD q 0 := fun q hq => word_byteAt l _ q fun i hi => bytesTo_at l 32 _ (by omega) (by omega)
  rw [wordsTo_eq]
  have e0 := e 0 (by omega)
  have e1 := e 1 (by omega)
  have e2 := e 2 (by omega)
  have e3 := e 3 (by omega)
  rw [e0, e1, e2, e3]
  obtain ⟨a, b, c, d, rfl⟩ := four4 l hl
  rfl
theorem part_back {x y z : W} (hz : z.toNat < 2251799813685248) (a b : Nat) (h : ∀ i, i < 51 → i < b → x.getLsbD (a + i) = z.getLsbD i) (h2 : ∀ i, i < 51 → b ≤ i → x.getLsbD (a + i) = false) (h3 : ∀ i, i < 51 → b ≤ i → y.getLsbD (i - b) = z.getLsbD i) : ((x >>> a) ||| (y <<< b)) &&& M51 = z := by
  apply BitVec.eq_of_getLsbD_eq
  intro i hi
  rw [BitVec.getLsbD_and, BitVec.getLsbD_or, BitVec.getLsbD_ushiftRight, BitVec.getLsbD_shiftLeft, M51_bit]
  by_cases h51 : i < 51
  · by_cases hb : i < b
    · rw [h i h51 hb]; simp [h51, hb]
    · rw [h2 i h51 (by omega), h3 i h51 (by omega)]; simp [h51, hb, hi]
  · rw [bit_no hz (by omega)]; simp [h51]
theorem wbit (x y : W) (s t j : Nat) : ((x >>> s) ||| (y <<< t)).getLsbD j = (x.getLsbD (s + j) || (decide (j < 64) && !decide (j < t) && y.getLsbD (j - t))) := by
  rw [BitVec.getLsbD_or, BitVec.getLsbD_ushiftRight, BitVec.getLsbD_shiftLeft]
theorem five_back {x0 x1 x2 x3 x4 : W} (h0 : x0.toNat < 2251799813685248) (h1 : x1.toNat < 2251799813685248) (h2 : x2.toNat < 2251799813685248) (h3 : x3.toNat < 2251799813685248) (h4 : x4.toNat < 2251799813685248) :
    five4 (words4 [x0, x1, x2, x3, x4]) = [x0, x1, x2, x3, x4] := by
  have e0 : x0 ||| (x1 <<< 51) = (x0 >>> (0 : Nat)) ||| (x1 <<< 51) := by simp
  have p0 : (x0 ||| (x1 <<< 51)) &&& M51 = x0 := by
    apply BitVec.eq_of_getLsbD_eq
    intro i hi
    rw [BitVec.getLsbD_and, BitVec.getLsbD_or, BitVec.getLsbD_shiftLeft, M51_bit]
    by_cases h51 : i < 51
    · simp [h51]
    · rw [bit_no h0 (by omega)]; simp [h51]
  have p1 : (((x0 ||| (x1 <<< 51)) >>> 51) ||| (((x1 >>> 13) ||| (x2 <<< 38)) <<< 13)) &&& M51 = x1 := by
    rw [e0]
    refine part_back h1 51 13 (fun i h51 hb => ?_) (fun i h51 hb => ?_) (fun i h51 hb => ?_)
    · rw [wbit, bit_no h0 (by omega), show 51 + i - 51 = i by omega]; simp [show 51 + i < 64 by omega]
    · rw [wbit, bit_no h0 (by omega)]; simp [show ¬ (51 + i < 64) by omega]
    · rw [wbit, show 13 + (i - 13) = i by omega]; simp [show i - 13 < 38 by omega]
  have p2 : ((((x1 >>> 13) ||| (x2 <<< 38)) >>> 38) ||| (((x2 >>> 26) ||| (x3 <<< 25)) <<< 26)) &&& M51 = x2 := by
    refine part_back h2 38 26 (fun i h51 hb => ?_) (fun i h51 hb => ?_) (fun i h51 hb => ?_)
    · rw [wbit, bit_no h1 (by omega), show 38 + i - 38 = i by omega]; simp [show 38 + i < 64 by omega]
    · rw [wbit, bit_no h1 (by omega)]; simp [show ¬ (38 + i < 64) by omega]
    · rw [wbit, show 26 + (i - 26) = i by omega]; simp [show i - 26 < 25 by omega]
  have p3 : ((((x2 >>> 26) ||| (x3 <<< 25)) >>> 25) ||| (((x3 >>> 39) ||| (x4 <<< 12)) <<< 39)) &&& M51 = x3 := by
    refine part_back h3 25 39 (fun i h51 hb => ?_) (fun i h51 hb => ?_) (fun i h51 hb => ?_)
    · rw [wbit, bit_no h2 (by omega), show 25 + i - 25 = i by omega]; simp [show 25 + i < 64 by omega]
    · rw [wbit, bit_no h2 (by omega)]; simp [show ¬ (25 + i < 64) by omega]
    · rw [wbit, show 39 + (i - 39) = i by omega]; simp [show i - 39 < 12 by omega]
  have p4 : (((x3 >>> 39) ||| (x4 <<< 12)) >>> 12) &&& M51 = x4 := by
    apply BitVec.eq_of_getLsbD_eq
    intro i hi
    rw [BitVec.getLsbD_and, BitVec.getLsbD_ushiftRight, wbit, M51_bit]
    by_cases h51 : i < 51
    · rw [bit_no h3 (by omega), show 12 + i - 12 = i by omega]; simp [h51, show 12 + i < 64 by omega]
    · rw [bit_no h4 (i := i) (by omega)]; simp [h51]
  show [(x0 ||| (x1 <<< 51)) &&& M51, (((x0 ||| (x1 <<< 51)) >>> 51) ||| (((x1 >>> 13) ||| (x2 <<< 38)) <<< 13)) &&& M51, ((((x1 >>> 13) ||| (x2 <<< 38)) >>> 38) ||| (((x2 >>> 26) ||| (x3 <<< 25)) <<< 26)) &&& M51, ((((x2 >>> 26) ||| (x3 <<< 25)) >>> 25) ||| (((x3 >>> 39) ||| (x4 <<< 12)) <<< 39)) &&& M51, (((x3 >>> 39) ||| (x4 <<< 12)) >>> 12) &&& M51] = [x0, x1, x2, x3, x4]
  rw [p0, p1, p2, p3, p4]
/-- told and read again: the same element -/
theorem of_bytes {a : List W} (ha : Small a) : fe (of (bytes a)) = fe a := by
  have hl := (lowest_val a (ha.mono (by omega))).1
  have hf := lowest_fe ha
  unfold bytes of
  generalize lowest a = b at hl hf
  rw [words_back (words4 b) rfl]
  obtain ⟨x0, x1, x2, x3, x4, rfl⟩ := five b hl.1
  have p0 := hl.2 0 (by omega); have p1 := hl.2 1 (by omega); have p2 := hl.2 2 (by omega); have p3 := hl.2 3 (by omega); have p4 := hl.2 4 (by omega)
  simp only [List.getD_cons_zero, List.getD_cons_succ] at p0 p1 p2 p3 p4
  rw [five_back p0 p1 p2 p3 p4]
  show Gf.ofN (val [x0, x1, x2, x3, x4]) = fe a
  rw [hf, Gf.ofN_toN]
theorem bw_low (x : UInt8) (m : Nat) (hm : m < 7) : (bw x).getLsbD m = (bw (x &&& 127)).getLsbD m := by
  unfold bw
  rw [BitVec.getLsbD_ofNat, BitVec.getLsbD_ofNat, UInt8.toNat_and, Nat.testBit_and, show (127 : UInt8).toNat = 2 ^ 7 - 1 from rfl, Nat.testBit_two_pow_sub_one]
  simp [hm]
/-- the highest bit is not read -/
theorem of_high (f g : Nat → UInt8) (h : ∀ i, i < 31 → f i = g i) (h31 : f 31 &&& 127 = g 31 &&& 127) : five4 (wordsTo f 32) = five4 (wordsTo g 32) := by
  rw [wordsTo_eq, wordsTo_eq]
  have e : ∀ j, j < 24 → word f j = word g j := by
    intro j hj
    unfold word
    rw [h j (by omega), h (j + 1) (by omega), h (j + 2) (by omega), h (j + 3) (by omega), h (j + 4) (by omega), h (j + 5) (by omega), h (j + 6) (by omega), h (j + 7) (by omega)]
  have e3 : ∀ m, m < 63 → (word f 24).getLsbD m = (word g 24).getLsbD m := by
    intro m hm
    unfold word
    rw [h 24 (by omega), h (24 + 1) (by omega), h (24 + 2) (by omega), h (24 + 3) (by omega), h (24 + 4) (by omega), h (24 + 5) (by omega), h (24 + 6) (by omega)]
    rw [BitVec.getLsbD_or, BitVec.getLsbD_or (y := bw (g (24 + 7)) <<< 56), BitVec.getLsbD_shiftLeft, BitVec.getLsbD_shiftLeft]
    by_cases h56 : m < 56
    · simp [h56]
    · rw [bw_low (f (24 + 7)) (m - 56) (by omega), bw_low (g (24 + 7)) (m - 56) (by omega), show f (24 + 7) &&& 127 = g (24 + 7) &&& 127 from h31]
  rw [e 0 (by omega), e 8 (by omega), e 16 (by omega)]
  generalize word f 24 = a at e3
  generalize word g 24 = b at e3
  generalize word g 0 = w0
  generalize word g 8 = w1
  generalize word g 16 = w2
  have p3 : ((w2 >>> 25) ||| (a <<< 39)) &&& M51 = ((w2 >>> 25) ||| (b <<< 39)) &&& M51 := by
    apply BitVec.eq_of_getLsbD_eq
    intro i hi
    rw [BitVec.getLsbD_and, BitVec.getLsbD_and, wbit, wbit, M51_bit]
    by_cases h51 : i < 51
    · rw [e3 (i - 39) (by omega)]
    · simp [h51]
  have p4 : (a >>> 12) &&& M51 = (b >>> 12) &&& M51 := by
    apply BitVec.eq_of_getLsbD_eq
    intro i hi
    rw [BitVec.getLsbD_and, BitVec.getLsbD_and, BitVec.getLsbD_ushiftRight, BitVec.getLsbD_ushiftRight, M51_bit]
    by_cases h51 : i < 51
    · rw [e3 (12 + i) (by omega)]
    · simp [h51]
  show [w0 &&& M51, ((w0 >>> 51) ||| (w1 <<< 13)) &&& M51, ((w1 >>> 38) ||| (w2 <<< 26)) &&& M51, ((w2 >>> 25) ||| (a <<< 39)) &&& M51, (a >>> 12) &&& M51] = [w0 &&& M51, ((w0 >>> 51) ||| (w1 <<< 13)) &&& M51, ((w1 >>> 38) ||| (w2 <<< 26)) &&& M51, ((w2 >>> 25) ||| (b <<< 39)) &&& M51, (b >>> 12) &&& M51]
  rw [p3, p4]
theorem of_little (l : List UInt8) : Small (Ff.of l) := by
  refine ⟨rfl, ?_⟩
  have h : ∀ x : BitVec 64, (x &&& Ff.M51).toNat < 4503599627370496 := by
    intro x
    rw [Ff.and51]; omega
  intro k hk
  match k, hk with
  | 0, _ => exact h _
  | 1, _ => exact h _
  | 2, _ => exact h _
  | 3, _ => exact h _
  | 4, _ => exact h _
end Ff
end Go.Proofs.YtclpbaokadfhhaaGreatDoor
