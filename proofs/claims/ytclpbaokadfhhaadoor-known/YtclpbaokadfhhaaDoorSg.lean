/- Signatures (package sign): what is made, and that it is right. No program in it. -/
import Derived.Test.YtclpbaokadfhhaaDoorCvb
import Derived.Test.YtclpbaokadfhhaaDoorChg
namespace Go.Proofs.YtclpbaokadfhhaaDoor
namespace Sc
/-- a number's 32 bytes -/
def bytes (a : List W) : List UInt8 := Ff.bytesTo a 32
theorem bytes_length (a : List W) : (bytes a).length = 32 := Ff.bytesTo_length _ _
theorem mod_bit (M r : Nat) (hr : r < 8) : M % 256 / 2 ^ r % 2 = M / 2 ^ r % 2 := by
  have h : 256 = 2 ^ r * (2 * 2 ^ (7 - r)) := by
    rw [← Nat.mul_assoc, ← Nat.pow_succ, ← Nat.pow_add, show r.succ + (7 - r) = 8 by omega]
  have e : M = M % 256 + 2 ^ r * (2 * (2 ^ (7 - r) * (M / 256))) := by
    rw [← Nat.mul_assoc, ← Nat.mul_assoc, Nat.mul_assoc (2 ^ r), ← h]; omega
  conv => rhs; rw [e]
  rw [Nat.add_mul_div_left _ _ (Nat.two_pow_pos r), Nat.add_mul_mod_self_left]
theorem byteAt_bit (a : List W) (k : Nat) : (Ff.byteAt a (k / 8)).toNat / 2 ^ (k % 8) % 2 = (bit a k).toNat := by
  unfold Ff.byteAt bit
  rw [and_one, BitVec.toNat_ushiftRight, BitVec.toNat_ushiftRight, Nat.shiftRight_eq_div_pow, Nat.shiftRight_eq_div_pow, show k / 8 / 8 = k / 64 by omega]
  generalize (a.getD (k / 64) 0).toNat = L
  simp only [Nat.toUInt8, UInt8.toNat_ofNat']
  show L / 2 ^ (k / 8 % 8 * 8) % 256 / 2 ^ (k % 8) % 2 = _
  rw [mod_bit _ _ (Nat.mod_lt _ (by decide)), Nat.div_div_eq_div_mul, ← Nat.pow_add]
  congr 3; omega
theorem bytes_num (a : List W) (ha : a.length = 4) : num (bytes a) = val a := by
  have hl := bytes_length a
  have h1 := num_lt (bytes a)
  have h2 := val_lt a
  rw [hl] at h1
  apply Nat.eq_of_testBit_eq
  intro k
  rw [Nat.testBit_eq_decide_div_mod_eq, Nat.testBit_eq_decide_div_mod_eq]
  by_cases hk : k < 256
  · rw [num_bit _ _ (by rw [hl]; omega)]
    have e : (bytes a).getD (k / 8) 0 = Ff.byteAt a (k / 8) := Ff.bytesTo_at a 32 (k / 8) (by omega) (by omega)
    rw [e, byteAt_bit, bit_val a ha k hk]
  · have hp : 2 ^ 256 ≤ 2 ^ k := Nat.pow_le_pow_right (by decide) (by omega)
    rw [Nat.div_eq_of_lt (by omega), Nat.div_eq_of_lt (by omega)]
/-- a number below Q, told, is read again -/
theorem of_bytes {a : List W} (ha : Fine a) : of (bytes a) = a := by
  obtain ⟨f, v⟩ := of_val (bytes a)
  refine val_inj f.1 ha.1 ?_
  rw [v, bytes_num a ha.1, Nat.mod_eq_of_lt ha.2]
/-- 32 bytes of a number from Q on are told otherwise -/
theorem bytes_other {l : List UInt8} (h : Q ≤ num l) : bytes (of l) ≠ l := by
  intro e
  obtain ⟨f, v⟩ := of_val l
  have := bytes_num (of l) f.1
  rw [e] at this
  have := f.2
  omega
end Sc

namespace Sg
open Ff (W)
variable (H : List UInt8 → List UInt8)
def secret (seed : List UInt8) : List W := Sc.of (changed ((H seed).take 32))
def rest (seed : List UInt8) : List UInt8 := (H seed).drop 32
def identity (seed : List UInt8) : List UInt8 := Cv.bytes (Cv.timesN Cv.base (secret H seed))
def tie (first id data : List UInt8) : List W := Sc.of (H (first ++ id ++ data))
def once (seed data : List UInt8) : List W := Sc.of (H (rest H seed ++ data))
def first (seed data : List UInt8) : List UInt8 := Cv.bytes (Cv.timesN Cv.base (once H seed data))
def last (seed data : List UInt8) : List W := Sc.plus (once H seed data) (Sc.times (tie H (first H seed data) (identity H seed) data) (secret H seed))
def sign (seed data : List UInt8) : List UInt8 := first H seed data ++ Sc.bytes (last H seed data)
/-- the bytes that the first half must be -/
def want (p : Cv.Pn) (id data f : List UInt8) (n : List W) : List UInt8 := Cv.bytes (Cv.plus (Cv.timesN Cv.base n) (Cv.negated (Cv.timesN p (tie H f id data))))
def right (id data sig : List UInt8) : Bool :=
  if (Cv.of id).2 = true then (if Sc.bytes (Sc.of (sig.drop 32)) = sig.drop 32 then decide (want H (Cv.of id).1 id data (sig.take 32) (Sc.of (sig.drop 32)) = sig.take 32) else false) else false
theorem identity_length (seed : List UInt8) : (identity H seed).length = 32 := by unfold identity; exact Cv.bytes_length _
theorem first_length (seed data : List UInt8) : (first H seed data).length = 32 := by unfold first; exact Cv.bytes_length _
theorem sign_length (seed data : List UInt8) : (sign H seed data).length = 64 := by
  unfold sign; rw [List.length_append, first_length, Sc.bytes_length]
theorem last_fine (seed data : List UInt8) : Sc.Fine (last H seed data) ∧ Sc.val (last H seed data) = (Sc.val (once H seed data) + Sc.val (tie H (first H seed data) (identity H seed) data) * Sc.val (secret H seed)) % Sc.Q := by
  have h1 : Sc.Fine (once H seed data) := (Sc.of_val _).1
  have h2 : Sc.Fine (tie H (first H seed data) (identity H seed) data) := (Sc.of_val _).1
  have h3 : Sc.Fine (secret H seed) := (Sc.of_val _).1
  obtain ⟨f1, v1⟩ := Sc.times_val h2 h3
  obtain ⟨f2, v2⟩ := Sc.plus_val h1 f1
  unfold last
  refine ⟨f2, ?_⟩
  rw [v2, v1, Nat.add_mod_mod]
theorem sign_take (seed data : List UInt8) : (sign H seed data).take 32 = first H seed data := by
  unfold sign; rw [List.take_left' (first_length H seed data)]
theorem sign_drop (seed data : List UInt8) : (sign H seed data).drop 32 = Sc.bytes (last H seed data) := by
  unfold sign; rw [List.drop_left' (first_length H seed data)]
theorem back {p q : Gf.Pt} : Ed.add Gf.S (Ed.add Gf.S p q) (Ed.neg Gf.S q) = p := by
  rw [Ed.add_assoc, Ed.add_neg, Ed.add_zero]
/-- what was signed is right -/
theorem sign_right (seed data : List UInt8) : right H (identity H seed) data (sign H seed data) = true := by
  have hs : Sc.Fine (secret H seed) := (Sc.of_val _).1
  have ho : Sc.Fine (once H seed data) := (Sc.of_val _).1
  have ht : Sc.Fine (tie H (first H seed data) (identity H seed) data) := (Sc.of_val _).1
  obtain ⟨hl, vl⟩ := last_fine H seed data
  have iA := Cv.base_is.times hs
  have iR := Cv.base_is.times ho
  have iL := Cv.base_is.times hl
  obtain ⟨b, eb, ib⟩ := Cv.of_bytes iA
  have iK := (Cv.Is.times ib ht).neg
  have iS := iL.plus iK
  rw [vl, Cv.mul_mod, Ed.mul_add, Ed.mul_mul, back] at iS
  have e := Cv.Is.bytes iS iR
  have eb' : Cv.of (identity H seed) = (b, true) := eb
  unfold right
  rw [sign_take, sign_drop, Sc.of_bytes hl, eb', if_pos rfl, if_pos rfl]
  exact decide_eq_true e
/-- with a number from Q on it is not -/
theorem more_wrong (id data : List UInt8) {sig : List UInt8} (h : Sc.Q ≤ Sc.num (sig.drop 32)) : right H id data sig = false := by
  unfold right
  rw [if_neg (Sc.bytes_other h)]
  by_cases hc : (Cv.of id).2 = true
  · rw [if_pos hc]
  · rw [if_neg hc]
end Sg
end Go.Proofs.YtclpbaokadfhhaaDoor
