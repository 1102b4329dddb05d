/- The document's numbers as elements of the field; what they are told as: no program in it. -/
import Derived.Test.YtclpbaokadfhhaaGreatDoorRFval
import Derived.Test.YtclpbaokadfhhaaGreatDoorRFnum
import Derived.Test.YtclpbaokadfhhaaGreatDoorMa
import Derived.Test.YtclpbaokadfhhaaGreatDoorSc
namespace Go.Proofs.YtclpbaokadfhhaaGreatDoor
namespace Fd
open Gf (Fp ofN)
theorem PI_eq : PI = ((Pr.P : Nat) : Int) := rfl
theorem PI_pos : 0 < PI := by unfold PI; omega
/-- the element that a whole number stands for -/
def ofI (z : Int) : Fp := ofN (z % PI).toNat
theorem ofI_same {x y : Int} (h : ∃ k, x + PI * k = y) : ofI x = ofI y := by
  obtain ⟨k, rfl⟩ := h
  unfold ofI; rw [Int.add_mul_emod_self_left]
theorem ofI_nat (n : Nat) : ofI (n : Int) = ofN n := by
  unfold ofI
  rw [PI_eq, ← Int.natCast_emod, Int.toNat_natCast, Gf.ofN_mod]
theorem rep (z : Int) : ∃ (n : Nat) (k : Int), (n : Int) + PI * k = z ∧ ofI z = ofN n := by
  have h0 := Int.emod_nonneg z (Int.ne_of_gt PI_pos)
  refine ⟨(z % PI).toNat, z / PI, ?_, rfl⟩
  rw [Int.toNat_of_nonneg h0]; exact Int.emod_add_mul_ediv z PI
theorem ofI_add (x y : Int) : ofI (x + y) = ofI x + ofI y := by
  obtain ⟨n, k, h1, e1⟩ := rep x
  obtain ⟨m, l, h2, e2⟩ := rep y
  rw [e1, e2, ← Gf.ofN_add, ← ofI_nat]
  exact (ofI_same ⟨k + l, by rw [Int.mul_add]; omega⟩).symm
theorem ofI_mul (x y : Int) : ofI (x * y) = ofI x * ofI y := by
  obtain ⟨n, k, h1, e1⟩ := rep x
  obtain ⟨m, l, h2, e2⟩ := rep y
  rw [e1, e2, ← Gf.ofN_mul, ← ofI_nat]
  refine (ofI_same ⟨k * m + n * l + k * (PI * l), ?_⟩).symm
  rw [← h1, ← h2, Int.natCast_mul]
  generalize (n : Int) = a
  generalize (m : Int) = b
  generalize PI = p
  grind
theorem ofI_sub (x y : Int) : ofI (x - y) = ofI x - ofI y := by
  have h := ofI_add (x - y) y
  rw [Int.sub_add_cancel] at h
  rw [h]
  generalize ofI (x - y) = a
  generalize ofI y = b
  grind
/-- the element that sixteen parts stand for -/
def fr (l : List Int) : Fp := ofI (vl l)
theorem plus_fr (a b : List Int) (ha : a.length = 16) : fr (plus a b) = fr a + fr b := by
  unfold fr; rw [ofI_same (plus_val a b ha), ofI_add]
theorem minus_fr (a b : List Int) (ha : a.length = 16) : fr (minus a b) = fr a - fr b := by
  unfold fr; rw [ofI_same (minus_val a b ha), ofI_sub]
theorem by_fr (a b : List Int) : fr (by_ a b) = fr a * fr b := by
  unfold fr; rw [ofI_same (by_val a b), ofI_mul]
theorem none_vl : vl none16 = 0 := by decide +kernel
theorem small_vl (n : Int) : vl (small n) = n := by
  unfold small
  rw [vl_set rfl 0 n (by omega), none_vl, show none16.getD 0 0 = 0 from rfl]
  simp
theorem small_fr (n : Nat) : fr (small (n : Int)) = ofN n := by unfold fr; rw [small_vl, ofI_nat]
/-- what bits say, the highest first -/
def ev (bits : List Int) : Nat → Nat
  | 0 => 0
  | i + 1 => ev bits i + ev bits i + (if bits.getD i 0 = 1 then 1 else 0)
theorem powTo_fr (a bits : List Int) : ∀ i, fr (powTo a bits i) = Gf.pw (fr a) (ev bits i)
  | 0 => by
    show fr (small 1) = 1
    have := small_fr 1
    rw [Gf.ofN_one] at this
    exact this
  | i + 1 => by
    rw [powTo, ev]
    by_cases h : bits.getD i 0 = 1
    · rw [if_pos h, if_pos h, by_fr, by_fr, powTo_fr a bits i, ← Gf.pw_add]
      show _ = Gf.pw (fr a) (ev bits i + ev bits i) * fr a
      rfl
    · rw [if_neg h, if_neg h, by_fr, powTo_fr a bits i, ← Gf.pw_add, Nat.add_zero]
theorem inv_ev : ev (ones [0, 1, 0, 1, 1] 255) 255 = 57896044618658097711785492504343953926634992332820282019728792003956564819947 := by decide +kernel
theorem inv_fr (a : List Int) : fr (inv a) = Gf.inv (fr a) := by
  have hl : (ones [0, 1, 0, 1, 1] 255).length = 255 := by unfold ones; rw [List.length_append, List.length_replicate]; rfl
  unfold inv pow
  rw [hl, powTo_fr, inv_ev]; rfl
theorem num_append : ∀ x y : List UInt8, Sc.num (x ++ y) = Sc.num x + 256 ^ x.length * Sc.num y
  | [], y => by simp [Sc.num]
  | a :: x, y => by
    rw [List.cons_append, Sc.num, Sc.num, num_append x y, List.length_cons, Nat.pow_succ, Nat.mul_add]
    rw [Nat.mul_comm (256 ^ x.length) 256, Nat.mul_assoc]; omega
theorem num_two (n : Nat) (h : n ≤ 65535) : Sc.num (lo n 2) = n := by
  have e : lo n 2 = [UInt8.ofNat (n / 256 ^ 0 % 256), UInt8.ofNat (n / 256 ^ 1 % 256)] := rfl
  rw [e, Sc.num, Sc.num, Sc.num, UInt8.toNat_ofNat', UInt8.toNat_ofNat']
  omega
theorem tell_num {a : List Int} (h : Norm a) : ∀ k, ((Sc.num (tell16 a k) : Nat) : Int) = sm (fun i => a.getD i 0) k
  | 0 => rfl
  | k + 1 => by
    have h1 := h.2 k
    rw [tell16, num_append, tell16_length, num_two _ (by omega), sm, ← tell_num h k, Int.natCast_add, Int.natCast_mul]
    have hp : ((256 ^ (2 * k) : Nat) : Int) = 65536 ^ k := by rw [Nat.pow_mul, Int.natCast_pow]; rfl
    rw [Int.toNat_of_nonneg h1.1, hp]
theorem toN_ofI (z : Int) : ((Gf.toN (ofI z) : Nat) : Int) = z % PI := by
  have h0 := Int.emod_nonneg z (Int.ne_of_gt PI_pos)
  have h1 := Int.emod_lt_of_pos z PI_pos
  unfold ofI
  rw [Gf.toN_ofN, Nat.mod_eq_of_lt (by rw [PI_eq] at h0 h1 ⊢; omega), Int.toNat_of_nonneg h0]
/-- told, it is its own number below p -/
theorem told_num {a : List Int} (ha : a.length = 16) (hA : Bd 1125899906842624 a) : Sc.num (told a) = Gf.toN (fr a) := by
  have hf := carry_fine a ha hA
  have hn := carry_norm _ hf
  have e1 := tell_num (less_norm _ (less_norm _ hn)) 16
  have e2 := lowest_val hn
  obtain ⟨k, hk⟩ := carry_val a ha
  obtain ⟨m, hm⟩ := carry_val (carry a) hf.1
  have e3 : vl (carry (carry a)) % PI = vl a % PI := by
    rw [← hk, ← hm, Int.add_mul_emod_self_left, Int.add_mul_emod_self_left]
  have e4 := toN_ofI (vl a)
  have e5 : ((Sc.num (told a) : Nat) : Int) = ((Gf.toN (fr a) : Nat) : Int) := by
    unfold told
    rw [e1]
    show vl (less (less (carry (carry a)))) = _
    rw [e2, e3, ← e4]; rfl
  omega
theorem told_eq {a b : List Int} (ha : a.length = 16) (hA : Bd 1125899906842624 a) (hb : b.length = 16) (hB : Bd 1125899906842624 b) : told a = told b ↔ fr a = fr b := by
  constructor
  · intro h; exact Gf.toN_inj (by rw [← told_num ha hA, ← told_num hb hB, h])
  · intro h; exact Sc.num_inj (by rw [told_length, told_length]) (by rw [told_num ha hA, told_num hb hB, h])
end Fd
end Go.Proofs.YtclpbaokadfhhaaGreatDoor
