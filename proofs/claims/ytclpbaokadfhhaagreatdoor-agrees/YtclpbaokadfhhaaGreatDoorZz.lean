/- Several texts as one: Pq3, Pq4. -/
import Derived.Test.YtclpbaokadfhhaaGreatDoorZu
import Derived.Test.YtclpbaokadfhhaaGreatDoorZt
import Derived.Test.YtclpbaokadfhhaaGreatDoorZv
namespace Go.Proofs.YtclpbaokadfhhaaGreatDoor
namespace Po
open Cc (P130)
def sn (g : Nat → Nat) : Nat → Nat
  | 0 => 0
  | k + 1 => sn g k + 256 ^ k * g k
def vl (l : List Nat) (k : Nat) : Nat := sn (fun i => l.getD i 0) k
theorem sn_congr {f g : Nat → Nat} : ∀ k, (∀ j, j < k → f j = g j) → sn f k = sn g k
  | 0, _ => rfl
  | k + 1, h => by rw [sn, sn, sn_congr k (fun j hj => h j (by omega)), h k (by omega)]
theorem vl_succ (l : List Nat) (k : Nat) : vl l (k + 1) = vl l k + 256 ^ k * l.getD k 0 := rfl
theorem vl_set (l : List Nat) (j v : Nat) (hj : j < l.length) : ∀ k, j < k → vl (l.set j v) k + 256 ^ j * l.getD j 0 = vl l k + 256 ^ j * v
  | 0, h => by omega
  | k + 1, h => by
    rw [vl_succ, vl_succ]
    by_cases e : j = k
    · subst e
      rw [gset_eq _ _ _ hj, show vl (l.set j v) j = vl l j from sn_congr j (fun i hi => gset_ne _ _ _ _ (by omega))]
      omega
    · rw [gset_ne _ _ _ _ e]
      have := vl_set l j v hj k (by omega)
      omega
theorem vl_above (l : List Nat) (j v k : Nat) (h : k ≤ j) : vl (l.set j v) k = vl l k := sn_congr k (fun i hi => gset_ne _ _ _ _ (by omega))
theorem sn_lt (g : Nat → Nat) : ∀ k, (∀ i, i < k → g i ≤ 255) → sn g k < 256 ^ k
  | 0, _ => by show 0 < 1; omega
  | k + 1, h => by
    have h1 := sn_lt g k (fun i hi => h i (by omega))
    have h2 := h k (by omega)
    rw [sn, Nat.pow_succ]
    have h3 : 256 ^ k * g k ≤ 256 ^ k * 255 := Nat.mul_le_mul_left _ h2
    omega
theorem cTo_val (l : List Nat) (c : Nat) (hl : 16 < l.length) : ∀ k, k ≤ 16 → vl (cTo l c k).1 k + 256 ^ k * (cTo l c k).2 = vl l k + c
  | 0, _ => by show 0 + 256 ^ 0 * c = 0 + c; omega
  | k + 1, hk => by
    have ih := cTo_val l c hl k (by omega)
    have hA := cTo_above l c k k (Nat.le_refl _)
    rw [cTo, cStep, hA]
    show vl ((cTo l c k).1.set k ((l.getD k 0 + (cTo l c k).2) % 256)) (k + 1) + 256 ^ (k + 1) * ((l.getD k 0 + (cTo l c k).2) / 256) = vl l (k + 1) + c
    rw [vl_succ, vl_succ, vl_above _ _ _ _ (Nat.le_refl _), gset_eq _ _ _ (by rw [cTo_length]; omega), Nat.pow_succ, Nat.mul_assoc, Nat.add_assoc, ← Nat.mul_add, Nat.mod_add_div, Nat.mul_add]
    omega
theorem carried_val (l : List Nat) (hl : l.length = 17) : vl (carried l) 17 + P130 * (mid l / 4) = vl l 17 := by
  have h1 := cTo_val l 0 (by omega) 16 (by omega)
  have hh : (half l).length = 17 := by rw [half_length, hl]
  have h2 := cTo_val (half l) (mid l / 4 * 5) (by omega) 16 (by omega)
  have e1 : vl (half l) 16 = vl (cTo l 0 16).1 16 := by unfold half; exact vl_above _ _ _ _ (Nat.le_refl _)
  have e2 : (cTo l 0 16).1.getD 16 0 = l.getD 16 0 := cTo_above l 0 16 16 (Nat.le_refl _)
  have e3 : (cTo (half l) (mid l / 4 * 5) 16).1.getD 16 0 = mid l % 4 := by
    rw [cTo_above _ _ 16 16 (Nat.le_refl _)]
    unfold half
    exact gset_eq _ _ _ (by rw [cTo_length]; omega)
  have hm : mid l = l.getD 16 0 + (cTo l 0 16).2 := by unfold mid; rw [e2]
  rw [vl_succ (carried l) 16, vl_succ l 16]
  have e4 : vl (carried l) 16 = vl (cTo (half l) (mid l / 4 * 5) 16).1 16 := by unfold carried; exact vl_above _ _ _ _ (Nat.le_refl _)
  have e5 : (carried l).getD 16 0 = mid l % 4 + (cTo (half l) (mid l / 4 * 5) 16).2 := by
    unfold carried
    rw [gset_eq _ _ _ (by rw [cTo_length]; omega), e3]
  rw [e4, e5]
  rw [e1] at h2
  unfold P130
  have hp : (256 : Nat) ^ 16 = 340282366920938463463374607431768211456 := by decide
  rw [hp] at h1 h2 ⊢
  generalize vl (cTo (half l) (mid l / 4 * 5) 16).1 16 = a1 at *
  generalize (cTo (half l) (mid l / 4 * 5) 16).2 = a2 at *
  generalize vl (cTo l 0 16).1 16 = a3 at *
  generalize (cTo l 0 16).2 = a4 at *
  generalize mid l = m at *
  omega
theorem tStep_val (a b c : List Nat) (i k : Nat) (hc : c.length = 17) (hi : i < 17) (hk : k < 17) : ∃ q, vl (tStep a b c i k) 17 + P130 * q = vl c 17 + 256 ^ i * a.getD i 0 * (256 ^ k * b.getD k 0) := by
  have e : 256 ^ i * a.getD i 0 * (256 ^ k * b.getD k 0) = 256 ^ (i + k) * (a.getD i 0 * b.getD k 0) := by rw [Nat.pow_add]; simp only [Nat.mul_assoc, Nat.mul_left_comm, Nat.mul_comm]
  rw [e]
  unfold tStep
  by_cases h : i + k < 17
  · rw [if_pos h]
    have h1 := vl_set c (i + k) (c.getD (i + k) 0 + a.getD i 0 * b.getD k 0) (by omega) 17 h
    rw [Nat.mul_add] at h1
    exact ⟨0, by omega⟩
  · rw [if_neg h, Nat.mul_assoc 320]
    have h1 := vl_set c (i + k - 17) (c.getD (i + k - 17) 0 + 320 * (a.getD i 0 * b.getD k 0)) (by omega) 17 (by omega)
    rw [Nat.mul_add] at h1
    refine ⟨64 * (256 ^ (i + k - 17) * (a.getD i 0 * b.getD k 0)), ?_⟩
    have e2 : 256 ^ (i + k) = 87112285931760246646623899502532662132736 * 256 ^ (i + k - 17) := by
      rw [show i + k = 17 + (i + k - 17) by omega, Nat.pow_add, show 17 + (i + k - 17) - 17 = i + k - 17 by omega]
    have e4 : 256 ^ (i + k) * (a.getD i 0 * b.getD k 0) = 87112285931760246646623899502532662132736 * (256 ^ (i + k - 17) * (a.getD i 0 * b.getD k 0)) := by rw [e2, Nat.mul_assoc]
    rw [e4]
    have e3 : 256 ^ (i + k - 17) * (320 * (a.getD i 0 * b.getD k 0)) = 320 * (256 ^ (i + k - 17) * (a.getD i 0 * b.getD k 0)) := by rw [Nat.mul_left_comm]
    rw [e3] at h1
    generalize 256 ^ (i + k - 17) * (a.getD i 0 * b.getD k 0) = z at *
    unfold P130
    omega
theorem tRow_val (a b c : List Nat) (i : Nat) (hc : c.length = 17) (hi : i < 17) : ∀ k, k ≤ 17 → ∃ q, vl (tRow a b c i k) 17 + P130 * q = vl c 17 + 256 ^ i * a.getD i 0 * vl b k
  | 0, _ => ⟨0, by show vl c 17 + P130 * 0 = vl c 17 + 256 ^ i * a.getD i 0 * 0; omega⟩
  | k + 1, hk => by
    obtain ⟨q1, h1⟩ := tRow_val a b c i hc hi k (by omega)
    obtain ⟨q2, h2⟩ := tStep_val a b (tRow a b c i k) i k (by rw [tRow_length, hc]) hi (by omega)
    refine ⟨q1 + q2, ?_⟩
    rw [tRow, vl_succ b k, Nat.mul_add, Nat.mul_add]
    omega
theorem tRows_val (a b : List Nat) : ∀ i, i ≤ 17 → ∃ q, vl (tRows a b i) 17 + P130 * q = vl a i * vl b 17
  | 0, _ => ⟨0, by show vl none17 17 + P130 * 0 = 0 * vl b 17; rw [Nat.zero_mul]; rfl⟩
  | i + 1, hi => by
    obtain ⟨q1, h1⟩ := tRows_val a b i (by omega)
    obtain ⟨q2, h2⟩ := tRow_val a b (tRows a b i) i (tRows_length a b i) (by omega) 17 (by omega)
    refine ⟨q1 + q2, ?_⟩
    rw [tRows, vl_succ a i, Nat.add_mul, Nat.mul_add]
    omega
theorem times_val (a b : List Nat) : ∃ q, vl (times a b) 17 + P130 * q = vl a 17 * vl b 17 := by
  obtain ⟨q1, h1⟩ := tRows_val a b 17 (by omega)
  have h2 := carried_val (tRows a b 17) (tRows_length a b 17)
  have h3 := carried_val (carried (tRows a b 17)) (by rw [carried_length, tRows_length])
  refine ⟨mid (carried (tRows a b 17)) / 4 + (mid (tRows a b 17) / 4 + q1), ?_⟩
  unfold times
  rw [Nat.mul_add, Nat.mul_add]
  omega
theorem aTo_val (d : Nat → Nat) (h : List Nat) (hl : h.length = 17) : ∀ k, k ≤ 16 → vl (aTo d h k) 17 = vl h 17 + sn d k
  | 0, _ => rfl
  | k + 1, hk => by
    have ih := aTo_val d h hl k (by omega)
    have h1 := vl_set (aTo d h k) k ((aTo d h k).getD k 0 + d k) (by rw [aTo_length]; omega) 17 (by omega)
    rw [Nat.mul_add] at h1
    rw [aTo, sn]
    omega
theorem blockIn_val (d : Nat → Nat) (h : List Nat) (hl : h.length = 17) : vl (blockIn d h) 17 = vl h 17 + sn d 16 + 340282366920938463463374607431768211456 := by
  have h0 := aTo_val d h hl 16 (by omega)
  have h1 := vl_set (aTo d h 16) 16 ((aTo d h 16).getD 16 0 + 1) (by rw [aTo_length]; omega) 17 (by omega)
  rw [Nat.mul_add, show (256 : Nat) ^ 16 = 340282366920938463463374607431768211456 by decide] at h1
  unfold blockIn
  omega
theorem oTo_val (l : List Nat) (hl : l.length = 17) : ∀ k, k ≤ 16 → vl (oTo l k) 17 = vl l 17
  | 0, _ => rfl
  | k + 1, hk => by
    have ih := oTo_val l hl k (by omega)
    have hlk : (oTo l k).length = 17 := by rw [oTo_length, hl]
    have h1 := vl_set (oTo l k) (k + 1) ((oTo l k).getD (k + 1) 0 + (oTo l k).getD k 0 / 256) (by omega) 17 (by omega)
    have h2 := vl_set ((oTo l k).set (k + 1) ((oTo l k).getD (k + 1) 0 + (oTo l k).getD k 0 / 256)) k ((oTo l k).getD k 0 % 256) (by rw [List.length_set]; omega) 17 (by omega)
    rw [gset_ne _ _ _ _ (by omega)] at h2
    rw [Nat.mul_add, Nat.pow_succ, Nat.mul_assoc (256 ^ k) 256 ((oTo l k).getD k 0 / 256)] at h1
    have h3 : 256 ^ k * (oTo l k).getD k 0 = 256 ^ k * ((oTo l k).getD k 0 % 256) + 256 ^ k * (256 * ((oTo l k).getD k 0 / 256)) := by rw [← Nat.mul_add, Nat.mod_add_div]
    rw [oTo, oStep]
    omega
theorem oTo_low (l : List Nat) (hl : l.length = 17) : ∀ k i, k ≤ 16 → i < k → (oTo l k).getD i 0 ≤ 255
  | 0, i, _, h => by omega
  | k + 1, i, hk, h => by
    rw [oTo, oStep]
    by_cases e : k = i
    · subst e
      rw [gset_eq _ _ _ (by rw [List.length_set, oTo_length]; omega)]; omega
    · rw [gset_ne _ _ _ _ e, gset_ne _ _ _ _ (by omega)]; exact oTo_low l hl k i (by omega) (by omega)
theorem least_val (l : List Nat) (hl : l.length = 17) (hM : ∀ i, l.getD i 0 ≤ 100000000000000) : vl (least l) 16 = (vl l 17 % P130) % 340282366920938463463374607431768211456 := by
  have hB := carried_byt l hl hM
  have hc := carried_val l hl
  have hcm : vl l 17 % P130 = vl (carried l) 17 % P130 := by rw [← hc, Nat.add_mul_mod_self_left]
  have lD : (lead l).length = 17 := by unfold lead; rw [List.length_set, hB.1]
  have hld : vl (lead l) 17 = vl (carried l) 17 + 5 := by
    have := vl_set (carried l) 0 ((carried l).getD 0 0 + 5) (by rw [hB.1]; omega) 17 (by omega)
    unfold lead
    rw [Nat.pow_zero] at this
    omega
  have ho := oTo_val (lead l) lD 16 (by omega)
  have hol := sn_lt (fun i => (over5 l).getD i 0) 16 (fun i hi => oTo_low (lead l) lD 16 i (by omega) hi)
  have hcl := sn_lt (fun i => (carried l).getD i 0) 16 (fun i hi => hB.2.1 i hi)
  have hct := hB.2.2
  have e1 : vl (over5 l) 17 = vl (over5 l) 16 + 256 ^ 16 * (over5 l).getD 16 0 := vl_succ _ _
  have e2 : vl (carried l) 17 = vl (carried l) 16 + 256 ^ 16 * (carried l).getD 16 0 := vl_succ _ _
  replace ho : vl (over5 l) 17 = vl (lead l) 17 := ho
  replace hol : vl (over5 l) 16 < 256 ^ 16 := hol
  replace hcl : vl (carried l) 16 < 256 ^ 16 := hcl
  rw [show (256 : Nat) ^ 16 = 340282366920938463463374607431768211456 by decide] at e1 e2 hol hcl
  rw [hcm]
  unfold least
  by_cases h4 : 4 ≤ (over5 l).getD 16 0
  · rw [if_pos h4, vl_above _ _ _ _ (Nat.le_refl _)]
    have hv : vl (carried l) 17 % P130 = vl (carried l) 17 - P130 := by
      unfold P130
      rw [Nat.mod_eq_sub_mod (by omega), Nat.mod_eq_of_lt (by omega)]
    rw [hv]
    unfold P130
    omega
  · rw [if_neg h4]
    have hv : vl (carried l) 17 % P130 = vl (carried l) 17 := by
      unfold P130
      exact Nat.mod_eq_of_lt (by omega)
    rw [hv]
    omega
theorem eTo_val (h : List Nat) (s : Nat → Nat) : ∀ k, Sc.num (eTo h s k).1 + 256 ^ k * (eTo h s k).2 = vl h k + sn s k
  | 0 => rfl
  | k + 1 => by
    have ih := eTo_val h s k
    rw [eTo]
    show Sc.num ((eTo h s k).1 ++ [UInt8.ofNat (((eTo h s k).2 + h.getD k 0 + s k) % 256)]) + 256 ^ (k + 1) * (((eTo h s k).2 + h.getD k 0 + s k) / 256) = _
    rw [Fd.num_append, eTo_length, vl_succ, sn]
    show Sc.num (eTo h s k).1 + 256 ^ k * ((UInt8.ofNat (((eTo h s k).2 + h.getD k 0 + s k) % 256)).toNat + 256 * 0) + 256 ^ (k + 1) * (((eTo h s k).2 + h.getD k 0 + s k) / 256) = _
    rw [UInt8.toNat_ofNat', Nat.mod_eq_of_lt (by omega : ((eTo h s k).2 + h.getD k 0 + s k) % 256 < 256), Nat.mul_zero, Nat.add_zero, Nat.pow_succ, Nat.mul_assoc, Nat.add_assoc, ← Nat.mul_add, Nat.mod_add_div, Nat.mul_add, Nat.mul_add]
    omega
theorem rowN_at (f : Nat → Nat) : ∀ k i, k ≤ 17 → (rowN f k).getD i 0 = if i < k then f i else 0
  | 0, i, _ => by rw [rowN, none_at17, if_neg (by omega)]
  | k + 1, i, hk => by
    rw [rowN]
    by_cases e : k = i
    · subst e
      rw [gset_eq _ _ _ (by rw [rowN_length]; omega), if_pos (by omega)]
    · rw [gset_ne _ _ _ _ e, rowN_at f k i (by omega)]
      by_cases h : i < k
      · rw [if_pos h, if_pos (by omega)]
      · rw [if_neg h, if_neg (by omega)]
theorem rRow_val (f : Nat → Nat) : vl (rRow f) 17 = sn (rAt f) 16 := by
  unfold rRow
  rw [vl_succ, rowN_at _ 16 16 (by omega), if_neg (by omega), Nat.mul_zero, Nat.add_zero]
  exact sn_congr 16 (fun i hi => by rw [rowN_at _ 16 i (by omega), if_pos hi])
end Po
end Go.Proofs.YtclpbaokadfhhaaGreatDoor
namespace Go.Proofs.YtclpbaokadfhhaaGreatDoor
namespace Cc
open Po (sn vl)
theorem and_split (x y a b k : Nat) (hx : x < 2 ^ k) (ha : a < 2 ^ k) : (2 ^ k * y + x) &&& (2 ^ k * b + a) = 2 ^ k * (y &&& b) + (x &&& a) := by
  apply Nat.eq_of_testBit_eq
  intro j
  have hxa : x &&& a < 2 ^ k := Nat.lt_of_le_of_lt Nat.and_le_left hx
  rw [Nat.testBit_and, Nat.testBit_two_pow_mul_add _ hx, Nat.testBit_two_pow_mul_add _ ha, Nat.testBit_two_pow_mul_add _ hxa]
  by_cases h : j < k
  · rw [if_pos h, if_pos h, if_pos h, Nat.testBit_and]
  · rw [if_neg h, if_neg h, if_neg h, Nat.testBit_and]
theorem mask_lo (X : Nat) : X &&& 1152921487695413247 = X % 268435456 + 17179869184 * (X / 17179869184 % 67108864) := by
  have e := and_split (X % 17179869184) (X / 17179869184) 268435455 67108863 34 (by omega) (by decide)
  rw [show 2 ^ 34 * (X / 17179869184) + X % 17179869184 = X by omega, show 2 ^ 34 * 67108863 + 268435455 = 1152921487695413247 by decide] at e
  rw [e, show (67108863 : Nat) = 2 ^ 26 - 1 by decide, Nat.and_two_pow_sub_one_eq_mod, show (268435455 : Nat) = 2 ^ 28 - 1 by decide, Nat.and_two_pow_sub_one_eq_mod]
  omega
theorem mask_hi (X : Nat) : X &&& 1152921487695413244 = 4 * (X / 4 % 67108864) + 17179869184 * (X / 17179869184 % 67108864) := by
  have e := and_split (X % 17179869184) (X / 17179869184) 268435452 67108863 34 (by omega) (by decide)
  rw [show 2 ^ 34 * (X / 17179869184) + X % 17179869184 = X by omega, show 2 ^ 34 * 67108863 + 268435452 = 1152921487695413244 by decide] at e
  have e2 := and_split (X % 17179869184 % 4) (X % 17179869184 / 4) 0 67108863 2 (by omega) (by decide)
  rw [show 2 ^ 2 * (X % 17179869184 / 4) + X % 17179869184 % 4 = X % 17179869184 by omega, show 2 ^ 2 * 67108863 + 0 = 268435452 by decide, Nat.and_zero] at e2
  rw [e, e2, show (67108863 : Nat) = 2 ^ 26 - 1 by decide, Nat.and_two_pow_sub_one_eq_mod, Nat.and_two_pow_sub_one_eq_mod]
  omega
def q8 (g : Nat → Nat) : Nat := g 0 + 256 * g 1 + 65536 * g 2 + 16777216 * g 3 + 4294967296 * g 4 + 1099511627776 * g 5 + 281474976710656 * g 6 + 72057594037927936 * g 7
theorem sn_16 (g : Nat → Nat) : sn g 16 = q8 g + 18446744073709551616 * q8 (fun i => g (8 + i)) := by
  simp only [sn, q8, Nat.reducePow, Nat.reduceAdd]
  omega
theorem clamp_lo (a b c d e f g h : Nat) (ha : a < 256) (hb : b < 256) (hc : c < 256) (hd : d < 256) (he : e < 256) (hf : f < 256) (hg : g < 256) (_hh : h < 256) :
    (a + 256 * b + 65536 * c + 16777216 * d + 4294967296 * e + 1099511627776 * f + 281474976710656 * g + 72057594037927936 * h) % 268435456 + 17179869184 * ((a + 256 * b + 65536 * c + 16777216 * d + 4294967296 * e + 1099511627776 * f + 281474976710656 * g + 72057594037927936 * h) / 17179869184 % 67108864)
      = a + 256 * b + 65536 * c + 16777216 * (d % 16) + 4294967296 * (e - e % 4) + 1099511627776 * f + 281474976710656 * g + 72057594037927936 * (h % 16) := by omega
theorem clamp_hi (a b c d e f g h : Nat) (ha : a < 256) (hb : b < 256) (hc : c < 256) (hd : d < 256) (he : e < 256) (hf : f < 256) (hg : g < 256) (_hh : h < 256) :
    4 * ((a + 256 * b + 65536 * c + 16777216 * d + 4294967296 * e + 1099511627776 * f + 281474976710656 * g + 72057594037927936 * h) / 4 % 67108864) + 17179869184 * ((a + 256 * b + 65536 * c + 16777216 * d + 4294967296 * e + 1099511627776 * f + 281474976710656 * g + 72057594037927936 * h) / 17179869184 % 67108864)
      = (a - a % 4) + 256 * b + 65536 * c + 16777216 * (d % 16) + 4294967296 * (e - e % 4) + 1099511627776 * f + 281474976710656 * g + 72057594037927936 * (h % 16) := by omega
theorem rOf_val (f : Nat → UInt8) : v5 (rOf f) = vl (Po.rRow (fun i => (f i).toNat)) 17 ∧ (rOf f).length = 5 ∧ ∀ i, ((rOf f).getD i 0).toNat < 67108864 := by
  obtain ⟨h1, h2, h3, h4, h5, h6⟩ := number_val (wdL f 8 &&& 1152921487695413247) (wdL (fun i => f (8 + i)) 8 &&& 1152921487695413244) 0 (by decide)
  refine ⟨?_, rfl, fun i => ?_⟩
  · rw [Po.rRow_val, sn_16]
    show v5 (numberOf _ _ _) = _
    rw [h1, BitVec.toNat_and, BitVec.toNat_and, show (1152921487695413247 : BitVec 64).toNat = 1152921487695413247 from rfl, show (1152921487695413244 : BitVec 64).toNat = 1152921487695413244 from rfl, wdL_nat, wdL_nat, mask_lo, mask_hi]
    unfold n8
    rw [clamp_lo _ _ _ _ _ _ _ _ (f 0).toNat_lt (f 1).toNat_lt (f 2).toNat_lt (f 3).toNat_lt (f 4).toNat_lt (f 5).toNat_lt (f 6).toNat_lt (f 7).toNat_lt,
      clamp_hi _ _ _ _ _ _ _ _ (f (8 + 0)).toNat_lt (f (8 + 1)).toNat_lt (f (8 + 2)).toNat_lt (f (8 + 3)).toNat_lt (f (8 + 4)).toNat_lt (f (8 + 5)).toNat_lt (f (8 + 6)).toNat_lt (f (8 + 7)).toNat_lt]
    rfl
  · match i with
    | 0 => exact h2
    | 1 => exact h3
    | 2 => exact h4
    | 3 => exact h5
    | 4 => exact h6
    | n + 5 => show (0 : BitVec 64).toNat < _; decide
theorem piece_val (l : List UInt8) (hl : l.length = 16) : v5 (piece l) = sn (fun i => (l.getD i 0).toNat) 16 + 340282366920938463463374607431768211456 ∧ Nar (piece l) := by
  unfold piece pieceL numL
  rw [if_pos hl, if_pos hl]
  obtain ⟨h1, h2, h3, h4, h5, h6⟩ := number_val (wdL (fun i => l.getD i 0) 8) (wdL (fun i => l.getD (8 + i) 0) 8) 1 (by decide)
  refine ⟨?_, rfl, h2, by omega, h4, h5, h6⟩
  rw [h1, wdL_nat, wdL_nat, sn_16]
  rfl
theorem tell2_lo (x y : BitVec 64) : tell2 x y 2 = Fd.lo x.toNat 8 ++ Fd.lo y.toNat 8 := by
  apply List.ext_getElem?
  intro j
  by_cases h : j < 16
  · have h1 : j < (tell2 x y 2).length := by rw [tell2_length]; exact h
    have h2 : j < (Fd.lo x.toNat 8 ++ Fd.lo y.toNat 8).length := by rw [List.length_append, Fd.lo_length, Fd.lo_length]; omega
    have e : (tell2 x y 2).getD j 0 = (Fd.lo x.toNat 8 ++ Fd.lo y.toNat 8).getD j 0 := by
      show (putL (putL (zeros 16) 0 x 8) 8 y 8).getD j 0 = _
      rw [putL_at _ _ _ _ _ (by rw [putL_length]; show 8 + 8 ≤ 16; omega), putL_at _ _ _ _ _ (by show 0 + 8 ≤ 16; omega)]
      by_cases h8 : j < 8
      · rw [if_neg (by omega), if_pos (by omega), List.getD_eq_getElem?_getD, List.getElem?_append_left (by rw [Fd.lo_length]; exact h8), ← List.getD_eq_getElem?_getD, lo_at _ _ _ h8, Nat.sub_zero, byteL_lo]
      · rw [if_pos (by omega), List.getD_eq_getElem?_getD, List.getElem?_append_right (by rw [Fd.lo_length]; omega), Fd.lo_length, ← List.getD_eq_getElem?_getD, lo_at _ _ _ (by omega), byteL_lo]
    rw [List.getD_eq_getElem?_getD, List.getD_eq_getElem?_getD, List.getElem?_eq_getElem h1, List.getElem?_eq_getElem h2] at e
    rw [List.getElem?_eq_getElem h1, List.getElem?_eq_getElem h2]
    exact congrArg some e
  · rw [List.getElem?_eq_none (by rw [tell2_length]; omega), List.getElem?_eq_none (by rw [List.length_append, Fd.lo_length, Fd.lo_length]; omega)]
theorem tellSum_num (h : List (BitVec 64)) (s0 s1 : BitVec 64) (h0 : (h.getD 0 0).toNat < 67108864) (h1 : (h.getD 1 0).toNat < 67108864) (h2 : (h.getD 2 0).toNat < 67108864) (h3 : (h.getD 3 0).toNat < 67108864) (h4 : (h.getD 4 0).toNat < 67108864) :
    Sc.num (tellSum h s0 s1) = (v5 h + (s0.toNat + 18446744073709551616 * s1.toNat)) % 340282366920938463463374607431768211456 := by
  have hw := low_word h h0 h1 h2 h3 h4
  have hl := (lowWord h).isLt; have hh := (highWord h).isLt; have hs0 := s0.isLt; have hs1 := s1.isLt
  unfold tellSum
  rw [tell2_lo, Fd.num_append, num_lo, num_lo, Fd.lo_length]
  have e1 : (sumLow h s0).toNat = ((lowWord h).toNat + s0.toNat) % 18446744073709551616 := by
    unfold sumLow
    rw [BitVec.toNat_add, BitVec.toNat_add, show (0 : BitVec 64).toNat = 0 from rfl]
    omega
  have e2 : (over (lowWord h) s0 0).toNat = ((lowWord h).toNat + s0.toNat) / 18446744073709551616 := by
    unfold over
    rw [BitVec.toNat_ofNat, show (0 : BitVec 64).toNat = 0 from rfl]
    omega
  have e3 : (sumHigh h s0 s1).toNat = ((highWord h).toNat + s1.toNat + ((lowWord h).toNat + s0.toNat) / 18446744073709551616) % 18446744073709551616 := by
    unfold sumHigh
    rw [BitVec.toNat_add, BitVec.toNat_add, e2]
    omega
  rw [e1, e3, show (256 : Nat) ^ 8 = 18446744073709551616 by decide]
  generalize (lowWord h).toNat = L at *
  generalize (highWord h).toNat = H at *
  generalize v5 h = V at *
  omega
theorem extract_at (s : ByteArray) (j i : Nat) (h : 16 * j + 16 ≤ s.size) (hi : i < 16) : (s.extract (16 * j) (16 * j + 16)).data.toList.getD i 0 = s.data.toList.getD (16 * j + i) 0 := by
  rw [← byte_at _ _ (by rw [ByteArray.size_extract]; omega), ← byte_at s (16 * j + i) (by omega)]
  simp [ByteArray.getElem_eq_getElem_data]
end Cc
theorem same_mod (r : List Nat) (rp : List (BitVec 64)) (D : Nat → Nat → Nat) (s : ByteArray) (hr : Cc.v5 rp = Po.vl r 17) (hrb : ∀ i, r.getD i 0 ≤ 1023) (hl : rp.length = 5) (hp : ∀ i, (rp.getD i 0).toNat < 67108864)
    (hD : ∀ j i, D j i = byN s (16 * j + i)) : ∀ n, 16 * n ≤ s.size → Cc.Nar (Cc.tagTo rp s n) ∧ Cc.v5 (Cc.tagTo rp s n) % Cc.P130 = Po.vl (Po.hTo r D n) 17 % Cc.P130
  | 0, _ => ⟨⟨rfl, by show (0 : BitVec 64).toNat < _; decide, by show (0 : BitVec 64).toNat < _; decide, by show (0 : BitVec 64).toNat < _; decide, by show (0 : BitVec 64).toNat < _; decide, by show (0 : BitVec 64).toNat < _; decide⟩, rfl⟩
  | n + 1, h => by
    obtain ⟨h1, h2⟩ := same_mod r rp D s hr hrb hl hp hD n (by omega)
    have hlen : (s.extract (16 * n) (16 * n + 16)).data.toList.length = 16 := by
      have : (s.extract (16 * n) (16 * n + 16)).size = 16 := by rw [ByteArray.size_extract]; omega
      rw [Array.length_toList]
      exact this
    obtain ⟨p1, p2⟩ := Cc.piece_val _ hlen
    obtain ⟨a1, a2, a3⟩ := Cc.plus_val h1 p2
    obtain ⟨t1, k1, t2⟩ := Cc.times_val a2 a3 hl hp
    have hB : Po.Byt (Po.hTo r D n) := Po.hTo_byt r D hrb (fun j i => by rw [hD]; exact byN_bd _ _) n
    have b1 := Po.blockIn_val (D n) (Po.hTo r D n) hB.1
    obtain ⟨k2, b2⟩ := Po.times_val (Po.blockIn (D n) (Po.hTo r D n)) r
    refine ⟨t1, ?_⟩
    have e1 : Cc.v5 (Cc.tagTo rp s (n + 1)) % Cc.P130 = (Cc.v5 (Cc.plus (Cc.tagTo rp s n) (Cc.piece (s.extract (16 * n) (16 * n + 16)).data.toList)) * Cc.v5 rp) % Cc.P130 := by
      rw [← t2, Nat.add_mul_mod_self_left]; rfl
    have e2 : Po.vl (Po.hTo r D (n + 1)) 17 % Cc.P130 = (Po.vl (Po.blockIn (D n) (Po.hTo r D n)) 17 * Po.vl r 17) % Cc.P130 := by
      rw [← b2, Nat.add_mul_mod_self_left]; rfl
    rw [e1, e2, a1, b1, p1, hr]
    have e3 : Po.sn (fun i => ((s.extract (16 * n) (16 * n + 16)).data.toList.getD i 0).toNat) 16 = Po.sn (D n) 16 := Po.sn_congr 16 (fun i hi => by rw [hD]; unfold byN; rw [Cc.extract_at s n i (by omega) hi])
    rw [e3, ← Nat.add_assoc]
    have e4 : (Cc.v5 (Cc.tagTo rp s n) + Po.sn (D n) 16 + 340282366920938463463374607431768211456) % Cc.P130 = (Po.vl (Po.hTo r D n) 17 + Po.sn (D n) 16 + 340282366920938463463374607431768211456) % Cc.P130 := by
      rw [Nat.add_assoc, Nat.add_assoc, Nat.add_mod, h2, ← Nat.add_mod]
    rw [Nat.mul_mod, e4, ← Nat.mul_mod]
theorem tagSame : TagSame := by
  intro f s h16 hs
  obtain ⟨r1, r2, r3⟩ := Cc.rOf_val f
  have hrb : ∀ i, (Po.rRow (fun i => (f i).toNat)).getD i 0 ≤ 1023 := fun i => by
    have := Po.rowN_bd (Po.rAt (fun i => (f i).toNat)) 255 (Po.rAt_bd _ (fun i => by have := (f i).toNat_lt; omega)) 16 i
    show (Po.rowN (Po.rAt (fun i => (f i).toNat)) 16).getD i 0 ≤ 1023
    omega
  obtain ⟨m1, m2⟩ := same_mod _ _ (fun j i => byN s (16 * j + i)) s r1 hrb r2 r3 (fun _ _ => rfl) (s.size / 16) (by omega)
  have hB : Po.Byt (Po.hTo (Po.rRow (fun i => (f i).toNat)) (fun j i => byN s (16 * j + i)) (s.size / 16)) := Po.hTo_byt _ _ hrb (fun j i => byN_bd _ _) _
  have hL := Po.least_val _ hB.1 (fun i => by have := hB.all i; omega)
  obtain ⟨l1, l2, l3, l4, l5, l6⟩ := Cc.lowest_val5 m1
  have hE := Po.eTo_val (Po.least (Po.hTo (Po.rRow (fun i => (f i).toNat)) (fun j i => byN s (16 * j + i)) (s.size / 16))) (fun i => (f (16 + i)).toNat) 16
  have hT := Cc.tellSum_num (Cc.lowest (Cc.tagTo (Cc.rOf f) s (s.size / 16))) (Cc.wdL (fun i => f (16 + i)) 8) (Cc.wdL (fun i => f (24 + i)) 8) l2 l3 l4 l5 l6
  refine Sc.num_inj ?_ ?_
  · rw [Cc.tag_length]
    exact Po.eTo_length _ _ _
  · show Sc.num (Po.eTo _ _ 16).1 = Sc.num (Cc.tellSum _ _ _)
    rw [hT, l1, m2, Cc.wdL_nat, Cc.wdL_nat]
    have hlt : Sc.num (Po.eTo (Po.least (Po.hTo (Po.rRow (fun i => (f i).toNat)) (fun j i => byN s (16 * j + i)) (s.size / 16))) (fun i => (f (16 + i)).toNat) 16).1 < 340282366920938463463374607431768211456 := by
      have := Sc.num_lt (Po.eTo (Po.least (Po.hTo (Po.rRow (fun i => (f i).toNat)) (fun j i => byN s (16 * j + i)) (s.size / 16))) (fun i => (f (16 + i)).toNat) 16).1
      rw [Po.eTo_length] at this
      exact this
    have hs16 : Po.sn (fun i => (f (16 + i)).toNat) 16 = Cc.n8 (fun i => f (16 + i)) + 18446744073709551616 * Cc.n8 (fun i => f (24 + i)) := by
      rw [Cc.sn_16]
      rfl
    rw [hL, hs16, show (256 : Nat) ^ 16 = 340282366920938463463374607431768211456 by decide] at hE
    generalize Sc.num (Po.eTo (Po.least (Po.hTo (Po.rRow (fun i => (f i).toNat)) (fun j i => byN s (16 * j + i)) (s.size / 16))) (fun i => (f (16 + i)).toNat) 16).1 = N at *
    generalize Po.vl (Po.hTo (Po.rRow (fun i => (f i).toNat)) (fun j i => byN s (16 * j + i)) (s.size / 16)) 17 % Cc.P130 = V at *
    generalize Cc.n8 (fun i => f (16 + i)) + 18446744073709551616 * Cc.n8 (fun i => f (24 + i)) = K at *
    generalize (Po.eTo (Po.least (Po.hTo (Po.rRow (fun i => (f i).toNat)) (fun j i => byN s (16 * j + i)) (s.size / 16))) (fun i => (f (16 + i)).toNat) 16).2 = C at *
    omega
end Go.Proofs.YtclpbaokadfhhaaGreatDoor
