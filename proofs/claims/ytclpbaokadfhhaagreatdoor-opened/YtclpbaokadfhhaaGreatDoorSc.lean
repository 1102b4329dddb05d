/- Numbers modulo Q as four words: what package scalar reckons, and what it makes. No program in it. -/
import Init
namespace Go.Proofs.YtclpbaokadfhhaaGreatDoor.Sc
abbrev W := BitVec 64
def Q : Nat := 7237005577332262213973186563042994240857116359379907606001950938285454250989
/-- Q's words -/
def md : List W := [6346243789798364141, 1503914060200516822, 0, 1152921504606846976]
def val (l : List W) : Nat := (l.getD 0 0).toNat + 18446744073709551616 * (l.getD 1 0).toNat + 340282366920938463463374607431768211456 * (l.getD 2 0).toNat + 6277101735386680763835789423207666416102355444464034512896 * (l.getD 3 0).toNat
theorem four (l : List W) (h : l.length = 4) : ∃ x0 x1 x2 x3, l = [x0, x1, x2, x3] := by
  match l, h with
  | [x0, x1, x2, x3], _ => exact ⟨x0, x1, x2, x3, rfl⟩
def addTo (a b : List W) : Nat → List W × W
  | 0 => (a, 0)
  | k + 1 => ((addTo a b k).1.set k ((addTo a b k).1.getD k 0 + b.getD k 0 + (addTo a b k).2), BitVec.ofNat 64 ((((addTo a b k).1.getD k 0).toNat + (b.getD k 0).toNat + (addTo a b k).2.toNat) / 18446744073709551616))
theorem addTo_length (a b : List W) (k : Nat) : (addTo a b k).1.length = a.length := by
  induction k with
  | zero => rfl
  | succ k ih => simp [addTo, ih]
theorem addTo_over (a b : List W) (k : Nat) : (addTo a b k).2.toNat ≤ 1 := by
  induction k with
  | zero => simp [addTo]
  | succ k ih =>
    rw [addTo, BitVec.toNat_ofNat]
    have := ((addTo a b k).1.getD k 0).isLt; have := (b.getD k 0).isLt
    omega
def less (x y b : W) : W := if x.toNat < y.toNat + b.toNat then 1 else 0
def subTo (a : List W) : Nat → List W × W
  | 0 => ([0, 0, 0, 0], 0)
  | k + 1 => ((subTo a k).1.set k (a.getD k 0 - md.getD k 0 - (subTo a k).2), less (a.getD k 0) (md.getD k 0) (subTo a k).2)
theorem subTo_length (a : List W) (k : Nat) : (subTo a k).1.length = 4 := by
  induction k with
  | zero => rfl
  | succ k ih => simp [subTo, ih]
theorem less_le (x y b : W) : (less x y b).toNat ≤ 1 := by unfold less; split <;> decide
theorem subTo_over (a : List W) (k : Nat) : (subTo a k).2.toNat ≤ 1 := by
  cases k with
  | zero => simp [subTo]
  | succ k => exact less_le _ _ _
def pickTo (a l : List W) (m : W) : Nat → List W
  | 0 => a
  | k + 1 => (pickTo a l m k).set k (((pickTo a l m k).getD k 0 &&& m) ||| (l.getD k 0 &&& ~~~m))
theorem pickTo_length (a l : List W) (m : W) (k : Nat) : (pickTo a l m k).length = a.length := by
  induction k with
  | zero => rfl
  | succ k ih => simp [pickTo, ih]
def lowered (a : List W) : List W := pickTo a (subTo a 4).1 (-(subTo a 4).2) 4
theorem lowered_length (a : List W) : (lowered a).length = a.length := pickTo_length _ _ _ _
def plus (a b : List W) : List W := lowered (addTo a b 4).1
theorem plus_length (a b : List W) : (plus a b).length = a.length := by rw [plus, lowered_length, addTo_length]
def onlyTo (a : List W) (m : W) : Nat → List W
  | 0 => a
  | k + 1 => (onlyTo a m k).set k ((onlyTo a m k).getD k 0 &&& m)
theorem onlyTo_length (a : List W) (m : W) (k : Nat) : (onlyTo a m k).length = a.length := by
  induction k with
  | zero => rfl
  | succ k ih => simp [onlyTo, ih]
def onlyIf (a : List W) (bit : W) : List W := onlyTo a (-bit) 4
theorem onlyIf_length (a : List W) (b : W) : (onlyIf a b).length = a.length := onlyTo_length _ _ _
def bit (a : List W) (at' : Nat) : W := (a.getD (at' / 64) 0 >>> (at' % 64)) &&& 1
def timesTo (a b : List W) : Nat → List W
  | 0 => [0, 0, 0, 0]
  | k + 1 => plus (plus (timesTo a b k) (timesTo a b k)) (onlyIf a (bit b (252 - k)))
theorem timesTo_length (a b : List W) (k : Nat) : (timesTo a b k).length = 4 := by
  cases k with
  | zero => rfl
  | succ k => rw [timesTo, plus_length, plus_length, timesTo_length a b k]
def times (a b : List W) : List W := timesTo a b 253
theorem times_length (a b : List W) : (times a b).length = 4 := timesTo_length _ _ _
/-- bit k of bytes -/
def bitOf (s : List UInt8) (k : Nat) : W := BitVec.ofNat 64 ((s.getD (k / 8) 0).toNat / 2 ^ (k % 8) % 2)
def ofTo (s : List UInt8) : Nat → List W
  | 0 => [0, 0, 0, 0]
  | k + 1 => plus (plus (ofTo s k) (ofTo s k)) [bitOf s (8 * s.length - 1 - k), 0, 0, 0]
theorem ofTo_length (s : List UInt8) (k : Nat) : (ofTo s k).length = 4 := by
  cases k with
  | zero => rfl
  | succ k => rw [ofTo, plus_length, plus_length, ofTo_length s k]
def of (s : List UInt8) : List W := ofTo s (8 * s.length)
theorem of_length (s : List UInt8) : (of s).length = 4 := ofTo_length _ _

/-- a number below Q -/
def Fine (l : List W) : Prop := l.length = 4 ∧ val l < Q
theorem val4 (x0 x1 x2 x3 : W) : val [x0, x1, x2, x3] = x0.toNat + 18446744073709551616 * x1.toNat + 340282366920938463463374607431768211456 * x2.toNat + 6277101735386680763835789423207666416102355444464034512896 * x3.toNat := rfl
theorem val_inj {a b : List W} (ha : a.length = 4) (hb : b.length = 4) (h : val a = val b) : a = b := by
  obtain ⟨x0, x1, x2, x3, rfl⟩ := four a ha
  obtain ⟨y0, y1, y2, y3, rfl⟩ := four b hb
  rw [val4, val4] at h
  have := x0.isLt; have := x1.isLt; have := x2.isLt; have := x3.isLt
  have := y0.isLt; have := y1.isLt; have := y2.isLt; have := y3.isLt
  have e0 : x0 = y0 := BitVec.eq_of_toNat_eq (by omega)
  have e1 : x1 = y1 := BitVec.eq_of_toNat_eq (by omega)
  have e2 : x2 = y2 := BitVec.eq_of_toNat_eq (by omega)
  have e3 : x3 = y3 := BitVec.eq_of_toNat_eq (by omega)
  rw [e0, e1, e2, e3]
theorem zero_fine : Fine [0, 0, 0, 0] := ⟨rfl, by decide +kernel⟩
theorem zero_val : val [0, 0, 0, 0] = 0 := by decide +kernel

theorem add_step (x y c : W) (hc : c.toNat ≤ 1) : (x + y + c).toNat + 18446744073709551616 * (BitVec.ofNat 64 ((x.toNat + y.toNat + c.toNat) / 18446744073709551616)).toNat = x.toNat + y.toNat + c.toNat := by
  rw [BitVec.toNat_add, BitVec.toNat_add, BitVec.toNat_ofNat]
  have := x.isLt; have := y.isLt
  omega
theorem over_le (x y c : W) (hc : c.toNat ≤ 1) : (BitVec.ofNat 64 ((x.toNat + y.toNat + c.toNat) / 18446744073709551616)).toNat ≤ 1 := by
  rw [BitVec.toNat_ofNat]
  have := x.isLt; have := y.isLt
  omega
theorem add_val (a b : List W) (ha : a.length = 4) (hb : b.length = 4) (h : val a + val b < 115792089237316195423570985008687907853269984665640564039457584007913129639936) : val (addTo a b 4).1 = val a + val b := by
  obtain ⟨x0, x1, x2, x3, rfl⟩ := four a ha
  obtain ⟨y0, y1, y2, y3, rfl⟩ := four b hb
  have s0 := add_step x0 y0 0 (by decide)
  have l0 := over_le x0 y0 0 (by decide)
  simp only [addTo, List.set_cons_zero, List.set_cons_succ, List.getD_cons_zero, List.getD_cons_succ]
  generalize hc1 : BitVec.ofNat 64 ((x0.toNat + y0.toNat + (0 : W).toNat) / 18446744073709551616) = c1 at s0 l0 ⊢
  have s1 := add_step x1 y1 c1 l0
  have l1 := over_le x1 y1 c1 l0
  generalize hc2 : BitVec.ofNat 64 ((x1.toNat + y1.toNat + c1.toNat) / 18446744073709551616) = c2 at s1 l1 ⊢
  have s2 := add_step x2 y2 c2 l1
  have l2 := over_le x2 y2 c2 l1
  generalize hc3 : BitVec.ofNat 64 ((x2.toNat + y2.toNat + c2.toNat) / 18446744073709551616) = c3 at s2 l2 ⊢
  have s3 := add_step x3 y3 c3 l2
  generalize BitVec.ofNat 64 ((x3.toNat + y3.toNat + c3.toNat) / 18446744073709551616) = c4 at s3
  rw [val4] at h ⊢
  rw [val4] at h ⊢
  rw [val4]
  rw [show (0 : W).toNat = 0 from rfl] at s0
  have := (x3 + y3 + c3).isLt
  omega
theorem sub_step (x y b : W) (hb : b.toNat ≤ 1) : (x - y - b).toNat + y.toNat + b.toNat = x.toNat + 18446744073709551616 * (less x y b).toNat := by
  rw [BitVec.toNat_sub, BitVec.toNat_sub]
  have := x.isLt; have := y.isLt
  unfold less
  split
  · rw [show (1 : W).toNat = 1 from rfl]; omega
  · rw [show (0 : W).toNat = 0 from rfl]; omega
theorem sub_val (a : List W) (ha : a.length = 4) : val (subTo a 4).1 + Q = val a + 115792089237316195423570985008687907853269984665640564039457584007913129639936 * (subTo a 4).2.toNat := by
  obtain ⟨x0, x1, x2, x3, rfl⟩ := four a ha
  have l0 : (0 : W).toNat ≤ 1 := by decide
  have s0 := sub_step x0 6346243789798364141 0 l0
  have m0 := less_le x0 6346243789798364141 0
  simp only [subTo, md, List.set_cons_zero, List.set_cons_succ, List.getD_cons_zero, List.getD_cons_succ]
  generalize less x0 6346243789798364141 0 = c1 at s0 m0 ⊢
  have s1 := sub_step x1 1503914060200516822 c1 m0
  have m1 := less_le x1 1503914060200516822 c1
  generalize less x1 1503914060200516822 c1 = c2 at s1 m1 ⊢
  have s2 := sub_step x2 0 c2 m1
  have m2 := less_le x2 0 c2
  generalize less x2 0 c2 = c3 at s2 m2 ⊢
  have s3 := sub_step x3 1152921504606846976 c3 m2
  generalize less x3 1152921504606846976 c3 = c4 at s3 ⊢
  rw [val4, val4]
  rw [show (0 : W).toNat = 0 from rfl, show (6346243789798364141 : W).toNat = 6346243789798364141 from rfl] at s0
  rw [show (1503914060200516822 : W).toNat = 1503914060200516822 from rfl] at s1
  rw [show (0 : W).toNat = 0 from rfl] at s2
  rw [show (1152921504606846976 : W).toNat = 1152921504606846976 from rfl] at s3
  unfold Q
  omega
theorem pick_zero (a l : List W) (ha : a.length = 4) (hl : l.length = 4) : pickTo a l (-(0 : W)) 4 = l := by
  obtain ⟨x0, x1, x2, x3, rfl⟩ := four a ha
  obtain ⟨y0, y1, y2, y3, rfl⟩ := four l hl
  have e : ∀ x y : W, (x &&& (-(0 : W))) ||| (y &&& ~~~(-(0 : W))) = y := fun x y => by
    rw [show ~~~(-(0 : W)) = BitVec.allOnes 64 from by decide, show -(0 : W) = 0 from by decide, BitVec.and_allOnes, show x &&& (0 : W) = 0 from BitVec.and_zero]; exact BitVec.zero_or
  simp only [pickTo, List.set_cons_zero, List.set_cons_succ, List.getD_cons_zero, List.getD_cons_succ, e]
theorem pick_one (a l : List W) (ha : a.length = 4) (hl : l.length = 4) : pickTo a l (-(1 : W)) 4 = a := by
  obtain ⟨x0, x1, x2, x3, rfl⟩ := four a ha
  obtain ⟨y0, y1, y2, y3, rfl⟩ := four l hl
  have e : ∀ x y : W, (x &&& (-(1 : W))) ||| (y &&& ~~~(-(1 : W))) = x := fun x y => by
    rw [show ~~~(-(1 : W)) = 0 from by decide, show -(1 : W) = BitVec.allOnes 64 from by decide, BitVec.and_allOnes, show y &&& (0 : W) = 0 from BitVec.and_zero]; exact BitVec.or_zero
  simp only [pickTo, List.set_cons_zero, List.set_cons_succ, List.getD_cons_zero, List.getD_cons_succ, e]
theorem bit01 (b : W) (h : b.toNat ≤ 1) : b = 0 ∨ b = 1 := by
  have : b.toNat = 0 ∨ b.toNat = 1 := by omega
  rcases this with h | h
  · left; exact BitVec.eq_of_toNat_eq h
  · right; exact BitVec.eq_of_toNat_eq h
theorem val_lt (a : List W) : val a < 115792089237316195423570985008687907853269984665640564039457584007913129639936 := by
  unfold val
  have := (a.getD 0 0).isLt; have := (a.getD 1 0).isLt; have := (a.getD 2 0).isLt; have := (a.getD 3 0).isLt
  omega
theorem lowered_val (a : List W) (ha : a.length = 4) (h : val a < Q + Q) : Fine (lowered a) ∧ val (lowered a) = val a % Q := by
  have hs := sub_val a ha
  have hv := val_lt (subTo a 4).1
  have hva := val_lt a
  have hQ : Q = 7237005577332262213973186563042994240857116359379907606001950938285454250989 := rfl
  rcases bit01 _ (subTo_over a 4) with h0 | h0
  · have e : lowered a = (subTo a 4).1 := by unfold lowered; rw [h0]; exact pick_zero _ _ ha (subTo_length _ _)
    rw [h0, show (0 : W).toNat = 0 from rfl] at hs
    have : val (subTo a 4).1 = val a % Q := by
      rw [Nat.mod_eq_sub_mod (by omega), Nat.mod_eq_of_lt (by omega)]; omega
    rw [e]
    exact ⟨⟨subTo_length _ _, by omega⟩, this⟩
  · have e : lowered a = a := by unfold lowered; rw [h0]; exact pick_one _ _ ha (subTo_length _ _)
    rw [h0, show (1 : W).toNat = 1 from rfl] at hs
    rw [e]
    have : val a < Q := by omega
    exact ⟨⟨ha, this⟩, (Nat.mod_eq_of_lt this).symm⟩
theorem plus_val {a b : List W} (ha : Fine a) (hb : Fine b) : Fine (plus a b) ∧ val (plus a b) = (val a + val b) % Q := by
  have hQ : Q = 7237005577332262213973186563042994240857116359379907606001950938285454250989 := rfl
  have h1 := ha.2; have h2 := hb.2
  have e := add_val a b ha.1 hb.1 (by omega)
  have := lowered_val (addTo a b 4).1 (by rw [addTo_length, ha.1]) (by rw [e]; omega)
  rw [e] at this
  exact this
theorem only_zero (a : List W) (ha : a.length = 4) : onlyIf a 0 = [0, 0, 0, 0] := by
  obtain ⟨x0, x1, x2, x3, rfl⟩ := four a ha
  have e : ∀ x : W, x &&& (-(0 : W)) = 0 := fun x => by simp
  simp only [onlyIf, onlyTo, List.set_cons_zero, List.set_cons_succ, List.getD_cons_zero, List.getD_cons_succ, e]
theorem only_one (a : List W) (ha : a.length = 4) : onlyIf a 1 = a := by
  obtain ⟨x0, x1, x2, x3, rfl⟩ := four a ha
  have e : ∀ x : W, x &&& (-(1 : W)) = x := fun x => by rw [show -(1 : W) = BitVec.allOnes 64 from by decide, BitVec.and_allOnes]
  simp only [onlyIf, onlyTo, List.set_cons_zero, List.set_cons_succ, List.getD_cons_zero, List.getD_cons_succ, e]
theorem and_one (x : W) : (x &&& 1).toNat = x.toNat % 2 := by
  rw [BitVec.toNat_and, show (1 : W).toNat = 1 from rfl, Nat.and_one_is_mod]
theorem bit_le (a : List W) (k : Nat) : (bit a k).toNat ≤ 1 := by unfold bit; rw [and_one]; omega
theorem bit_val (a : List W) (ha : a.length = 4) (k : Nat) (hk : k < 256) : (bit a k).toNat = val a / 2 ^ k % 2 := by
  obtain ⟨x0, x1, x2, x3, rfl⟩ := four a ha
  have h0 := x0.isLt; have h1 := x1.isLt; have h2 := x2.isLt; have h3 := x3.isLt
  unfold bit
  rw [and_one, BitVec.toNat_ushiftRight, Nat.shiftRight_eq_div_pow, val4]
  have hq : k / 64 = 0 ∨ k / 64 = 1 ∨ k / 64 = 2 ∨ k / 64 = 3 := by omega
  have hlt : k % 64 < 64 := Nat.mod_lt _ (by decide)
  have key : ∀ (x L H e : Nat), L < 2 ^ e → ∀ r, r < 64 → x < 2 ^ 64 → (L + 2 ^ e * (x + 2 ^ 64 * H)) / 2 ^ (e + r) % 2 = x / 2 ^ r % 2 := by
    intro x L H e hL r hr _
    rw [Nat.pow_add, ← Nat.div_div_eq_div_mul, Nat.add_mul_div_left _ _ (Nat.two_pow_pos e), Nat.div_eq_of_lt hL, Nat.zero_add]
    have : 2 ^ 64 * H = 2 ^ r * (2 * (2 ^ (63 - r) * H)) := by
      rw [← Nat.mul_assoc, ← Nat.mul_assoc, ← Nat.pow_succ, ← Nat.pow_add]; congr 2; omega
    rw [this, Nat.add_mul_div_left _ _ (Nat.two_pow_pos r), Nat.add_mul_mod_self_left]
  rcases hq with h | h | h | h
  · rw [h]
    show x0.toNat / 2 ^ (k % 64) % 2 = _
    have hk' : k = 0 + k % 64 := by omega
    rw [show x0.toNat + 18446744073709551616 * x1.toNat + 340282366920938463463374607431768211456 * x2.toNat + 6277101735386680763835789423207666416102355444464034512896 * x3.toNat = 0 + 2 ^ 0 * (x0.toNat + 2 ^ 64 * (x1.toNat + 18446744073709551616 * x2.toNat + 340282366920938463463374607431768211456 * x3.toNat)) by omega]
    conv => rhs; rw [hk']
    rw [key _ _ _ 0 (by decide) _ hlt (by omega)]
  · rw [h]
    show x1.toNat / 2 ^ (k % 64) % 2 = _
    have hk' : k = 64 + k % 64 := by omega
    rw [show x0.toNat + 18446744073709551616 * x1.toNat + 340282366920938463463374607431768211456 * x2.toNat + 6277101735386680763835789423207666416102355444464034512896 * x3.toNat = x0.toNat + 2 ^ 64 * (x1.toNat + 2 ^ 64 * (x2.toNat + 18446744073709551616 * x3.toNat)) by omega]
    conv => rhs; rw [hk']
    rw [key _ _ _ 64 (by omega) _ hlt (by omega)]
  · rw [h]
    show x2.toNat / 2 ^ (k % 64) % 2 = _
    have hk' : k = 128 + k % 64 := by omega
    rw [show x0.toNat + 18446744073709551616 * x1.toNat + 340282366920938463463374607431768211456 * x2.toNat + 6277101735386680763835789423207666416102355444464034512896 * x3.toNat = (x0.toNat + 18446744073709551616 * x1.toNat) + 2 ^ 128 * (x2.toNat + 2 ^ 64 * x3.toNat) by omega]
    conv => rhs; rw [hk']
    rw [key _ _ _ 128 (by omega) _ hlt (by omega)]
  · rw [h]
    show x3.toNat / 2 ^ (k % 64) % 2 = _
    have hk' : k = 192 + k % 64 := by omega
    rw [show x0.toNat + 18446744073709551616 * x1.toNat + 340282366920938463463374607431768211456 * x2.toNat + 6277101735386680763835789423207666416102355444464034512896 * x3.toNat = (x0.toNat + 18446744073709551616 * x1.toNat + 340282366920938463463374607431768211456 * x2.toNat) + 2 ^ 192 * (x3.toNat + 2 ^ 64 * 0) by omega]
    conv => rhs; rw [hk']
    rw [key _ _ _ 192 (by omega) _ hlt (by omega)]
theorem twice (X Y q : Nat) : ((X % q + X % q) % q + Y) % q = (X + X + Y) % q := by simp only [Nat.add_mod, Nat.mod_mod]
/-- what doubling and a bit make of the upper bits -/
theorem upper (n m k : Nat) (hk : k < m) : n / 2 ^ (m - (k + 1)) = n / 2 ^ (m - k) + n / 2 ^ (m - k) + n / 2 ^ (m - (k + 1)) % 2 := by
  have : n / 2 ^ (m - k) = n / 2 ^ (m - (k + 1)) / 2 := by
    rw [Nat.div_div_eq_div_mul, ← Nat.pow_succ]; congr 2; omega
  rw [this]; omega
theorem only_val {a : List W} (ha : Fine a) (b : W) (hb : b.toNat ≤ 1) : Fine (onlyIf a b) ∧ val (onlyIf a b) = val a * b.toNat := by
  rcases bit01 b hb with rfl | rfl
  · rw [only_zero a ha.1]; exact ⟨zero_fine, by rw [zero_val]; simp⟩
  · rw [only_one a ha.1]; exact ⟨ha, by simp⟩
theorem timesTo_val {a b : List W} (ha : Fine a) (hb : b.length = 4) (hb2 : val b < 2 ^ 253) : ∀ k, k ≤ 253 → Fine (timesTo a b k) ∧ val (timesTo a b k) = val a * (val b / 2 ^ (253 - k)) % Q
  | 0, _ => ⟨zero_fine, by show val [0, 0, 0, 0] = _; rw [zero_val, Nat.div_eq_of_lt hb2]; simp⟩
  | k + 1, hk => by
    obtain ⟨f, v⟩ := timesTo_val ha hb hb2 k (by omega)
    obtain ⟨f2, v2⟩ := plus_val f f
    obtain ⟨f3, v3⟩ := only_val ha (bit b (252 - k)) (bit_le _ _)
    obtain ⟨f4, v4⟩ := plus_val f2 f3
    refine ⟨f4, ?_⟩
    rw [timesTo, v4, v2, v3, v, bit_val b hb _ (by omega), upper (val b) 253 k (by omega), show 253 - (k + 1) = 252 - k by omega, Nat.mul_add, Nat.mul_add]
    generalize val a * (val b / 2 ^ (253 - k)) = X
    generalize val a * (val b / 2 ^ (252 - k) % 2) = Y
    exact twice X Y Q
theorem times_val {a b : List W} (ha : Fine a) (hb : Fine b) : Fine (times a b) ∧ val (times a b) = val a * val b % Q := by
  have h := hb.2
  have hQ : Q = 7237005577332262213973186563042994240857116359379907606001950938285454250989 := rfl
  have := timesTo_val ha hb.1 (by omega) 253 (by omega)
  rw [Nat.sub_self, Nat.pow_zero, Nat.div_one] at this
  exact this
/-- the number of bytes, the lowest first -/
def num : List UInt8 → Nat
  | [] => 0
  | x :: l => x.toNat + 256 * num l
theorem num_lt : ∀ s : List UInt8, num s < 2 ^ (8 * s.length)
  | [] => by simp [num]
  | x :: l => by
    have h := num_lt l; have := x.toNat_lt
    rw [num, List.length_cons, Nat.mul_add, Nat.pow_add, Nat.mul_comm]
    generalize 2 ^ (8 * l.length) = X at *
    omega
theorem num_bit : ∀ (s : List UInt8) (k : Nat), k < 8 * s.length → num s / 2 ^ k % 2 = (s.getD (k / 8) 0).toNat / 2 ^ (k % 8) % 2
  | [], k, h => by simp at h
  | x :: l, k, h => by
    have hx := x.toNat_lt
    rw [num]
    by_cases hk : k < 8
    · rw [show k / 8 = 0 by omega, show k % 8 = k by omega]
      show _ = x.toNat / 2 ^ k % 2
      have : 256 * num l = 2 ^ k * (2 * (2 ^ (7 - k) * num l)) := by
        rw [← Nat.mul_assoc, ← Nat.mul_assoc, ← Nat.pow_succ, ← Nat.pow_add, show k.succ + (7 - k) = 8 by omega]
      rw [this, Nat.add_mul_div_left _ _ (Nat.two_pow_pos k), Nat.add_mul_mod_self_left]
    · have h8 : k = 8 + (k - 8) := by omega
      have ih := num_bit l (k - 8) (by rw [List.length_cons] at h; omega)
      rw [show k / 8 = (k - 8) / 8 + 1 by omega, show k % 8 = (k - 8) % 8 by omega, List.getD_cons_succ, ← ih]
      conv => lhs; rw [h8]
      rw [Nat.pow_add, ← Nat.div_div_eq_div_mul, show (2 : Nat) ^ 8 = 256 from rfl, Nat.add_mul_div_left _ _ (by decide), Nat.div_eq_of_lt hx, Nat.zero_add]
theorem bitOf_fine (s : List UInt8) (k : Nat) : Fine [bitOf s k, 0, 0, 0] ∧ val [bitOf s k, 0, 0, 0] = (s.getD (k / 8) 0).toNat / 2 ^ (k % 8) % 2 := by
  have : val [bitOf s k, 0, 0, 0] = (s.getD (k / 8) 0).toNat / 2 ^ (k % 8) % 2 := by
    rw [val4]; unfold bitOf; rw [BitVec.toNat_ofNat]; simp; omega
  refine ⟨⟨rfl, ?_⟩, this⟩
  rw [this]
  have hQ : Q = 7237005577332262213973186563042994240857116359379907606001950938285454250989 := rfl
  omega
theorem ofTo_val (s : List UInt8) : ∀ k, k ≤ 8 * s.length → Fine (ofTo s k) ∧ val (ofTo s k) = num s / 2 ^ (8 * s.length - k) % Q
  | 0, _ => ⟨zero_fine, by show val [0, 0, 0, 0] = _; rw [zero_val, Nat.sub_zero, Nat.div_eq_of_lt (num_lt s)]; simp⟩
  | k + 1, hk => by
    obtain ⟨f, v⟩ := ofTo_val s k (by omega)
    obtain ⟨f2, v2⟩ := plus_val f f
    obtain ⟨f3, v3⟩ := bitOf_fine s (8 * s.length - 1 - k)
    obtain ⟨f4, v4⟩ := plus_val f2 f3
    refine ⟨f4, ?_⟩
    rw [ofTo, v4, v2, v3, v, ← num_bit s _ (by omega), upper (num s) (8 * s.length) k (by omega), show 8 * s.length - 1 - k = 8 * s.length - (k + 1) by omega]
    generalize num s / 2 ^ (8 * s.length - k) = X
    generalize num s / 2 ^ (8 * s.length - (k + 1)) % 2 = Y
    exact twice X Y Q
theorem of_val (s : List UInt8) : Fine (of s) ∧ val (of s) = num s % Q := by
  have := ofTo_val s (8 * s.length) (Nat.le_refl _)
  rw [Nat.sub_self, Nat.pow_zero, Nat.div_one] at this
  exact this
end Go.Proofs.YtclpbaokadfhhaaGreatDoor.Sc
