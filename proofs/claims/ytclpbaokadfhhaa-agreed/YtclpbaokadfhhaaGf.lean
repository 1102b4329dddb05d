/- Numbers modulo 2^255 - 19 as a field, the curve's constants over it, its base point and that point's order: plain lemmas, no program. -/
import Derived.Test.YtclpbaokadfhhaaPr
import Derived.Test.YtclpbaokadfhhaaEd
namespace Go.Proofs.Ytclpbaokadfhhaa.Gf

theorem P_pos : 0 < Pr.P := by unfold Pr.P; omega
def Pm : Nat := 57896044618658097711785492504343953926634992332820282019728792003956564819948
abbrev Fp : Type := Fin (Pm + 1)
theorem Pm_eq : Pm + 1 = Pr.P := rfl
def ofN (n : Nat) : Fp := Fin.ofNat (Pm + 1) n
def toN (a : Fp) : Nat := Fin.val (n := Pm + 1) a
theorem toN_lt (a : Fp) : toN a < Pr.P := Fin.isLt (n := Pm + 1) a
theorem toN_ofN (n : Nat) : toN (ofN n) = n % Pr.P := rfl
theorem ofN_toN (a : Fp) : ofN (toN a) = a := Fin.ext (Nat.mod_eq_of_lt (toN_lt a))
theorem toN_inj {a b : Fp} (h : toN a = toN b) : a = b := Fin.ext h
theorem ofN_eq {a b : Nat} : ofN a = ofN b ↔ a % Pr.P = b % Pr.P :=
  ⟨fun h => by rw [← toN_ofN, ← toN_ofN, h], fun h => toN_inj (by rw [toN_ofN, toN_ofN, h])⟩
theorem ofN_add (a b : Nat) : ofN (a + b) = ofN a + ofN b := by
  apply toN_inj
  show (a + b) % Pr.P = (a % Pr.P + b % Pr.P) % Pr.P
  rw [← Nat.add_mod]
theorem ofN_mul (a b : Nat) : ofN (a * b) = ofN a * ofN b := by
  apply toN_inj
  show (a * b) % Pr.P = (a % Pr.P * (b % Pr.P)) % Pr.P
  rw [← Nat.mul_mod]
theorem ofN_zero : ofN 0 = 0 := rfl
theorem ofN_one : ofN 1 = 1 := rfl
theorem ofN_P : ofN Pr.P = 0 := by
  rw [← ofN_zero, ofN_eq, Nat.mod_self, Nat.zero_mod]
theorem ofN_mod (n : Nat) : ofN (n % Pr.P) = ofN n := by rw [ofN_eq, Nat.mod_mod]
theorem ofN_sub {a b c : Nat} (h : (c + b) % Pr.P = a % Pr.P) : ofN c = ofN a - ofN b := by
  have : ofN c + ofN b = ofN a := by rw [← ofN_add, ofN_eq, h]
  rw [← this]
  generalize ofN c = x
  generalize ofN b = y
  grind
theorem ne_zero {a : Fp} (h : a ≠ 0) : toN a % Pr.P ≠ 0 := by
  intro e
  apply h
  rw [← ofN_toN a, ← ofN_zero, ofN_eq, e, Nat.zero_mod]

/-- powers -/
def pw (a : Fp) : Nat → Fp
  | 0 => 1
  | n + 1 => pw a n * a
theorem ofN_pow (a : Nat) : ∀ n : Nat, ofN (a ^ n) = pw (ofN a) n
  | 0 => rfl
  | n + 1 => by rw [Nat.pow_succ, ofN_mul, ofN_pow a n]; rfl
theorem pw_add (a : Fp) (m : Nat) : ∀ n : Nat, pw a (m + n) = pw a m * pw a n
  | 0 => by
    show pw a m = pw a m * 1
    generalize pw a m = x
    grind
  | n + 1 => by
    show pw a (m + n) * a = pw a m * (pw a n * a)
    rw [pw_add a m n]
    generalize pw a m = x
    generalize pw a n = y
    grind
theorem pw_mul_base (a b : Fp) : ∀ n : Nat, pw (a * b) n = pw a n * pw b n
  | 0 => by
    show (1 : Fp) = 1 * 1
    grind
  | n + 1 => by
    show pw (a * b) n * (a * b) = (pw a n * a) * (pw b n * b)
    rw [pw_mul_base a b n]
    generalize pw a n = x
    generalize pw b n = y
    grind
theorem fermat {a : Fp} (h : a ≠ 0) (n : Nat) (hn : n + 1 = Pr.P) : pw a n = 1 := by
  have e := Pr.fermat (toN a) (ne_zero h)
  have e2 : Pr.P - 1 = n := by omega
  rw [e2] at e
  rw [← ofN_toN a, ← ofN_pow, ← ofN_one, ofN_eq, e]
  rfl

/-- one through a number, 0 of 0 -/
def inv (a : Fp) : Fp := pw a 57896044618658097711785492504343953926634992332820282019728792003956564819947
theorem mul_inv (a : Fp) (h : a ≠ 0) : a * inv a = 1 := by
  have e := fermat h 57896044618658097711785492504343953926634992332820282019728792003956564819948 (by unfold Pr.P; omega)
  have e2 : pw a 57896044618658097711785492504343953926634992332820282019728792003956564819948 = pw a (57896044618658097711785492504343953926634992332820282019728792003956564819947 + 1) := by congr 1
  rw [e2, pw_add] at e
  unfold inv
  have e3 : pw a 1 = a := by
    show (1 : Fp) * a = a
    grind
  rw [e3] at e
  generalize pw a 57896044618658097711785492504343953926634992332820282019728792003956564819947 = x at e ⊢
  rw [← e]
  grind
theorem ofN_inv (n e : Nat) (he : e + 2 = Pr.P) : ofN (n ^ e) = inv (ofN n) := by
  rw [ofN_pow]
  unfold inv
  have : e = 57896044618658097711785492504343953926634992332820282019728792003956564819947 := by unfold Pr.P at he; omega
  rw [this]

def D : Nat := 37095705934669439343138083508754565189542113879843219016388785533085940283555
def I : Nat := 19681161376707505956807079304988542015446066515923890162744021073123829784752
theorem two_ne : (1 : Fp) + 1 ≠ 0 := by
  intro h
  have e : ofN 2 = ofN 0 := h
  rw [ofN_eq] at e
  exact absurd e (by decide +kernel)
theorem ii : ofN I * ofN I = -1 := by
  have e : ofN (I * I + 1) = ofN 0 := by rw [ofN_eq]; decide +kernel
  rw [ofN_add, ofN_mul, ofN_one, ofN_zero] at e
  generalize ofN I = x at e ⊢
  grind
theorem half : Pr.pm Pr.P 256 D 28948022309329048855892746252171976963317496166410141009864396001978282409974 ≠ 1 := by decide +kernel
theorem nonsq (t : Fp) : t * t ≠ ofN D := by
  intro h
  have ht : t ≠ 0 := by
    intro e
    rw [e] at h
    have : ofN D = ofN 0 := by rw [← h, ofN_zero]; grind
    rw [ofN_eq] at this
    exact absurd this (by decide +kernel)
  have e := fermat ht 57896044618658097711785492504343953926634992332820282019728792003956564819948 (by unfold Pr.P; omega)
  have e2 : pw t 57896044618658097711785492504343953926634992332820282019728792003956564819948 = pw t (28948022309329048855892746252171976963317496166410141009864396001978282409974 + 28948022309329048855892746252171976963317496166410141009864396001978282409974) := by congr 1
  rw [e2, pw_add, ← pw_mul_base, h, ← ofN_pow, ← ofN_one, ofN_eq] at e
  apply half
  rw [Pr.pm_eq Pr.P 256 D _ (by omega), e]
  rfl
/-- the field and the curve -/
def S : Ed.Field' (Pm + 1) where
  inv := inv
  mul_inv := mul_inv
  d := ofN D
  i := ofN I
  ii := ii
  nonsq := nonsq
  two := two_ne

def Bx : Nat := 15112221349535400772501151409588531511454012693041857206046113283949847762202
def By : Nat := 46316835694926478169428394003475163141307993866256225615783033603165251855960
theorem B_on : Ed.On S (ofN Bx) (ofN By) := by
  show ofN By * ofN By - ofN Bx * ofN Bx - 1 - ofN D * ofN Bx * ofN Bx * ofN By * ofN By = 0
  have e : ofN (By * By) = ofN (Bx * Bx + 1 + D * Bx * Bx * By * By) := by rw [ofN_eq]; decide +kernel
  simp only [ofN_add, ofN_mul, ofN_one] at e
  generalize ofN By = y at e ⊢
  generalize ofN Bx = x at e ⊢
  generalize ofN D = d at e ⊢
  grind
abbrev Pt := Ed.Pt S
/-- B -/
def B : Pt := ⟨ofN Bx, ofN By, B_on⟩

/-- sums of three numbers each, as a closed reckoning -/
def sum3 (a b : Nat × Nat × Nat) : Nat × Nat × Nat :=
  let z := a.2.2 * b.2.2 % Pr.P
  let w := z * z % Pr.P
  let xx := a.1 * b.1 % Pr.P
  let yy := a.2.1 * b.2.1 % Pr.P
  let c := D * xx % Pr.P * yy % Pr.P
  let more := w + c
  let less := w + (Pr.P - c)
  (z * (a.1 * b.2.1 + b.1 * a.2.1) % Pr.P * less % Pr.P, z * (yy + xx) % Pr.P * more % Pr.P, more * less % Pr.P)
def Rep3 (a : Nat × Nat × Nat) (p : Pt) : Prop := Ed.Rep S (ofN a.1) (ofN a.2.1) (ofN a.2.2) p
theorem sum3_rep {a b : Nat × Nat × Nat} {p q : Pt} (h1 : Rep3 a p) (h2 : Rep3 b q) : Rep3 (sum3 a b) (Ed.add S p q) := by
  obtain ⟨x1, y1, z1⟩ := a
  obtain ⟨x2, y2, z2⟩ := b
  have h := Ed.Rep.add S h1 h2 _ _ _ _ _ rfl rfl rfl rfl rfl
  have dS : S.d = ofN D := rfl
  rw [dS] at h
  simp only at h
  have less : ∀ w c : Nat, ofN (w + (Pr.P - c % Pr.P)) = ofN w - ofN c := by
    intro w c
    apply ofN_sub
    have hlt := Nat.mod_lt c P_pos
    have e : w + (Pr.P - c % Pr.P) + c = w + (Pr.P - c % Pr.P + c % Pr.P) + Pr.P * (c / Pr.P) := by
      have := Nat.div_add_mod c Pr.P
      omega
    rw [e, Nat.sub_add_cancel (Nat.le_of_lt hlt), Nat.add_mul_mod_self_left, Nat.add_mod_right]
  show Ed.Rep S (ofN _) (ofN _) (ofN _) _
  simp only [sum3, ofN_mod, ofN_mul, ofN_add, less]
  exact h
def times3 (a : Nat × Nat × Nat) : Nat → Nat → Nat × Nat × Nat
  | 0, _ => (0, 1, 1)
  | f + 1, n => let h := times3 a f (n / 2); let s := sum3 h h; if n % 2 = 1 then sum3 s a else s
theorem times3_rep {a : Nat × Nat × Nat} {p : Pt} (h : Rep3 a p) : ∀ f n : Nat, n < 2 ^ f → Rep3 (times3 a f n) (Ed.mul S n p)
  | 0, n, hn => by
    have : n = 0 := by simpa using hn
    subst this
    exact Ed.Rep.zero S
  | f + 1, n, hn => by
    have ih := times3_rep h f (n / 2) (by rw [Nat.pow_succ] at hn; omega)
    have h2 := sum3_rep ih ih
    rw [Ed.mul_twice] at h2
    show Rep3 (if n % 2 = 1 then sum3 (sum3 (times3 a f (n / 2)) (times3 a f (n / 2))) a else sum3 (times3 a f (n / 2)) (times3 a f (n / 2))) _
    split
    · rename_i hodd
      have h3 := sum3_rep h2 h
      rw [Ed.mul_succ] at h3
      have e : 2 * (n / 2) + 1 = n := by omega
      rw [e] at h3
      exact h3
    · have e : 2 * (n / 2) = n := by omega
      rw [e] at h2
      exact h2
/-- Q -/
def Q : Nat := 7237005577332262213973186563042994240857116359379907606001950938285454250989
theorem Q_times : (let r := times3 (Bx, By, 1) 253 Q; decide (r.1 % Pr.P = 0) && decide (r.2.1 % Pr.P = r.2.2 % Pr.P)) = true := by decide +kernel
theorem QB : Ed.mul S Q B = Ed.zero S := by
  have hB : Rep3 (Bx, By, 1) B := Ed.Rep.of S B
  have h := times3_rep hB 253 Q (by decide +kernel)
  have e := Q_times
  generalize times3 (Bx, By, 1) 253 Q = r at h e
  obtain ⟨x, y, z⟩ := r
  simp only [Bool.and_eq_true, decide_eq_true_eq] at e
  obtain ⟨e1, e2⟩ := e
  obtain ⟨hz, hx, hy⟩ := h
  have hz : ofN z ≠ 0 := hz
  have hx : ofN x = (Ed.mul S Q B).x * ofN z := hx
  have hy : ofN y = (Ed.mul S Q B).y * ofN z := hy
  have k1 : ofN x = 0 := by rw [← ofN_zero, ofN_eq, e1, Nat.zero_mod]
  have k2 : ofN y = ofN z := ofN_eq.2 e2
  refine Ed.Pt.ext' S ?_ ?_
  · show (Ed.mul S Q B).x = 0
    rw [k1] at hx
    rcases Ed.eq_zero S hx.symm with h | h
    · exact h
    · exact absurd h hz
  · show (Ed.mul S Q B).y = 1
    rw [k2] at hy
    generalize (Ed.mul S Q B).y = t at hy ⊢
    generalize ofN z = u at hy hz
    have : u * t = u * 1 := by
      have e : u * 1 = u := by grind
      rw [e]
      conv => rhs; rw [hy]
      grind
    exact Ed.cancel S hz this

end Go.Proofs.Ytclpbaokadfhhaa.Gf
