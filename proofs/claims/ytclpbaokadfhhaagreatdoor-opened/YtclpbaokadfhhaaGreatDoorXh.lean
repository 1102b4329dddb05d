/- Several texts as one: Mg, Vb, Pub. -/
import Derived.Test.YtclpbaokadfhhaaGreatDoorXg
import Derived.Test.YtclpbaokadfhhaaGreatDoorXs
namespace Go.Proofs.YtclpbaokadfhhaaGreatDoor.Mg
open Ed

/-- two numbers that stand for a point's quotient (1 + y) / (1 - y) -/
def At {pp : Nat} [NeZero pp] (S : Field' pp) (a b : Fin pp) (p : Pt S) : Prop := ∃ l : Fin pp, l ≠ 0 ∧ a = l * (1 + p.y) ∧ b = l * (1 - p.y)
/-- that quotient; 0 where it is none -/
def U {pp : Nat} [NeZero pp] (S : Field' pp) (p : Pt S) : Fin pp := (1 + p.y) * S.inv (1 - p.y)
theorem At.quot {pp : Nat} [NeZero pp] (S : Field' pp) {a b : Fin pp} {p : Pt S} (h : At S a b p) (h0 : S.inv 0 = 0) : a * S.inv b = U S p := by
  obtain ⟨l, hl, rfl, rfl⟩ := h
  unfold U
  by_cases hy : 1 - p.y = 0
  · have e : l * (1 - p.y) = 0 := by rw [hy]; grind
    rw [e, hy, h0]; grind
  · refine frac S (mul_ne S hl hy) hy ?_
    grind
theorem half {pp : Nat} [NeZero pp] (S : Field' pp) : ∃ h : Fin pp, h ≠ 0 ∧ h * (1 + 1) = 1 := by
  have e := S.mul_inv _ S.two
  refine ⟨S.inv (1 + 1), ?_, ?_⟩
  · intro h
    rw [h] at e
    apply one_ne S
    grind
  · rw [← e]; grind
theorem At.zero {pp : Nat} [NeZero pp] (S : Field' pp) : At S 1 0 (Ed.zero S) := by
  obtain ⟨h, h1, h2⟩ := half S
  refine ⟨h, h1, ?_, ?_⟩
  · show 1 = h * (1 + 1)
    exact h2.symm
  · show 0 = h * (1 - 1)
    grind
theorem At.of {pp : Nat} [NeZero pp] (S : Field' pp) {u : Fin pp} {p : Pt S} (hy : 1 - p.y ≠ 0) (hu : u * (1 - p.y) = 1 + p.y) : At S u 1 p := by
  have e := S.mul_inv _ hy
  refine ⟨S.inv (1 - p.y), ?_, ?_, ?_⟩
  · intro h
    rw [h] at e
    apply one_ne S
    grind
  · rw [← hu]
    have : S.inv (1 - p.y) * (u * (1 - p.y)) = u * ((1 - p.y) * S.inv (1 - p.y)) := by grind
    rw [this, e]; grind
  · rw [← e]; grind
/-- from a cross product -/
theorem At.cross {pp : Nat} [NeZero pp] (S : Field' pp) {a b : Fin pp} {p : Pt S} (h : (1 + p.y) * b = (1 - p.y) * a) (hn : a ≠ 0 ∨ b ≠ 0) : At S a b p := by
  obtain ⟨g, g1, g2⟩ := half S
  have ea : (a + b) * (1 + p.y) = (1 + 1) * a := by grind
  have eb : (a + b) * (1 - p.y) = (1 + 1) * b := by grind
  refine ⟨g * (a + b), ?_, ?_, ?_⟩
  · intro e
    have e2 : a + b = 0 := by
      apply cancel S g1
      rw [e]; grind
    rw [e2] at ea eb
    rcases hn with hn | hn
    · apply hn; apply cancel S S.two; rw [← ea]; grind
    · apply hn; apply cancel S S.two; rw [← eb]; grind
  · have : g * (a + b) * (1 + p.y) = g * ((a + b) * (1 + p.y)) := by grind
    rw [this, ea]
    have : g * ((1 + 1) * a) = g * (1 + 1) * a := by grind
    rw [this, g2]; grind
  · have : g * (a + b) * (1 - p.y) = g * ((a + b) * (1 - p.y)) := by grind
    rw [this, eb]
    have : g * ((1 + 1) * b) = g * (1 + 1) * b := by grind
    rw [this, g2]; grind

/-- twice a point -/
theorem At.twice {pp : Nat} [NeZero pp] (S : Field' pp) (k : Fin pp) (hk : S.d * (k + 1) = -k) (hk1 : k + 1 ≠ 0) {a b : Fin pp} {p : Pt S} (h : At S a b p) :
    At S (((a + b) * (a + b)) * ((a - b) * (a - b))) (((a + b) * (a + b) - (a - b) * (a - b)) * ((a + b) * (a + b) + ((a + b) * (a + b) - (a - b) * (a - b)) * k)) (Ed.add S p p) := by
  obtain ⟨l, hl, rfl, rfl⟩ := h
  have on := p.on
  unfold On at on
  have eY : (Ed.add S p p).y * (1 - S.d * p.x * p.x * p.y * p.y) = p.y * p.y + p.x * p.x := addY_mul S p.on p.on
  have hd := minus_ne S p.on p.on
  have hden : 1 - S.d * p.x * p.x * p.y * p.y = 1 + 1 - p.y * p.y + p.x * p.x := by grind
  rw [hden] at eY hd
  have hM : (k + 1) * (1 + S.d * (p.y * p.y)) = 1 + k - k * (p.y * p.y) := by
    have : (k + 1) * (1 + S.d * (p.y * p.y)) = k + 1 + (S.d * (k + 1)) * (p.y * p.y) := by grind
    rw [this, hk]; grind
  have hM0 : 1 + S.d * (p.y * p.y) ≠ 0 := by
    intro e
    by_cases hy : p.y = 0
    · rw [hy] at e
      apply one_ne S
      grind
    · have hi := S.ii
      refine square_no S (A := S.i) hy ?_
      rw [hi]; grind
  have hx : (1 + p.x * p.x) * (1 + k - k * (p.y * p.y)) = p.y * p.y := by
    have e1 : p.x * p.x * (1 + S.d * (p.y * p.y)) = p.y * p.y - 1 := by grind
    rw [← hM]
    have e2 : (1 + p.x * p.x) * ((k + 1) * (1 + S.d * (p.y * p.y))) = (k + 1) * (1 + S.d * (p.y * p.y)) + (k + 1) * (p.x * p.x * (1 + S.d * (p.y * p.y))) := by grind
    rw [e2, e1, hM]; grind
  have hMn : 1 + k - k * (p.y * p.y) ≠ 0 := by rw [← hM]; exact mul_ne S hk1 hM0
  clear hM hM0 hden hk on
  generalize (Ed.add S p p) = q at eY
  have hz : ((1 + 1) * l) * ((1 + 1) * l) * (((1 + 1) * l) * ((1 + 1) * l)) * (1 + k - k * (p.y * p.y)) ≠ 0 :=
    mul_ne S (mul_ne S (mul_ne S (mul_ne S S.two hl) (mul_ne S S.two hl)) (mul_ne S (mul_ne S S.two hl) (mul_ne S S.two hl))) hMn
  have eA : ((l * (1 + p.y) + l * (1 - p.y)) * (l * (1 + p.y) + l * (1 - p.y))) * ((l * (1 + p.y) - l * (1 - p.y)) * (l * (1 + p.y) - l * (1 - p.y)))
      = ((1 + 1) * l) * ((1 + 1) * l) * (((1 + 1) * l) * ((1 + 1) * l)) * (1 + k - k * (p.y * p.y)) * (1 + p.x * p.x) := by
    have : ((1 + 1) * l) * ((1 + 1) * l) * (((1 + 1) * l) * ((1 + 1) * l)) * (1 + k - k * (p.y * p.y)) * (1 + p.x * p.x) = ((1 + 1) * l) * ((1 + 1) * l) * (((1 + 1) * l) * ((1 + 1) * l)) * ((1 + p.x * p.x) * (1 + k - k * (p.y * p.y))) := by
      generalize 1 + k - k * (p.y * p.y) = m
      grind
    rw [this, hx]; grind
  have eB : (((l * (1 + p.y) + l * (1 - p.y)) * (l * (1 + p.y) + l * (1 - p.y))) - ((l * (1 + p.y) - l * (1 - p.y)) * (l * (1 + p.y) - l * (1 - p.y)))) * (((l * (1 + p.y) + l * (1 - p.y)) * (l * (1 + p.y) + l * (1 - p.y))) + (((l * (1 + p.y) + l * (1 - p.y)) * (l * (1 + p.y) + l * (1 - p.y))) - ((l * (1 + p.y) - l * (1 - p.y)) * (l * (1 + p.y) - l * (1 - p.y)))) * k)
      = ((1 + 1) * l) * ((1 + 1) * l) * (((1 + 1) * l) * ((1 + 1) * l)) * (1 + k - k * (p.y * p.y)) * (1 - p.y * p.y) := by grind
  rw [eA, eB]
  generalize ((1 + 1) * l) * ((1 + 1) * l) * (((1 + 1) * l) * ((1 + 1) * l)) * (1 + k - k * (p.y * p.y)) = m at hz
  refine At.cross S ?_ ?_
  · grind
  · by_cases h1 : 1 + p.x * p.x = 0
    · right
      refine mul_ne S hz ?_
      intro h2
      apply hd
      grind
    · left
      exact mul_ne S hz h1

theorem diff_poly {pp : Nat} [NeZero pp] (d x1 y1 x2 y2 e : Fin pp) (he : e = d * x1 * x2 * y1 * y2)
    (E1 : y1 * y1 - x1 * x1 - 1 - d * x1 * x1 * y1 * y1 = 0) (E2 : y2 * y2 - x2 * x2 - 1 - d * x2 * x2 * y2 * y2 = 0) :
    (1 - e + y1 * y2 + x1 * x2) * (1 + e + y1 * y2 - x1 * x2) * ((y2 - y1) * (y2 - y1)) = (1 - e - y1 * y2 - x1 * x2) * (1 + e - y1 * y2 + x1 * x2) * ((y2 + y1) * (y2 + y1)) := by
  subst he
  have key : (1 - d * x1 * x2 * y1 * y2 + y1 * y2 + x1 * x2) * (1 + d * x1 * x2 * y1 * y2 + y1 * y2 - x1 * x2) * ((y2 - y1) * (y2 - y1)) - (1 - d * x1 * x2 * y1 * y2 - y1 * y2 - x1 * x2) * (1 + d * x1 * x2 * y1 * y2 - y1 * y2 + x1 * x2) * ((y2 + y1) * (y2 + y1))
      = (-4 * d * x2 * x2 * y1 * y2 * y2 * y2 - 4 * x2 * x2 * y1 * y2) * (y1 * y1 - x1 * x1 - 1 - d * x1 * x1 * y1 * y1) + (-4 * y1 * y1 * y1 * y2 + 4 * y1 * y2) * (y2 * y2 - x2 * x2 - 1 - d * x2 * x2 * y2 * y2) := by grind
  rw [E1, E2] at key
  grind

theorem lin1 {pp : Nat} [NeZero pp] (f Y s t : Fin pp) (h : Y * f = s + t) : f * (1 + Y) = f + s + t := by grind
theorem lin2 {pp : Nat} [NeZero pp] (f Y s t : Fin pp) (h : Y * f = s + t) : f * (1 - Y) = f - s - t := by grind
theorem lin3 {pp : Nat} [NeZero pp] (f Y p q v w : Fin pp) (h : Y * f = q * p + v * -w) : f * (1 + Y) = f + p * q - w * v := by grind
theorem lin4 {pp : Nat} [NeZero pp] (f Y p q v w : Fin pp) (h : Y * f = q * p + v * -w) : f * (1 - Y) = f - p * q + w * v := by grind
/-- the sum of two points whose difference is known -/
theorem At.diff {pp : Nat} [NeZero pp] (S : Field' pp) {a b c d u y : Fin pp} {p q : Pt S} (h1 : At S a b p) (h2 : At S c d q) (hy : (Ed.add S q (Ed.neg S p)).y = y) (n1 : 1 - y ≠ 0) (n2 : 1 + y ≠ 0) (hu : u * (1 - y) = 1 + y) :
    At S (((c - d) * (a + b) + (c + d) * (a - b)) * ((c - d) * (a + b) + (c + d) * (a - b))) (u * (((c - d) * (a + b) - (c + d) * (a - b)) * ((c - d) * (a + b) - (c + d) * (a - b)))) (Ed.add S p q) := by
  obtain ⟨l, hl, rfl, rfl⟩ := h1
  obtain ⟨m, hm, rfl, rfl⟩ := h2
  have hp := minus_ne S p.on q.on
  have hq := minus_ne S q.on (Ed.neg S p).on
  have eP : (Ed.add S p q).y * (1 - S.d * p.x * q.x * p.y * q.y) = p.y * q.y + p.x * q.x := addY_mul S p.on q.on
  have eM : y * (1 - S.d * q.x * -p.x * q.y * p.y) = q.y * p.y + q.x * -p.x := by rw [← hy]; exact addY_mul S q.on (Ed.neg S p).on
  change 1 - S.d * q.x * -p.x * q.y * p.y ≠ 0 at hq
  have key := diff_poly S.d p.x p.y q.x q.y _ rfl p.on q.on
  have hon1 := p.on
  have hon2 := q.on
  unfold On at hon1 hon2
  have eQ : 1 - S.d * q.x * -p.x * q.y * p.y = 1 + S.d * p.x * q.x * p.y * q.y := by grind
  rw [eQ] at hq eM
  generalize Ed.add S p q = r at eP ⊢
  clear hy eQ
  have hu0 : u ≠ 0 := by
    intro e
    apply n2
    rw [← hu, e]; grind
  have z : ((1 + 1) * l) * ((1 + 1) * m) ≠ 0 := mul_ne S (mul_ne S S.two hl) (mul_ne S S.two hm)
  have eA : (m * (1 + q.y) - m * (1 - q.y)) * (l * (1 + p.y) + l * (1 - p.y)) + (m * (1 + q.y) + m * (1 - q.y)) * (l * (1 + p.y) - l * (1 - p.y)) = ((1 + 1) * l) * ((1 + 1) * m) * (q.y + p.y) := by grind
  have eB : (m * (1 + q.y) - m * (1 - q.y)) * (l * (1 + p.y) + l * (1 - p.y)) - (m * (1 + q.y) + m * (1 - q.y)) * (l * (1 + p.y) - l * (1 - p.y)) = ((1 + 1) * l) * ((1 + 1) * m) * (q.y - p.y) := by grind
  rw [eA, eB]
  clear eA eB
  generalize ((1 + 1) * l) * ((1 + 1) * m) = g at z
  -- the cross product
  have cr : (1 + r.y) * (u * ((q.y - p.y) * (q.y - p.y))) = (1 - r.y) * ((q.y + p.y) * (q.y + p.y)) := by
    apply cancel S (mul_ne S n1 (mul_ne S hp hq))
    have a1 : (1 - S.d * p.x * q.x * p.y * q.y) * (1 + r.y) = 1 - S.d * p.x * q.x * p.y * q.y + p.y * q.y + p.x * q.x := lin1 _ _ _ _ eP
    have a2 : (1 - S.d * p.x * q.x * p.y * q.y) * (1 - r.y) = 1 - S.d * p.x * q.x * p.y * q.y - p.y * q.y - p.x * q.x := lin2 _ _ _ _ eP
    have a3 : (1 + S.d * p.x * q.x * p.y * q.y) * (1 + y) = 1 + S.d * p.x * q.x * p.y * q.y + p.y * q.y - p.x * q.x := lin3 _ _ _ _ _ _ eM
    have a4 : (1 + S.d * p.x * q.x * p.y * q.y) * (1 - y) = 1 + S.d * p.x * q.x * p.y * q.y - p.y * q.y + p.x * q.x := lin4 _ _ _ _ _ _ eM
    rw [← a1, ← a2, ← a3, ← a4] at key
    generalize 1 - S.d * p.x * q.x * p.y * q.y = f at key ⊢
    generalize 1 + S.d * p.x * q.x * p.y * q.y = k at key ⊢
    have b1 : (1 - y) * (f * k) * ((1 + r.y) * (u * ((q.y - p.y) * (q.y - p.y)))) = f * (1 + r.y) * (k * (u * (1 - y))) * ((q.y - p.y) * (q.y - p.y)) := by
      generalize 1 - y = t
      grind
    have b2 : (1 - y) * (f * k) * ((1 - r.y) * ((q.y + p.y) * (q.y + p.y))) = f * (1 - r.y) * (k * (1 - y)) * ((q.y + p.y) * (q.y + p.y)) := by
      generalize 1 - y = t
      grind
    rw [b1, b2, hu, key]
  refine At.cross S ?_ ?_
  · have b1 : (1 + r.y) * (u * (g * (q.y - p.y) * (g * (q.y - p.y)))) = g * g * ((1 + r.y) * (u * ((q.y - p.y) * (q.y - p.y)))) := by grind
    have b2 : (1 - r.y) * (g * (q.y + p.y) * (g * (q.y + p.y))) = g * g * ((1 - r.y) * ((q.y + p.y) * (q.y + p.y))) := by grind
    rw [b1, b2, cr]
  · clear cr key eP hp
    by_cases hs : q.y + p.y = 0
    · right
      refine mul_ne S hu0 (mul_ne S (mul_ne S z ?_) (mul_ne S z ?_)) <;>
      · intro hd
        have q0 : q.y = 0 := by
          apply cancel S S.two
          grind
        have p0 : p.y = 0 := by grind
        rw [q0] at eM hon2
        rw [p0] at eM hon1
        have e1 : y = -(p.x * q.x) := by grind
        have e2 : p.x * p.x = -1 := by grind
        have e3 : q.x * q.x = -1 := by grind
        have e4 : y * y = 1 := by
          rw [e1]
          have : -(p.x * q.x) * -(p.x * q.x) = (p.x * p.x) * (q.x * q.x) := by grind
          rw [this, e2, e3]; grind
        exact mul_ne S n1 n2 (by grind)
    · left
      exact mul_ne S (mul_ne S z hs) (mul_ne S z hs)

open Gf (Fp ofN)
theorem kD : Gf.S.d * (ofN 121665 + 1) = -ofN 121665 := by
  have e : ofN (Gf.D * (121665 + 1) + 121665) = ofN 0 := by rw [Gf.ofN_eq]; decide +kernel
  rw [Gf.ofN_add, Gf.ofN_mul, Gf.ofN_add, Gf.ofN_one, Gf.ofN_zero] at e
  show ofN Gf.D * (ofN 121665 + 1) = -ofN 121665
  generalize ofN 121665 = k at e ⊢
  generalize ofN Gf.D = d at e ⊢
  grind
theorem k1 : ofN 121665 + 1 ≠ (0 : Fp) := by
  intro h
  have e : ofN 121666 = ofN 0 := by rw [show 121666 = 121665 + 1 from rfl, Gf.ofN_add, Gf.ofN_one, Gf.ofN_zero]; exact h
  rw [Gf.ofN_eq] at e
  exact absurd e (by decide +kernel)
theorem inv0 : Gf.S.inv 0 = 0 := by
  show Gf.inv 0 = 0
  unfold Gf.inv
  have e : ∀ n : Nat, Gf.pw (0 : Fp) (n + 1) = 0 := by
    intro n
    show Gf.pw 0 n * 0 = 0
    generalize Gf.pw (0 : Fp) n = x
    grind
  exact e 57896044618658097711785492504343953926634992332820282019728792003956564819946

/-- the state stands for n times and n + 1 times the point -/
def Holds (r : Pt Gf.S) (n : Nat) (s : Wk.St) : Prop := At Gf.S s.a s.b (mul Gf.S n r) ∧ At Gf.S s.c s.d (mul Gf.S (n + 1) r)
theorem sub_y {pp : Nat} [NeZero pp] (S : Field' pp) (n : Nat) (r : Pt S) : (Ed.add S (mul S (n + 1) r) (neg S (mul S n r))).y = r.y ∧ (Ed.add S (mul S n r) (neg S (mul S (n + 1) r))).y = r.y := by
  have e1 : Ed.add S (mul S (n + 1) r) (neg S (mul S n r)) = r := by
    show Ed.add S (Ed.add S (mul S n r) r) (neg S (mul S n r)) = r
    rw [Ed.add_comm S (mul S n r) r, add_assoc, add_neg, Ed.add_zero]
  have e2 : Ed.add S (mul S n r) (neg S (mul S (n + 1) r)) = neg S r := by
    show Ed.add S (mul S n r) (neg S (Ed.add S (mul S n r) r)) = neg S r
    rw [neg_add, ← add_assoc, add_neg, Ed.zero_add]
  rw [e1, e2]
  exact ⟨rfl, rfl⟩
theorem Holds.by {r : Pt Gf.S} {n : Nat} {s : Wk.St} {u : Fp} (n1 : 1 - r.y ≠ 0) (n2 : 1 + r.y ≠ 0) (hu : u * (1 - r.y) = 1 + r.y) (h : Holds r n s) (t : Bool) : Holds r (2 * n + if t then 1 else 0) (s.by u t) := by
  obtain ⟨h1, h2⟩ := h
  obtain ⟨y1, y2⟩ := sub_y Gf.S n r
  cases t with
  | false =>
    refine ⟨?_, ?_⟩
    · have := At.twice Gf.S (ofN 121665) kD k1 h1
      rw [mul_twice] at this
      exact this
    · have := At.diff Gf.S h1 h2 y1 n1 n2 hu
      rw [← mul_add, show n + (n + 1) = 2 * n + 0 + 1 by omega] at this
      exact this
  | true =>
    refine ⟨?_, ?_⟩
    · have := At.diff Gf.S h2 h1 y2 n1 n2 hu
      rw [← mul_add, show n + 1 + n = 2 * n + 1 by omega] at this
      exact this
    · have := At.twice Gf.S (ofN 121665) kD k1 h2
      rw [mul_twice, show 2 * (n + 1) = 2 * n + 1 + 1 by omega] at this
      exact this
theorem Holds.run {r : Pt Gf.S} {u : Fp} (n1 : 1 - r.y ≠ 0) (n2 : 1 + r.y ≠ 0) (hu : u * (1 - r.y) = 1 + r.y) : ∀ (bits : List Bool) (n : Nat) (s : Wk.St), Holds r n s → Holds r (bitsVal bits n) (Wk.run u s bits)
  | [], _, _, h => h
  | t :: l, _, _, h => Holds.run n1 n2 hu l _ _ (h.by n1 n2 hu t)
theorem Holds.first {r : Pt Gf.S} {u : Fp} (n1 : 1 - r.y ≠ 0) (hu : u * (1 - r.y) = 1 + r.y) : Holds r 0 (Wk.first u) := by
  refine ⟨At.zero Gf.S, ?_⟩
  rw [show mul Gf.S (0 + 1) r = r from Ed.mul_one Gf.S r]
  exact At.of Gf.S n1 hu
theorem bitsVal_append : ∀ (a b : List Bool) (n : Nat), bitsVal (a ++ b) n = bitsVal b (bitsVal a n)
  | [], _, _ => rfl
  | _ :: l, b, _ => bitsVal_append l b _
/-- a point of y = 1 or y = -1: twice it is the zero -/
theorem two_zero {pp : Nat} [NeZero pp] (S : Field' pp) {p : Pt S} (h : p.y * p.y = 1) : mul S 2 p = Ed.zero S := by
  have on := p.on
  unfold On at on
  have hd : (1 + S.d) ≠ 0 := by
    intro e
    apply S.nonsq S.i
    rw [S.ii]; grind
  have hx : p.x * p.x = 0 := by
    apply cancel S hd
    grind
  have hx0 : p.x = 0 := by
    rcases eq_zero S hx with e | e <;> exact e
  have e : mul S 2 p = Ed.add S p p := by
    show Ed.add S (mul S 1 p) p = _
    rw [Ed.mul_one]
  rw [e]
  refine Pt.ext' S ?_ ?_
  · show addX S p.x p.y p.x p.y = 0
    unfold addX
    rw [hx0]; grind
  · show addY S p.x p.y p.x p.y = 1
    unfold addY
    rw [hx0]
    have e1 : 1 - S.d * 0 * 0 * p.y * p.y = 1 := by grind
    rw [e1, inv_one S, h]; grind
theorem U_zero {pp : Nat} [NeZero pp] (S : Field' pp) (h0 : S.inv 0 = 0) : U S (Ed.zero S) = 0 := by
  unfold U
  rw [show (Ed.zero S).y = 1 from rfl]
  have : (1 : Fin pp) - 1 = 0 := by grind
  rw [this, h0]; grind
theorem U_weak {pp : Nat} [NeZero pp] (S : Field' pp) (h0 : S.inv 0 = 0) {p : Pt S} (hw : p.y * p.y = 1) : U S p = 0 := by
  have h : (1 + p.y) * (1 - p.y) = 0 := by grind
  unfold U
  rcases eq_zero S h with e | e
  · rw [e]; grind
  · rw [e, h0]; grind
theorem U_cross {pp : Nat} [NeZero pp] (S : Field' pp) {p : Pt S} {u : Fin pp} (hu : u = U S p) (n1 : 1 - p.y ≠ 0) : u * (1 - p.y) = 1 + p.y := by
  have e := S.mul_inv _ n1
  rw [hu]
  unfold U
  have : (1 + p.y) * S.inv (1 - p.y) * (1 - p.y) = (1 + p.y) * ((1 - p.y) * S.inv (1 - p.y)) := by
    generalize S.inv (1 - p.y) = i
    grind
  rw [this, e]; grind
theorem U_of {pp : Nat} [NeZero pp] (S : Field' pp) {p : Pt S} {u : Fin pp} (n1 : 1 - p.y ≠ 0) (hu : u * (1 - p.y) = 1 + p.y) : u = U S p := by
  have i := S.mul_inv _ n1
  unfold U
  rw [← hu]
  have : u * (1 - p.y) * S.inv (1 - p.y) = u * ((1 - p.y) * S.inv (1 - p.y)) := by
    generalize S.inv (1 - p.y) = j
    grind
  rw [this, i]; grind
theorem mul_z {pp : Nat} [NeZero pp] (x : Fin pp) : x * 0 = 0 := by grind
theorem one_sub {pp : Nat} [NeZero pp] {y : Fin pp} (hw : ¬ y * y = 1) : 1 - y ≠ 0 ∧ 1 + y ≠ 0 := by
  refine ⟨?_, ?_⟩ <;>
  · intro e
    apply hw
    grind
theorem S_inv : Gf.S.inv = Gf.inv := rfl
/-- the ladder, by a key whose three lowest bits are 0, over whatever point of the curve -/
theorem ladder (p : Pt Gf.S) (u : Fp) (hu : u = U Gf.S p) (bits : List Bool) :
    (Wk.run u (Wk.first u) (bits ++ [false, false, false])).a * Gf.S.inv (Wk.run u (Wk.first u) (bits ++ [false, false, false])).b = U Gf.S (mul Gf.S (bitsVal (bits ++ [false, false, false]) 0) p) := by
  by_cases hw : p.y * p.y = 1
  · have hu0 : u = ofN Wk.u0 := by
      rw [hu, U_weak Gf.S inv0 hw]; rfl
    have hz := Wk.end0 bits
    rw [← hu0] at hz
    rw [hz]
    have e : bitsVal (bits ++ [false, false, false]) 0 = (4 * bitsVal bits 0) * 2 := by
      rw [bitsVal_append]
      simp only [bitsVal]
      simp
      omega
    rw [e, mul_mul, two_zero Gf.S hw, Ed.mul_zero, U_zero Gf.S inv0, inv0, mul_z]
  · obtain ⟨n1, n2⟩ := one_sub hw
    have hu' := U_cross Gf.S hu n1
    exact (Holds.run n1 n2 hu' _ 0 _ (Holds.first n1 hu')).1.quot Gf.S inv0
/-- 9 is the base point's -/
theorem base9 : ofN 9 = U Gf.S Gf.B := by
  have e : ofN 9 * (1 - ofN Gf.By) = 1 + ofN Gf.By := by
    have e : ofN (9 * (Pr.P + 1 - Gf.By)) = ofN (1 + Gf.By) := by rw [Gf.ofN_eq]; decide +kernel
    have e2 : ofN (Pr.P + 1 - Gf.By) = 1 - ofN Gf.By := by
      rw [← Gf.ofN_one]
      apply Gf.ofN_sub
      decide +kernel
    rw [Gf.ofN_mul, Gf.ofN_add, e2, Gf.ofN_one] at e
    exact e
  have n1 : 1 - ofN Gf.By ≠ 0 := by
    intro h
    rw [h] at e
    have e3 : ofN (1 + Gf.By) = ofN 0 := by
      rw [Gf.ofN_add, Gf.ofN_one, ← e, Gf.ofN_zero]
      generalize ofN 9 = x
      grind
    rw [Gf.ofN_eq] at e3
    exact absurd e3 (by decide +kernel)
  exact U_of Gf.S (p := Gf.B) n1 e

end Go.Proofs.YtclpbaokadfhhaaGreatDoor.Mg

namespace Go.Proofs.YtclpbaokadfhhaaGreatDoor
open Ff (W)

open Gf (Fp ofN)
open Ff (fe Small)
/-- a key's number -/
def keyNum (secret : List UInt8) : Nat := Ed.bitsVal (keyBits (changed secret) 255) 0
/-- what a secret and a number make, as an element -/
theorem lad_fe (secret : List UInt8) (hs : secret.length = 32) {V : List (BitVec 64)} (hV : Small V) (p : Ed.Pt Gf.S) (hp : fe V = Mg.U Gf.S p) :
    ∃ x, Small x ∧ fe x = Mg.U Gf.S (Ed.mul Gf.S (keyNum secret) p) ∧ ladBytes secret V = Ff.bytes x := by
  obtain ⟨h1, h2⟩ := to_fe (changed secret) hV 255
  have hlb : ladBytes secret V = Ff.bytes (Ff.times (Lad.to (changed secret) V 255).a (Ff.inverse (Lad.to (changed secret) V 255).b)) := rfl
  generalize Lad.to (changed secret) V 255 = L at h1 h2 hlb
  obtain ⟨hA, hB, _, _⟩ := h1
  obtain ⟨i1, i2⟩ := Ff.inverse_fe hB
  obtain ⟨t1, t2⟩ := Ff.times_fe hA i1
  refine ⟨_, t1, ?_, hlb⟩
  rw [t2, i2]
  have ea : fe L.a = (Wk.run (fe V) (Wk.first (fe V)) (keyBits (changed secret) 255)).a := congrArg Wk.St.a h2
  have eb : fe L.b = (Wk.run (fe V) (Wk.first (fe V)) (keyBits (changed secret) 255)).b := congrArg Wk.St.b h2
  rw [ea, eb]
  unfold keyNum
  rw [low_bits secret hs, ← Mg.S_inv]
  exact Mg.ladder p (fe V) hp _
def nine : List (BitVec 64) := [9, 0, 0, 0, 0]
theorem nine_small : Small nine := ⟨rfl, by decide +kernel⟩
theorem nine_fe : fe nine = Mg.U Gf.S Gf.B := Mg.base9
/-- a public key -/
def publicOf (secret : List UInt8) : List UInt8 := ladBytes secret nine
/-- what two agree upon is the same -/
theorem agreed_both (one two : List UInt8) (h1 : one.length = 32) (h2 : two.length = 32) : agreed one (publicOf two) = agreed two (publicOf one) := by
  have e : ∀ a b : List UInt8, a.length = 32 → b.length = 32 → ∃ x, Small x ∧ fe x = Mg.U Gf.S (Ed.mul Gf.S (keyNum a) (Ed.mul Gf.S (keyNum b) Gf.B)) ∧ agreed a (publicOf b) = Ff.bytes x := by
    intro a b ha hb
    obtain ⟨y, s1, s2, s4⟩ := lad_fe b hb nine_small Gf.B nine_fe
    have s3 := Ff.of_bytes s1
    rw [s2, ← s4] at s3
    exact lad_fe a ha (of_small (publicOf b)) _ s3
  obtain ⟨x, x1, x2, x3⟩ := e one two h1 h2
  obtain ⟨y, y1, y2, y3⟩ := e two one h2 h1
  rw [x3, y3]
  unfold Ff.bytes
  rw [Ff.lowest_eq x1 y1 (by rw [x2, y2, ← Ed.mul_mul, ← Ed.mul_mul, Nat.mul_comm])]
end Go.Proofs.YtclpbaokadfhhaaGreatDoor

namespace Go.Proofs.YtclpbaokadfhhaaGreatDoor
open Go.RowKit

theorem buildNine (w : World) : (Instr.build 69 #[(0, .int .u64 9)]).run Tryz.prog w = .ok (.agg (Ws nine)) w := run_build w _ _ _ (by kernel_rfl)

set_option maxRecDepth 100000 in
set_option maxHeartbeats 2000000 in
theorem A_public (s : ByteArray) (w : World) (hs : s.size = 32) :
    Calls Tryz.prog 25 #[.string s] w fun e w' => e = .returned (.string ⟨(publicOf s.data.toList).toArray⟩) ∧ Below w.heap.size w w' := by
  have H2 : Hid (∀ wx : World, Calls Tryz.prog 50 #[.string s, .agg (Ws nine)] wx fun e w' => e = .returned (.string ⟨(publicOf s.data.toList).toArray⟩) ∧ Below wx.heap.size wx w') := fun wx => A_withNumber s _ wx hs rfl
  have HB := buildNine
  generalize publicOf s.data.toList = R at H2 ⊢
  generalize nine = V at H2 HB
  go_enter Tryz.func25, Tryz.ntmps25
  go_wp2_with (refine wpList_build rfl 69 _ rfl [(0, .int .u64 9)] rfl _ (HB _) ?_)
  refine (H2.out _).mono ?_
  rintro e w2 ⟨rfl, b2⟩
  go_wp2
  go_ret
  exact ⟨rfl, b2⟩

set_option maxRecDepth 100000 in
set_option maxHeartbeats 2000000 in
theorem Public_any (s : ByteArray) (w : World) (hs : s.size = 32) :
    Calls Tryz.prog 12 #[.string s] w fun e w' => e = .returned (.tuple #[.string ⟨(publicOf s.data.toList).toArray⟩, .int .i64 0]) ∧ Below w.heap.size w w' := by
  have hbel : Below w.heap.size w (w.alloc (.cells (Ss [s]) 9)) := (Below.refl _ _).alloc (Nat.le_refl _) _
  have HT := notKeys_one s w (by omega)
  have e2 : decide (¬ (s.size = 32)) = false := by simp [hs]
  rw [e2] at HT
  replace HT : Hid (Calls Tryz.prog 24 #[.slice (some ⟨w.heap.size, 0, none⟩) 1 1] (w.alloc (.cells (Ss [s]) 9)) fun e w' => e = .returned (.bool false) ∧ w' = w.alloc (.cells (Ss [s]) 9)) := HT
  have HU : Hid (∀ wx : World, Calls Tryz.prog 25 #[.string s] wx fun e w' => e = .returned (.string ⟨(publicOf s.data.toList).toArray⟩) ∧ Below wx.heap.size wx w') := fun wx => A_public s wx hs
  generalize publicOf s.data.toList = R at HU ⊢
  clear e2 hs
  go_enter Tryz.func12, Tryz.ntmps12
  go_wp2_with fail
  refine HT.out.mono ?_
  rintro e w' ⟨rfl, rfl⟩
  go_wp2_with fail
  refine (HU.out _).mono ?_
  rintro e w2 ⟨rfl, hb2⟩
  go_wp2
  go_ret2
  exact ⟨rfl, hbel.trans (hb2.mono hbel.size)⟩

end Go.Proofs.YtclpbaokadfhhaaGreatDoor
