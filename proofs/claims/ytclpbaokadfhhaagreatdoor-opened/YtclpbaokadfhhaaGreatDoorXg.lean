/- Several texts as one: Wk, Wk5, Wkv. -/
import Derived.Test.YtclpbaokadfhhaaGreatDoorZc
import Derived.Test.YtclpbaokadfhhaaGreatDoorXf
import Derived.Test.YtclpbaokadfhhaaGreatDoorXs
namespace Go.Proofs.YtclpbaokadfhhaaGreatDoor.Wk
open Gf (Fp ofN)

/-- one step of the ladder, over the field -/
def fA (a b : Fp) : Fp := ((a + b) * (a + b)) * ((a - b) * (a - b))
def fB (a b : Fp) : Fp := ((a + b) * (a + b) - (a - b) * (a - b)) * ((a + b) * (a + b) + ((a + b) * (a + b) - (a - b) * (a - b)) * ofN 121665)
def fC (a b c d : Fp) : Fp := ((c - d) * (a + b) + (c + d) * (a - b)) * ((c - d) * (a + b) + (c + d) * (a - b))
def fD (u a b c d : Fp) : Fp := u * (((c - d) * (a + b) - (c + d) * (a - b)) * ((c - d) * (a + b) - (c + d) * (a - b)))
/-- a state, and a step by a bit -/
structure St where
  a : Fp
  b : Fp
  c : Fp
  d : Fp
def St.swap (s : St) (t : Bool) : St := if t then ⟨s.c, s.d, s.a, s.b⟩ else s
def St.step (u : Fp) (s : St) : St := ⟨fA s.a s.b, fB s.a s.b, fC s.a s.b s.c s.d, fD u s.a s.b s.c s.d⟩
def St.by (u : Fp) (s : St) (t : Bool) : St := ((s.swap t).step u).swap t

/-- the same as closed numbers -/
abbrev Q4 := Nat × Nat × Nat × Nat
def sub (x y : Nat) : Nat := x + (Pr.P - y % Pr.P)
theorem sub_eq (x y : Nat) : ofN (sub x y) = ofN x - ofN y := by
  apply Gf.ofN_sub
  have hlt := Nat.mod_lt y Gf.P_pos
  unfold sub
  have e : x + (Pr.P - y % Pr.P) + y = x + (Pr.P - y % Pr.P + y % Pr.P) + Pr.P * (y / Pr.P) := by
    have := Nat.div_add_mod y Pr.P
    omega
  rw [e, Nat.sub_add_cancel (Nat.le_of_lt hlt), Nat.add_mul_mod_self_left, Nat.add_mod_right]
def stepN (u : Nat) (s : Q4) : Q4 :=
  let (a, b, c, d) := s
  let e := a + b
  let f := sub a b
  let g := c + d
  let h := sub c d
  let ee := e * e
  let ff := f * f
  let ap := sub ee ff
  let x := h * e + g * f
  let y := sub (h * e) (g * f)
  (ee * ff % Pr.P, ap * (ee + ap * 121665) % Pr.P, x * x % Pr.P, u * (y * y) % Pr.P)
def swapN (s : Q4) (t : Bool) : Q4 := if t then (s.2.2.1, s.2.2.2, s.1, s.2.1) else s
def byN (u : Nat) (s : Q4) (t : Bool) : Q4 := swapN (stepN u (swapN s t)) t
/-- (x, y) is a multiple of (z, v), z being 1, or z 0 and v 1, or both 0 -/
def mult (x y z v : Nat) : Bool :=
  (decide (z = 1) && decide (y % Pr.P = x * v % Pr.P)) || (decide (z = 0) && decide (v = 1) && decide (x % Pr.P = 0)) || (decide (z = 0) && decide (v = 0) && decide (x % Pr.P = 0) && decide (y % Pr.P = 0))
def mult4 (r t : Q4) : Bool := mult r.1 r.2.1 t.1 t.2.1 && mult r.2.2.1 r.2.2.2 t.2.2.1 t.2.2.2
/-- the states L are closed under steps -/
def shut (u : Nat) (L : List Q4) : Bool := L.all fun s => [false, true].all fun t => L.any fun r => mult4 (byN u s t) r
/-- three steps by 0 end at b = 0 -/
def ends (u : Nat) (L : List Q4) : Bool := L.all fun s => L.any fun r => mult4 (byN u s false) r && L.any fun r2 => mult4 (byN u r false) r2 && L.any fun r3 => mult4 (byN u r2 false) r3 && decide (r3.2.1 = 0)

/-- the state s is, up to factors, the closed one -/
def Like (q : Q4) (s : St) : Prop := ∃ l m : Fp, s.a = l * ofN q.1 ∧ s.b = l * ofN q.2.1 ∧ s.c = m * ofN q.2.2.1 ∧ s.d = m * ofN q.2.2.2
theorem Like.swap {q : Q4} {s : St} (h : Like q s) (t : Bool) : Like (swapN q t) (s.swap t) := by
  obtain ⟨l, m, h1, h2, h3, h4⟩ := h
  cases t with
  | false => exact ⟨l, m, h1, h2, h3, h4⟩
  | true => exact ⟨m, l, h3, h4, h1, h2⟩
theorem Like.step {q : Q4} {s : St} (u : Nat) (h : Like q s) : Like (stepN u q) (s.step (ofN u)) := by
  obtain ⟨l, m, h1, h2, h3, h4⟩ := h
  obtain ⟨a, b, c, d⟩ := q
  obtain ⟨sa, sb, sc, sd⟩ := s
  simp only at h1 h2 h3 h4
  subst h1 h2 h3 h4
  refine ⟨l * l * l * l, l * m * (l * m), ?_, ?_, ?_, ?_⟩
  · show fA _ _ = _ * ofN ((a + b) * (a + b) * (sub a b * sub a b) % Pr.P)
    simp only [Gf.ofN_mod, Gf.ofN_mul, Gf.ofN_add, sub_eq, fA]
    generalize ofN a = x
    generalize ofN b = y
    grind
  · show fB _ _ = _ * ofN (sub ((a + b) * (a + b)) (sub a b * sub a b) * ((a + b) * (a + b) + sub ((a + b) * (a + b)) (sub a b * sub a b) * 121665) % Pr.P)
    simp only [Gf.ofN_mod, Gf.ofN_mul, Gf.ofN_add, sub_eq, fB]
    generalize ofN a = x
    generalize ofN b = y
    generalize ofN 121665 = k
    grind
  · show fC _ _ _ _ = _ * ofN ((sub c d * (a + b) + (c + d) * sub a b) * (sub c d * (a + b) + (c + d) * sub a b) % Pr.P)
    simp only [Gf.ofN_mod, Gf.ofN_mul, Gf.ofN_add, sub_eq, fC]
    generalize ofN a = x
    generalize ofN b = y
    generalize ofN c = z
    generalize ofN d = v
    grind
  · show fD _ _ _ _ _ = _ * ofN (u * (sub (sub c d * (a + b)) ((c + d) * sub a b) * sub (sub c d * (a + b)) ((c + d) * sub a b)) % Pr.P)
    simp only [Gf.ofN_mod, Gf.ofN_mul, Gf.ofN_add, sub_eq, fD]
    generalize ofN a = x
    generalize ofN b = y
    generalize ofN c = z
    generalize ofN d = v
    generalize ofN u = t
    grind
theorem Like.by {q : Q4} {s : St} (u : Nat) (h : Like q s) (t : Bool) : Like (byN u q t) (s.by (ofN u) t) := ((h.swap t).step u).swap t
theorem mult_of {x y z v : Nat} (h : mult x y z v = true) : ∃ k : Fp, ofN x = k * ofN z ∧ ofN y = k * ofN v := by
  simp only [mult, Bool.or_eq_true, Bool.and_eq_true, decide_eq_true_eq] at h
  rcases h with (⟨rfl, h⟩ | ⟨⟨rfl, rfl⟩, h⟩) | ⟨⟨⟨rfl, rfl⟩, h⟩, h2⟩
  · refine ⟨ofN x, ?_, ?_⟩
    · rw [Gf.ofN_one]; generalize ofN x = k; grind
    · rw [← Gf.ofN_mul]; exact Gf.ofN_eq.2 h
  · refine ⟨ofN y, ?_, ?_⟩
    · rw [Gf.ofN_zero]
      have : ofN x = 0 := by rw [← Gf.ofN_zero, Gf.ofN_eq, h, Nat.zero_mod]
      rw [this]; generalize ofN y = k; grind
    · rw [Gf.ofN_one]; generalize ofN y = k; grind
  · refine ⟨0, ?_, ?_⟩
    · have : ofN x = 0 := by rw [← Gf.ofN_zero, Gf.ofN_eq, h, Nat.zero_mod]
      rw [this, Gf.ofN_zero]; grind
    · have : ofN y = 0 := by rw [← Gf.ofN_zero, Gf.ofN_eq, h2, Nat.zero_mod]
      rw [this, Gf.ofN_zero]; grind
theorem Like.of {r t : Q4} {s : St} (h : Like r s) (hm : mult4 r t = true) : Like t s := by
  simp only [mult4, Bool.and_eq_true] at hm
  obtain ⟨k1, e1, e2⟩ := mult_of hm.1
  obtain ⟨k2, e3, e4⟩ := mult_of hm.2
  obtain ⟨l, m, h1, h2, h3, h4⟩ := h
  rw [e1] at h1; rw [e2] at h2; rw [e3] at h3; rw [e4] at h4
  refine ⟨l * k1, m * k2, ?_, ?_, ?_, ?_⟩
  · rw [h1]; generalize ofN t.1 = x; grind
  · rw [h2]; generalize ofN t.2.1 = x; grind
  · rw [h3]; generalize ofN t.2.2.1 = x; grind
  · rw [h4]; generalize ofN t.2.2.2 = x; grind

/-- many steps -/
def run (u : Fp) (s : St) : List Bool → St
  | [] => s
  | t :: r => run u (s.by u t) r
theorem run_append (u : Fp) : ∀ (x y : List Bool) (s : St), run u s (x ++ y) = run u (run u s x) y
  | [], y, s => rfl
  | t :: r, y, s => by simp only [List.cons_append, run]; exact run_append u r y _
theorem run_like (u : Nat) (L : List Q4) (hs : shut u L = true) : ∀ (bits : List Bool) (s : St), (∃ q ∈ L, Like q s) → ∃ q ∈ L, Like q (run (ofN u) s bits)
  | [], s, h => h
  | t :: r, s, ⟨q, hq, hl⟩ => by
    refine run_like u L hs r _ ?_
    have h1 := List.all_eq_true.1 hs q hq
    have h2 := List.all_eq_true.1 h1 t (by cases t <;> simp)
    obtain ⟨q2, hq2, hm⟩ := List.any_eq_true.1 h2
    exact ⟨q2, hq2, (hl.by u t).of hm⟩
theorem run_ends (u : Nat) (L : List Q4) (hs : shut u L = true) (he : ends u L = true) (bits : List Bool) (s : St) (h : ∃ q ∈ L, Like q s) : (run (ofN u) s (bits ++ [false, false, false])).b = 0 := by
  rw [run_append]
  obtain ⟨q, hq, hl⟩ := run_like u L hs bits s h
  have h1 := List.all_eq_true.1 he q hq
  obtain ⟨r, hr, h2⟩ := List.any_eq_true.1 h1
  simp only [Bool.and_eq_true] at h2
  obtain ⟨h2, h3⟩ := h2
  obtain ⟨r2, hr2, h4⟩ := List.any_eq_true.1 h3
  simp only [Bool.and_eq_true] at h4
  obtain ⟨h4, h5⟩ := h4
  obtain ⟨r3, hr3, h6⟩ := List.any_eq_true.1 h5
  simp only [Bool.and_eq_true, decide_eq_true_eq] at h6
  obtain ⟨h6, h7⟩ := h6
  have k := ((((hl.by u false).of h2).by u false).of h4).by u false |>.of h6
  obtain ⟨l, m, _, e, _, _⟩ := k
  show (St.by (ofN u) (St.by (ofN u) (St.by (ofN u) (run (ofN u) s bits) false) false) false).b = 0
  rw [e, h7, Gf.ofN_zero]
  grind
/-- the first state -/
def first (u : Fp) : St := ⟨1, 0, u, 1⟩

end Go.Proofs.YtclpbaokadfhhaaGreatDoor.Wk

namespace Go.Proofs.YtclpbaokadfhhaaGreatDoor.Wk

def u0 : Nat := 0
def L0 : List Q4 := [(1, 0, 0, 1), (1, 0, 0, 0), (0, 0, 1, 0), (0, 0, 0, 0)]
theorem shut0 : shut u0 L0 = true := by decide +kernel
theorem ends0 : ends u0 L0 = true := by decide +kernel
theorem begins0 : Like (1, 0, 0, 1) (first (Gf.ofN u0)) := by
  have h : Like (1, 0, u0, 1) (first (Gf.ofN u0)) := ⟨1, 1, (by show (1 : Gf.Fp) = 1 * Gf.ofN 1; rw [Gf.ofN_one]; grind), (by show (0 : Gf.Fp) = 1 * Gf.ofN 0; rw [Gf.ofN_zero]; grind), (by show Gf.ofN u0 = 1 * Gf.ofN u0; generalize Gf.ofN u0 = x; grind), (by show (1 : Gf.Fp) = 1 * Gf.ofN 1; rw [Gf.ofN_one]; grind)⟩
  exact h.of (by decide +kernel)
theorem end0 (bits : List Bool) : (run (Gf.ofN u0) (first (Gf.ofN u0)) (bits ++ [false, false, false])).b = 0 :=
  run_ends u0 L0 shut0 ends0 bits _ ⟨_, List.mem_of_getElem? (i := 0) rfl, begins0⟩
end Go.Proofs.YtclpbaokadfhhaaGreatDoor.Wk

namespace Go.Proofs.YtclpbaokadfhhaaGreatDoor
open Go.RowKit
open Gf (Fp ofN)
open Ff (fe Small)

/-- the ladder's numbers as elements -/
def Lad.st (s : Lad) : Wk.St := ⟨fe s.a, fe s.b, fe s.c, fe s.d⟩
def Lad.small (s : Lad) : Prop := Small s.a ∧ Small s.b ∧ Small s.c ∧ Small s.d
theorem kurve_small : Small Ff.kurve := ⟨rfl, by decide +kernel⟩
theorem kurve_fe : fe Ff.kurve = ofN 121665 := rfl
theorem step_fe {V : List (BitVec 64)} {s : Lad} (hV : Small V) (h : s.small) : (s.step V).small ∧ (s.step V).st = s.st.step (fe V) := by
  obtain ⟨A, B, C, D⟩ := s
  obtain ⟨hA, hB, hC, hD⟩ := h
  dsimp only at hA hB hC hD
  have e := Ff.plus_fe hA hB
  have f := Ff.minus_fe hA hB
  have g := Ff.plus_fe hC hD
  have i := Ff.minus_fe hC hD
  have he := Ff.times_fe i.1 e.1
  have gf := Ff.times_fe g.1 f.1
  have ee := Ff.times_fe e.1 e.1
  have ff := Ff.times_fe f.1 f.1
  have ap := Ff.minus_fe ee.1 ff.1
  have ra := Ff.times_fe ee.1 ff.1
  have x1 := Ff.times_fe ap.1 kurve_small
  have x2 := Ff.plus_fe ee.1 x1.1
  have rb := Ff.times_fe ap.1 x2.1
  have x3 := Ff.plus_fe he.1 gf.1
  have rc := Ff.times_fe x3.1 x3.1
  have x4 := Ff.minus_fe he.1 gf.1
  have x5 := Ff.times_fe x4.1 x4.1
  have rd := Ff.times_fe hV x5.1
  have sa : Small (Ff.stepA A B) ∧ fe (Ff.stepA A B) = Wk.fA (fe A) (fe B) := by
    unfold Ff.stepA Wk.fA
    refine ⟨ra.1, ?_⟩
    rw [ra.2, ee.2, ff.2, e.2, f.2]
  have sb : Small (Ff.stepB A B) ∧ fe (Ff.stepB A B) = Wk.fB (fe A) (fe B) := by
    unfold Ff.stepB Ff.apart Wk.fB
    refine ⟨rb.1, ?_⟩
    rw [rb.2, x2.2, x1.2, ap.2, ee.2, ff.2, e.2, f.2, kurve_fe]
  have sc : Small (Ff.stepC A B C D) ∧ fe (Ff.stepC A B C D) = Wk.fC (fe A) (fe B) (fe C) (fe D) := by
    unfold Ff.stepC Ff.he Ff.gf Wk.fC
    refine ⟨rc.1, ?_⟩
    rw [rc.2, x3.2, he.2, gf.2, e.2, f.2, g.2, i.2]
  have sd : Small (Ff.stepD A B C D V) ∧ fe (Ff.stepD A B C D V) = Wk.fD (fe V) (fe A) (fe B) (fe C) (fe D) := by
    unfold Ff.stepD Ff.he Ff.gf Wk.fD
    refine ⟨rd.1, ?_⟩
    rw [rd.2, x5.2, x4.2, he.2, gf.2, e.2, f.2, g.2, i.2]
  have hst : (Lad.mk A B C D).step V = ⟨Ff.stepA A B, Ff.stepB A B, Ff.stepC A B C D, Ff.stepD A B C D V⟩ := rfl
  rw [hst]
  generalize Ff.stepA A B = ZA at sa
  generalize Ff.stepB A B = ZB at sb
  generalize Ff.stepC A B C D = ZC at sc
  generalize Ff.stepD A B C D V = ZD at sd
  refine ⟨⟨sa.1, sb.1, sc.1, sd.1⟩, ?_⟩
  show (⟨fe ZA, fe ZB, fe ZC, fe ZD⟩ : Wk.St) = ⟨Wk.fA (fe A) (fe B), Wk.fB (fe A) (fe B), Wk.fC (fe A) (fe B) (fe C) (fe D), Wk.fD (fe V) (fe A) (fe B) (fe C) (fe D)⟩
  rw [sa.2, sb.2, sc.2, sd.2]
theorem bitW_two (x : UInt8) (r : Nat) : bitW x r = if (x.toNat / 2 ^ r % 2 == 1) then 1 else 0 := by
  unfold bitW
  have h : x.toNat / 2 ^ r % 2 = 0 ∨ x.toNat / 2 ^ r % 2 = 1 := by omega
  rcases h with h | h <;> rw [h] <;> rfl
theorem swap_fe {s : Lad} (h : s.small) (t : Bool) : (s.swap (if t then 1 else 0)).small ∧ (s.swap (if t then 1 else 0)).st = s.st.swap t := by
  obtain ⟨A, B, C, D⟩ := s
  obtain ⟨hA, hB, hC, hD⟩ := h
  dsimp only at hA hB hC hD
  cases t with
  | false =>
    unfold Lad.swap
    simp only [Bool.false_eq_true, if_false, Ff.swap_zero A C hA.1 hC.1, Ff.swap_zero B D hB.1 hD.1]
    exact ⟨⟨hA, hB, hC, hD⟩, rfl⟩
  | true =>
    unfold Lad.swap
    simp only [if_true, Ff.swap_one A C hA.1 hC.1, Ff.swap_one B D hB.1 hD.1]
    exact ⟨⟨hC, hD, hA, hB⟩, rfl⟩
/-- the bits of a key, n of them from 254 down -/
def keyBit (key : List UInt8) (at0 : Nat) : Bool := (key.getD (at0 / 8) 0).toNat / 2 ^ (at0 % 8) % 2 == 1
def keyBits (key : List UInt8) : Nat → List Bool
  | 0 => []
  | n + 1 => keyBits key n ++ [keyBit key (254 - n)]
theorem one_small : Small [1, 0, 0, 0, 0] := ⟨rfl, by decide +kernel⟩
theorem zero_small : Small [0, 0, 0, 0, 0] := ⟨rfl, by decide +kernel⟩
theorem first_small {V : List (BitVec 64)} (hV : Small V) : (Lad.first V).small := ⟨one_small, zero_small, hV, one_small⟩
theorem to_fe (key : List UInt8) {V : List (BitVec 64)} (hV : Small V) : ∀ n, (Lad.to key V n).small ∧ (Lad.to key V n).st = Wk.run (fe V) (Wk.first (fe V)) (keyBits key n)
  | 0 => ⟨first_small hV, rfl⟩
  | n + 1 => by
    obtain ⟨h1, h2⟩ := to_fe key hV n
    have hb : bitW (key.getD ((254 - n) / 8) 0) ((254 - n) % 8) = if keyBit key (254 - n) then 1 else 0 := bitW_two _ _
    rw [Lad.to, keyBits, hb]
    generalize keyBit key (254 - n) = t
    obtain ⟨s1, e1⟩ := swap_fe h1 t
    obtain ⟨s2, e2⟩ := step_fe hV s1
    obtain ⟨s3, e3⟩ := swap_fe s2 t
    refine ⟨s3, ?_⟩
    rw [e3, e2, e1, h2, Wk.run_append]
    rfl
/-- a key's three lowest bits are 0 -/
theorem low_bits (secret : List UInt8) (h : secret.length = 32) : keyBits (changed secret) 255 = keyBits (changed secret) 252 ++ [false, false, false] := by
  have h0 : (changed secret).getD 0 0 = secret.getD 0 0 &&& 248 := by
    unfold changed
    have hl : 0 < secret.length := by omega
    simp [List.getD, hl]
  have hb : ∀ x : UInt8, ((x &&& 248).toNat / 2 ^ 2 % 2 == 1) = false ∧ ((x &&& 248).toNat / 2 ^ 1 % 2 == 1) = false ∧ ((x &&& 248).toNat / 2 ^ 0 % 2 == 1) = false := by
    have : ∀ i : Fin 256, ((i.val.toUInt8 &&& 248).toNat / 2 ^ 2 % 2 == 1) = false ∧ ((i.val.toUInt8 &&& 248).toNat / 2 ^ 1 % 2 == 1) = false ∧ ((i.val.toUInt8 &&& 248).toNat / 2 ^ 0 % 2 == 1) = false := by decide +kernel
    intro x
    have := this ⟨x.toNat, x.toNat_lt⟩
    simpa using this
  obtain ⟨b2, b1, b0⟩ := hb (secret.getD 0 0)
  have k2 : keyBit (changed secret) (254 - 252) = false := by
    show (((changed secret).getD 0 0).toNat / 2 ^ 2 % 2 == 1) = false
    rw [h0]; exact b2
  have k1 : keyBit (changed secret) (254 - 253) = false := by
    show (((changed secret).getD 0 0).toNat / 2 ^ 1 % 2 == 1) = false
    rw [h0]; exact b1
  have k0 : keyBit (changed secret) (254 - 254) = false := by
    show (((changed secret).getD 0 0).toNat / 2 ^ 0 % 2 == 1) = false
    rw [h0]; exact b0
  show ((keyBits (changed secret) 252 ++ [keyBit (changed secret) (254 - 252)]) ++ [keyBit (changed secret) (254 - 253)]) ++ [keyBit (changed secret) (254 - 254)] = _
  rw [k2, k1, k0]; simp
theorem of_small (l : List UInt8) : Small (Ff.of l) := by
  refine ⟨rfl, ?_⟩
  have h : ∀ x : BitVec 64, (x &&& Ff.M51).toNat < 4503599627370496 := by
    intro x
    rw [Ff.and51]; omega
  intro k hk
  match k, hk with
  | 0, _ => exact h _
  | 1, _ => exact h _
  | 2, _ => exact h _
  | 3, _ => exact h _
  | 4, _ => exact h _
end Go.Proofs.YtclpbaokadfhhaaGreatDoor
