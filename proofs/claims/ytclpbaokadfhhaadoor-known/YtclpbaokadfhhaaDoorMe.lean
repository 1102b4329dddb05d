/- Several texts as one: Wk, Wk5. -/
import Derived.Test.YtclpbaokadfhhaaDoorMa
namespace Go.Proofs.YtclpbaokadfhhaaDoor.Wk
open Gf (Fp ofN)

/-- one step of the ladder, over the field -/
def fA (a b : Fp) : Fp := ((a + b) * (a + b)) * ((a - b) * (a - b))
def fB (a b : Fp) : Fp := ((a + b) * (a + b) - (a - b) * (a - b)) * ((a + b) * (a + b) + ((a + b) * (a + b) - (a - b) * (a - b)) * ofN 121665)
def fC (a b c d : Fp) : Fp := ((c - d) * (a + b) + (c + d) * (a - b)) * ((c - d) * (a + b) + (c + d) * (a - b))
def fD (u a b c d : Fp) : Fp := u * (((c - d) * (a + b) - (c + d) * (a - b)) * ((c - d) * (a + b) - (c + d) * (a - b)))
/-- a state, and a step by a bit -/
structure St where
  a : Fp
  b : Fp
  c : Fp
  d : Fp
def St.swap (s : St) (t : Bool) : St := if t then ⟨s.c, s.d, s.a, s.b⟩ else s
def St.step (u : Fp) (s : St) : St := ⟨fA s.a s.b, fB s.a s.b, fC s.a s.b s.c s.d, fD u s.a s.b s.c s.d⟩
def St.by (u : Fp) (s : St) (t : Bool) : St := ((s.swap t).step u).swap t

/-- the same as closed numbers -/
abbrev Q4 := Nat × Nat × Nat × Nat
def sub (x y : Nat) : Nat := x + (Pr.P - y % Pr.P)
theorem sub_eq (x y : Nat) : ofN (sub x y) = ofN x - ofN y := by
  apply Gf.ofN_sub
  have hlt := Nat.mod_lt y Gf.P_pos
  unfold sub
  have e : x + (Pr.P - y % Pr.P) + y = x + (Pr.P - y % Pr.P + y % Pr.P) + Pr.P * (y / Pr.P) := by
    have := Nat.div_add_mod y Pr.P
    omega
  rw [e, Nat.sub_add_cancel (Nat.le_of_lt hlt), Nat.add_mul_mod_self_left, Nat.add_mod_right]
def stepN (u : Nat) (s : Q4) : Q4 :=
  let (a, b, c, d) := s
  let e := a + b
  let f := sub a b
  let g := c + d
  let h := sub c d
  let ee := e * e
  let ff := f * f
  let ap := sub ee ff
  let x := h * e + g * f
  let y := sub (h * e) (g * f)
  (ee * ff % Pr.P, ap * (ee + ap * 121665) % Pr.P, x * x % Pr.P, u * (y * y) % Pr.P)
def swapN (s : Q4) (t : Bool) : Q4 := if t then (s.2.2.1, s.2.2.2, s.1, s.2.1) else s
def byN (u : Nat) (s : Q4) (t : Bool) : Q4 := swapN (stepN u (swapN s t)) t
/-- (x, y) is a multiple of (z, v), z being 1, or z 0 and v 1, or both 0 -/
def mult (x y z v : Nat) : Bool :=
  (decide (z = 1) && decide (y % Pr.P = x * v % Pr.P)) || (decide (z = 0) && decide (v = 1) && decide (x % Pr.P = 0)) || (decide (z = 0) && decide (v = 0) && decide (x % Pr.P = 0) && decide (y % Pr.P = 0))
def mult4 (r t : Q4) : Bool := mult r.1 r.2.1 t.1 t.2.1 && mult r.2.2.1 r.2.2.2 t.2.2.1 t.2.2.2
/-- the states L are closed under steps -/
def shut (u : Nat) (L : List Q4) : Bool := L.all fun s => [false, true].all fun t => L.any fun r => mult4 (byN u s t) r
/-- three steps by 0 end at b = 0 -/
def ends (u : Nat) (L : List Q4) : Bool := L.all fun s => L.any fun r => mult4 (byN u s false) r && L.any fun r2 => mult4 (byN u r false) r2 && L.any fun r3 => mult4 (byN u r2 false) r3 && decide (r3.2.1 = 0)

/-- the state s is, up to factors, the closed one -/
def Like (q : Q4) (s : St) : Prop := ∃ l m : Fp, s.a = l * ofN q.1 ∧ s.b = l * ofN q.2.1 ∧ s.c = m * ofN q.2.2.1 ∧ s.d = m * ofN q.2.2.2
theorem Like.swap {q : Q4} {s : St} (h : Like q s) (t : Bool) : Like (swapN q t) (s.swap t) := by
  obtain ⟨l, m, h1, h2, h3, h4⟩ := h
  cases t with
  | false => exact ⟨l, m, h1, h2, h3, h4⟩
  | true => exact ⟨m, l, h3, h4, h1, h2⟩
theorem Like.step {q : Q4} {s : St} (u : Nat) (h : Like q s) : Like (stepN u q) (s.step (ofN u)) := by
  obtain ⟨l, m, h1, h2, h3, h4⟩ := h
  obtain ⟨a, b, c, d⟩ := q
  obtain ⟨sa, sb, sc, sd⟩ := s
  simp only at h1 h2 h3 h4
  subst h1 h2 h3 h4
  refine ⟨l * l * l * l, l * m * (l * m), ?_, ?_, ?_, ?_⟩
  · show fA _ _ = _ * ofN ((a + b) * (a + b) * (sub a b * sub a b) % Pr.P)
    simp only [Gf.ofN_mod, Gf.ofN_mul, Gf.ofN_add, sub_eq, fA]
    generalize ofN a = x
    generalize ofN b = y
    grind
  · show fB _ _ = _ * ofN (sub ((a + b) * (a + b)) (sub a b * sub a b) * ((a + b) * (a + b) + sub ((a + b) * (a + b)) (sub a b * sub a b) * 121665) % Pr.P)
    simp only [Gf.ofN_mod, Gf.ofN_mul, Gf.ofN_add, sub_eq, fB]
    generalize ofN a = x
    generalize ofN b = y
    generalize ofN 121665 = k
    grind
  · show fC _ _ _ _ = _ * ofN ((sub c d * (a + b) + (c + d) * sub a b) * (sub c d * (a + b) + (c + d) * sub a b) % Pr.P)
    simp only [Gf.ofN_mod, Gf.ofN_mul, Gf.ofN_add, sub_eq, fC]
    generalize ofN a = x
    generalize ofN b = y
    generalize ofN c = z
    generalize ofN d = v
    grind
  · show fD _ _ _ _ _ = _ * ofN (u * (sub (sub c d * (a + b)) ((c + d) * sub a b) * sub (sub c d * (a + b)) ((c + d) * sub a b)) % Pr.P)
    simp only [Gf.ofN_mod, Gf.ofN_mul, Gf.ofN_add, sub_eq, fD]
    generalize ofN a = x
    generalize ofN b = y
    generalize ofN c = z
    generalize ofN d = v
    generalize ofN u = t
    grind
theorem Like.by {q : Q4} {s : St} (u : Nat) (h : Like q s) (t : Bool) : Like (byN u q t) (s.by (ofN u) t) := ((h.swap t).step u).swap t
theorem mult_of {x y z v : Nat} (h : mult x y z v = true) : ∃ k : Fp, ofN x = k * ofN z ∧ ofN y = k * ofN v := by
  simp only [mult, Bool.or_eq_true, Bool.and_eq_true, decide_eq_true_eq] at h
  rcases h with (⟨rfl, h⟩ | ⟨⟨rfl, rfl⟩, h⟩) | ⟨⟨⟨rfl, rfl⟩, h⟩, h2⟩
  · refine ⟨ofN x, ?_, ?_⟩
    · rw [Gf.ofN_one]; generalize ofN x = k; grind
    · rw [← Gf.ofN_mul]; exact Gf.ofN_eq.2 h
  · refine ⟨ofN y, ?_, ?_⟩
    · rw [Gf.ofN_zero]
      have : ofN x = 0 := by rw [← Gf.ofN_zero, Gf.ofN_eq, h, Nat.zero_mod]
      rw [this]; generalize ofN y = k; grind
    · rw [Gf.ofN_one]; generalize ofN y = k; grind
  · refine ⟨0, ?_, ?_⟩
    · have : ofN x = 0 := by rw [← Gf.ofN_zero, Gf.ofN_eq, h, Nat.zero_mod]
      rw [this, Gf.ofN_zero]; grind
    · have : ofN y = 0 := by rw [← Gf.ofN_zero, Gf.ofN_eq, h2, Nat.zero_mod]
      rw [this, Gf.ofN_zero]; grind
theorem Like.of {r t : Q4} {s : St} (h : Like r s) (hm : mult4 r t = true) : Like t s := by
  simp only [mult4, Bool.and_eq_true] at hm
  obtain ⟨k1, e1, e2⟩ := mult_of hm.1
  obtain ⟨k2, e3, e4⟩ := mult_of hm.2
  obtain ⟨l, m, h1, h2, h3, h4⟩ := h
  rw [e1] at h1; rw [e2] at h2; rw [e3] at h3; rw [e4] at h4
  refine ⟨l * k1, m * k2, ?_, ?_, ?_, ?_⟩
  · rw [h1]; generalize ofN t.1 = x; grind
  · rw [h2]; generalize ofN t.2.1 = x; grind
  · rw [h3]; generalize ofN t.2.2.1 = x; grind
  · rw [h4]; generalize ofN t.2.2.2 = x; grind

/-- many steps -/
def run (u : Fp) (s : St) : List Bool → St
  | [] => s
  | t :: r => run u (s.by u t) r
theorem run_append (u : Fp) : ∀ (x y : List Bool) (s : St), run u s (x ++ y) = run u (run u s x) y
  | [], y, s => rfl
  | t :: r, y, s => by simp only [List.cons_append, run]; exact run_append u r y _
theorem run_like (u : Nat) (L : List Q4) (hs : shut u L = true) : ∀ (bits : List Bool) (s : St), (∃ q ∈ L, Like q s) → ∃ q ∈ L, Like q (run (ofN u) s bits)
  | [], s, h => h
  | t :: r, s, ⟨q, hq, hl⟩ => by
    refine run_like u L hs r _ ?_
    have h1 := List.all_eq_true.1 hs q hq
    have h2 := List.all_eq_true.1 h1 t (by cases t <;> simp)
    obtain ⟨q2, hq2, hm⟩ := List.any_eq_true.1 h2
    exact ⟨q2, hq2, (hl.by u t).of hm⟩
theorem run_ends (u : Nat) (L : List Q4) (hs : shut u L = true) (he : ends u L = true) (bits : List Bool) (s : St) (h : ∃ q ∈ L, Like q s) : (run (ofN u) s (bits ++ [false, false, false])).b = 0 := by
  rw [run_append]
  obtain ⟨q, hq, hl⟩ := run_like u L hs bits s h
  have h1 := List.all_eq_true.1 he q hq
  obtain ⟨r, hr, h2⟩ := List.any_eq_true.1 h1
  simp only [Bool.and_eq_true] at h2
  obtain ⟨h2, h3⟩ := h2
  obtain ⟨r2, hr2, h4⟩ := List.any_eq_true.1 h3
  simp only [Bool.and_eq_true] at h4
  obtain ⟨h4, h5⟩ := h4
  obtain ⟨r3, hr3, h6⟩ := List.any_eq_true.1 h5
  simp only [Bool.and_eq_true, decide_eq_true_eq] at h6
  obtain ⟨h6, h7⟩ := h6
  have k := ((((hl.by u false).of h2).by u false).of h4).by u false |>.of h6
  obtain ⟨l, m, _, e, _, _⟩ := k
  show (St.by (ofN u) (St.by (ofN u) (St.by (ofN u) (run (ofN u) s bits) false) false) false).b = 0
  rw [e, h7, Gf.ofN_zero]
  grind
/-- the first state -/
def first (u : Fp) : St := ⟨1, 0, u, 1⟩

end Go.Proofs.YtclpbaokadfhhaaDoor.Wk

namespace Go.Proofs.YtclpbaokadfhhaaDoor.Wk

def u0 : Nat := 0
def L0 : List Q4 := [(1, 0, 0, 1), (1, 0, 0, 0), (0, 0, 1, 0), (0, 0, 0, 0)]
theorem shut0 : shut u0 L0 = true := by decide +kernel
theorem ends0 : ends u0 L0 = true := by decide +kernel
theorem begins0 : Like (1, 0, 0, 1) (first (Gf.ofN u0)) := by
  have h : Like (1, 0, u0, 1) (first (Gf.ofN u0)) := ⟨1, 1, (by show (1 : Gf.Fp) = 1 * Gf.ofN 1; rw [Gf.ofN_one]; grind), (by show (0 : Gf.Fp) = 1 * Gf.ofN 0; rw [Gf.ofN_zero]; grind), (by show Gf.ofN u0 = 1 * Gf.ofN u0; generalize Gf.ofN u0 = x; grind), (by show (1 : Gf.Fp) = 1 * Gf.ofN 1; rw [Gf.ofN_one]; grind)⟩
  exact h.of (by decide +kernel)
theorem end0 (bits : List Bool) : (run (Gf.ofN u0) (first (Gf.ofN u0)) (bits ++ [false, false, false])).b = 0 :=
  run_ends u0 L0 shut0 ends0 bits _ ⟨_, List.mem_of_getElem? (i := 0) rfl, begins0⟩
def u1 : Nat := 1
def L1 : List Q4 := [(1, 0, 1, 1), (1, 1, 0, 1), (0, 1, 1, 1), (1, 1, 1, 0)]
theorem shut1 : shut u1 L1 = true := by decide +kernel
theorem ends1 : ends u1 L1 = true := by decide +kernel
theorem begins1 : Like (1, 0, 1, 1) (first (Gf.ofN u1)) := by
  have h : Like (1, 0, u1, 1) (first (Gf.ofN u1)) := ⟨1, 1, (by show (1 : Gf.Fp) = 1 * Gf.ofN 1; rw [Gf.ofN_one]; grind), (by show (0 : Gf.Fp) = 1 * Gf.ofN 0; rw [Gf.ofN_zero]; grind), (by show Gf.ofN u1 = 1 * Gf.ofN u1; generalize Gf.ofN u1 = x; grind), (by show (1 : Gf.Fp) = 1 * Gf.ofN 1; rw [Gf.ofN_one]; grind)⟩
  exact h.of (by decide +kernel)
theorem end1 (bits : List Bool) : (run (Gf.ofN u1) (first (Gf.ofN u1)) (bits ++ [false, false, false])).b = 0 :=
  run_ends u1 L1 shut1 ends1 bits _ ⟨_, List.mem_of_getElem? (i := 0) rfl, begins1⟩
def u2 : Nat := 325606250916557431795983626356110631294008115727848805560023387167927233504
def L2 : List Q4 := [(1, 0, 1, 39382357235489614581723060781553021112529911719440698176882885853963445705823), (1, 39382357235489614581723060781553021112529911719440698176882885853963445705823, 1, 1), (1, 1, 1, 325606250916557431795983626356110631294008115727848805560023387167927233504), (1, 325606250916557431795983626356110631294008115727848805560023387167927233504, 0, 1), (0, 1, 1, 325606250916557431795983626356110631294008115727848805560023387167927233504), (1, 325606250916557431795983626356110631294008115727848805560023387167927233504, 1, 1), (1, 1, 1, 39382357235489614581723060781553021112529911719440698176882885853963445705823), (1, 39382357235489614581723060781553021112529911719440698176882885853963445705823, 1, 0)]
theorem shut2 : shut u2 L2 = true := by decide +kernel
theorem ends2 : ends u2 L2 = true := by decide +kernel
theorem begins2 : Like (1, 0, 1, 39382357235489614581723060781553021112529911719440698176882885853963445705823) (first (Gf.ofN u2)) := by
  have h : Like (1, 0, u2, 1) (first (Gf.ofN u2)) := ⟨1, 1, (by show (1 : Gf.Fp) = 1 * Gf.ofN 1; rw [Gf.ofN_one]; grind), (by show (0 : Gf.Fp) = 1 * Gf.ofN 0; rw [Gf.ofN_zero]; grind), (by show Gf.ofN u2 = 1 * Gf.ofN u2; generalize Gf.ofN u2 = x; grind), (by show (1 : Gf.Fp) = 1 * Gf.ofN 1; rw [Gf.ofN_one]; grind)⟩
  exact h.of (by decide +kernel)
theorem end2 (bits : List Bool) : (run (Gf.ofN u2) (first (Gf.ofN u2)) (bits ++ [false, false, false])).b = 0 :=
  run_ends u2 L2 shut2 ends2 bits _ ⟨_, List.mem_of_getElem? (i := 0) rfl, begins2⟩
def u3 : Nat := 39382357235489614581723060781553021112529911719440698176882885853963445705823
def L3 : List Q4 := [(1, 0, 1, 325606250916557431795983626356110631294008115727848805560023387167927233504), (1, 325606250916557431795983626356110631294008115727848805560023387167927233504, 1, 1), (1, 1, 1, 39382357235489614581723060781553021112529911719440698176882885853963445705823), (1, 39382357235489614581723060781553021112529911719440698176882885853963445705823, 0, 1), (0, 1, 1, 39382357235489614581723060781553021112529911719440698176882885853963445705823), (1, 39382357235489614581723060781553021112529911719440698176882885853963445705823, 1, 1), (1, 1, 1, 325606250916557431795983626356110631294008115727848805560023387167927233504), (1, 325606250916557431795983626356110631294008115727848805560023387167927233504, 1, 0)]
theorem shut3 : shut u3 L3 = true := by decide +kernel
theorem ends3 : ends u3 L3 = true := by decide +kernel
theorem begins3 : Like (1, 0, 1, 325606250916557431795983626356110631294008115727848805560023387167927233504) (first (Gf.ofN u3)) := by
  have h : Like (1, 0, u3, 1) (first (Gf.ofN u3)) := ⟨1, 1, (by show (1 : Gf.Fp) = 1 * Gf.ofN 1; rw [Gf.ofN_one]; grind), (by show (0 : Gf.Fp) = 1 * Gf.ofN 0; rw [Gf.ofN_zero]; grind), (by show Gf.ofN u3 = 1 * Gf.ofN u3; generalize Gf.ofN u3 = x; grind), (by show (1 : Gf.Fp) = 1 * Gf.ofN 1; rw [Gf.ofN_one]; grind)⟩
  exact h.of (by decide +kernel)
theorem end3 (bits : List Bool) : (run (Gf.ofN u3) (first (Gf.ofN u3)) (bits ++ [false, false, false])).b = 0 :=
  run_ends u3 L3 shut3 ends3 bits _ ⟨_, List.mem_of_getElem? (i := 0) rfl, begins3⟩
def u4 : Nat := 57896044618658097711785492504343953926634992332820282019728792003956564819948
def L4 : List Q4 := [(1, 0, 1, 57896044618658097711785492504343953926634992332820282019728792003956564819948), (1, 57896044618658097711785492504343953926634992332820282019728792003956564819948, 0, 1), (0, 1, 1, 57896044618658097711785492504343953926634992332820282019728792003956564819948), (1, 57896044618658097711785492504343953926634992332820282019728792003956564819948, 1, 0)]
theorem shut4 : shut u4 L4 = true := by decide +kernel
theorem ends4 : ends u4 L4 = true := by decide +kernel
theorem begins4 : Like (1, 0, 1, 57896044618658097711785492504343953926634992332820282019728792003956564819948) (first (Gf.ofN u4)) := by
  have h : Like (1, 0, u4, 1) (first (Gf.ofN u4)) := ⟨1, 1, (by show (1 : Gf.Fp) = 1 * Gf.ofN 1; rw [Gf.ofN_one]; grind), (by show (0 : Gf.Fp) = 1 * Gf.ofN 0; rw [Gf.ofN_zero]; grind), (by show Gf.ofN u4 = 1 * Gf.ofN u4; generalize Gf.ofN u4 = x; grind), (by show (1 : Gf.Fp) = 1 * Gf.ofN 1; rw [Gf.ofN_one]; grind)⟩
  exact h.of (by decide +kernel)
theorem end4 (bits : List Bool) : (run (Gf.ofN u4) (first (Gf.ofN u4)) (bits ++ [false, false, false])).b = 0 :=
  run_ends u4 L4 shut4 ends4 bits _ ⟨_, List.mem_of_getElem? (i := 0) rfl, begins4⟩

end Go.Proofs.YtclpbaokadfhhaaDoor.Wk
