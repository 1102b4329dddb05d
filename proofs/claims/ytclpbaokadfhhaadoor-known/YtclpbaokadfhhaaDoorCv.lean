/- Points as three numbers each (package curve): sums, multiples, and roots. No program in it. -/
import Derived.Test.YtclpbaokadfhhaaDoorFv
import Derived.Test.YtclpbaokadfhhaaDoorSc
namespace Go.Proofs.YtclpbaokadfhhaaDoor
namespace Ff
open Gf (Fp ofN)
def zero5 : List W := [0, 0, 0, 0, 0]
def one5 : List W := [1, 0, 0, 0, 0]
/-- the even root of -1 -/
def im : List W := [1718705420411056, 234908883556509, 2233514472574048, 2117202627021982, 765476049583133]
/-- D -/
def factor : List W := [929955233495203, 466365720129213, 1662059464998953, 2033849074728123, 1442794654840575]
theorem zero5_small : Small zero5 := ⟨rfl, by decide +kernel⟩
theorem one5_small : Small one5 := ⟨rfl, by decide +kernel⟩
theorem im_small : Small im := ⟨rfl, by decide +kernel⟩
theorem factor_small : Small factor := ⟨rfl, by decide +kernel⟩
theorem zero5_fe : fe zero5 = 0 := by
  unfold fe; rw [show val zero5 = 0 by decide +kernel]; exact Gf.ofN_zero
theorem one5_fe : fe one5 = 1 := by
  unfold fe; rw [show val one5 = 1 by decide +kernel]; exact Gf.ofN_one
theorem im_fe : fe im = ofN Gf.I := by
  unfold fe; rw [show val im = Gf.I by decide +kernel]
theorem factor_fe : fe factor = ofN Gf.D := by
  unfold fe; rw [show val factor = Gf.D by decide +kernel]
def negated (a : List W) : List W := minus zero5 a
theorem negated_fe {a : List W} (ha : Small a) : Small (negated a) ∧ fe (negated a) = -fe a := by
  obtain ⟨h1, h2⟩ := minus_fe zero5_small ha
  refine ⟨h1, ?_⟩
  unfold negated; rw [h2, zero5_fe]
  generalize fe a = x
  grind
theorem negated_length (a : List W) : (negated a).length = 5 := minus_length _ _
/-- what a square is tried by -/
def root1 (a : List W) : List W := times (ones a 251 251) (ones a 251 251)
def root2 (a : List W) : List W := if lowest (times (root1 a) (root1 a)) = lowest a then root1 a else times (root1 a) im
def root (a : List W) : List W × Bool := if lowest (times (root2 a) (root2 a)) = lowest a then (root2 a, true) else (zero5, false)
theorem root1_length (a : List W) : (root1 a).length = 5 := by unfold root1; exact times_length _ _
theorem root2_length (a : List W) : (root2 a).length = 5 := by
  have h1 := root1_length a
  have h2 := times_length (root1 a) im
  unfold root2
  generalize times (root1 a) im = u at h2 ⊢
  generalize lowest (times (root1 a) (root1 a)) = v
  generalize lowest a = v'
  generalize root1 a = r at h1 ⊢
  by_cases h : v = v'
  · rw [if_pos h]; exact h1
  · rw [if_neg h]; exact h2
theorem root_length (a : List W) : (root a).1.length = 5 := by
  have h1 := root2_length a
  unfold root
  generalize lowest (times (root2 a) (root2 a)) = v
  generalize lowest a = v'
  generalize root2 a = r at h1 ⊢
  by_cases h : v = v'
  · rw [if_pos h]; exact h1
  · rw [if_neg h]; rfl
theorem lowest_iff {a b : List W} (ha : Small a) (hb : Small b) : lowest a = lowest b ↔ fe a = fe b :=
  ⟨fun h => Gf.toN_inj (by rw [← lowest_fe ha, ← lowest_fe hb, h]), lowest_eq ha hb⟩
theorem E1 : 7237005577332262213973186563042994240829374041602535252466099000494570602494 = 3618502788666131106986593281521497120414687020801267626233049500247285301247 + 3618502788666131106986593281521497120414687020801267626233049500247285301247 := rfl
theorem root1_fe {a : List W} (ha : Small a) : Small (root1 a) ∧ fe (root1 a) = Gf.pw (fe a) 7237005577332262213973186563042994240829374041602535252466099000494570602494 := by
  obtain ⟨e, he, he2⟩ : ∃ e, e = 3618502788666131106986593281521497120414687020801267626233049500247285301247 ∧ e + 1 = 2 ^ 251 := ⟨_, rfl, by decide⟩
  obtain ⟨s1, v1⟩ := ones_val a ha 251 251 e (by omega) (by omega) he2
  obtain ⟨s2, v2⟩ := times_fe s1 s1
  unfold root1
  refine ⟨s2, ?_⟩
  rw [v2]
  unfold fe
  rw [fe_of_cg v1, Gf.ofN_pow, ← Gf.pw_add, he]
theorem sq_sign {x : Fp} (h : x * x = 1) : x = 1 ∨ x = -1 := by
  have : (x - 1) * (x + 1) = 0 := by grind
  rcases Ed.eq_zero Gf.S this with h | h
  · left; grind
  · right; grind
theorem pw_sq (x : Fp) (n : Nat) : Gf.pw (x * x) n = Gf.pw x (n + n) := by rw [Gf.pw_mul_base, Gf.pw_add]
theorem pw_two (x : Fp) : Gf.pw x 2 = x * x := by
  show (1 : Fp) * x * x = x * x
  grind
/-- if it is a square, the first try is a root of it or of its opposite -/
theorem pow_root (x a r : Fp) (ha : a = x * x) (hr : r = Gf.pw a 7237005577332262213973186563042994240829374041602535252466099000494570602494) : r * r = a ∨ r * r = -a := by
  by_cases hx : x = 0
  · left
    have ha0 : a = 0 := by rw [ha, hx]; grind
    have hr0 : r = 0 := by
      rw [hr, ha0, show 7237005577332262213973186563042994240829374041602535252466099000494570602494 = 7237005577332262213973186563042994240829374041602535252466099000494570602493 + 1 from rfl, Gf.pw_add]
      have : Gf.pw (0 : Fp) 1 = 0 := by show (1 : Fp) * 0 = 0; grind
      rw [this]
      generalize Gf.pw (0 : Fp) 7237005577332262213973186563042994240829374041602535252466099000494570602493 = y
      grind
    rw [hr0, ha0]; grind
  · have hf := Gf.fermat hx 57896044618658097711785492504343953926634992332820282019728792003956564819948 (by unfold Pr.P; omega)
    have hs : Gf.pw x 28948022309329048855892746252171976963317496166410141009864396001978282409974 * Gf.pw x 28948022309329048855892746252171976963317496166410141009864396001978282409974 = 1 := by
      rw [← Gf.pw_add]; exact hf
    have e : r * r = Gf.pw x 28948022309329048855892746252171976963317496166410141009864396001978282409974 * a := by
      rw [hr, ha, pw_sq, ← Gf.pw_add, ← pw_two x, ← Gf.pw_add]
      try exact congrArg (Gf.pw x) (by decide +kernel)
    rcases sq_sign hs with h | h
    · left; rw [e, h]; grind
    · right; rw [e, h]; grind
theorem im_sq : ofN Gf.I * ofN Gf.I = -1 := Gf.ii
theorem root2_fe {a : List W} (ha : Small a) : Small (root2 a) ∧ (fe (root2 a) = fe (root1 a) ∨ fe (root2 a) = fe (root1 a) * ofN Gf.I) := by
  obtain ⟨s1, _⟩ := root1_fe ha
  unfold root2
  split
  · exact ⟨s1, Or.inl rfl⟩
  · obtain ⟨s2, v2⟩ := times_fe s1 im_small
    exact ⟨s2, Or.inr (by rw [v2, im_fe])⟩
/-- a square has its root found -/
theorem root_found {a : List W} (ha : Small a) {x : Fp} (hx : fe a = x * x) : (root a).2 = true ∧ Small (root a).1 ∧ fe (root a).1 * fe (root a).1 = x * x := by
  obtain ⟨s1, v1⟩ := root1_fe ha
  obtain ⟨s2, _⟩ := root2_fe ha
  have hr := pow_root x (fe a) (fe (root1 a)) hx v1
  obtain ⟨t1, u1⟩ := times_fe s1 s1
  obtain ⟨t2, u2⟩ := times_fe s2 s2
  have key : fe (root2 a) * fe (root2 a) = fe a := by
    by_cases hc : lowest (times (root1 a) (root1 a)) = lowest a
    · have e : root2 a = root1 a := by unfold root2; rw [if_pos hc]
      rw [e, ← u1]
      exact (lowest_iff t1 ha).1 hc
    · have e : root2 a = times (root1 a) im := by unfold root2; rw [if_neg hc]
      rw [e, (times_fe s1 im_small).2, im_fe]
      have hne : fe (root1 a) * fe (root1 a) ≠ fe a := fun h => hc ((lowest_iff t1 ha).2 (by rw [u1, h]))
      have hm : fe (root1 a) * fe (root1 a) = -fe a := hr.resolve_left hne
      have hi := im_sq
      generalize fe (root1 a) = r at hm
      generalize ofN Gf.I = i at hi
      generalize fe a = b at hm
      grind
  have hc : lowest (times (root2 a) (root2 a)) = lowest a := (lowest_iff t2 ha).2 (by rw [u2, key])
  have e : root a = (root2 a, true) := by unfold root; rw [if_pos hc]
  rw [e]
  rw [hx] at key
  clear e hc u2 t2 u1 t1 hr v1 s1
  generalize root2 a = r at s2 key ⊢
  exact ⟨rfl, s2, key⟩
/-- what is found is a root -/
theorem root_is {a : List W} (ha : Small a) (h : (root a).2 = true) : Small (root a).1 ∧ fe (root a).1 * fe (root a).1 = fe a := by
  obtain ⟨s2, _⟩ := root2_fe ha
  obtain ⟨t2, u2⟩ := times_fe s2 s2
  have hi := lowest_iff t2 ha
  unfold root at h ⊢
  rw [u2] at hi
  clear u2 t2
  generalize lowest (times (root2 a) (root2 a)) = v at h hi ⊢
  generalize lowest a = v' at h hi ⊢
  generalize root2 a = r at h hi s2 ⊢
  by_cases hc : v = v'
  · rw [if_pos hc]; exact ⟨s2, hi.1 hc⟩
  · rw [if_neg hc] at h; cases h
/-- the lowest bit of the number below p -/
def lowBit (a : List W) : UInt8 := (((lowest a).getD 0 0) &&& 1).toNat.toUInt8
theorem lowBit_eq {a b : List W} (ha : Small a) (hb : Small b) (h : fe a = fe b) : lowBit a = lowBit b := by
  unfold lowBit; rw [lowest_eq ha hb h]
theorem lowBit_val {a : List W} (ha : Small a) : (lowBit a).toNat = Gf.toN (fe a) % 2 := by
  rw [← lowest_fe ha]
  unfold lowBit
  have : (((lowest a).getD 0 0) &&& 1).toNat = ((lowest a).getD 0 0).toNat % 2 := by
    rw [BitVec.toNat_and, show (1 : W).toNat = 1 from rfl, Nat.and_one_is_mod]
  rw [this]
  unfold val
  simp only [Nat.toUInt8, UInt8.toNat_ofNat']
  omega
theorem toN_neg (x : Fp) (h : x ≠ 0) : Gf.toN (-x) % 2 ≠ Gf.toN x % 2 := by
  have hlt := Gf.toN_lt x
  have hp : Gf.toN x ≠ 0 := fun e => h (Gf.toN_inj (by rw [e]; rfl))
  have e : -x = ofN (Pr.P - Gf.toN x) := by
    have := Gf.ofN_sub (a := 0) (b := Gf.toN x) (c := Pr.P - Gf.toN x) (by rw [Nat.sub_add_cancel (by omega)]; simp)
    rw [this, Gf.ofN_toN, Gf.ofN_zero]; grind
  have h2 : Pr.P % 2 = 1 := by decide +kernel
  have h3 := Gf.P_pos
  rw [e, Gf.toN_ofN]
  generalize Gf.toN x = n at hlt hp ⊢
  generalize Pr.P = q at hlt h2 h3 ⊢
  have h4 : (q - n) % q = q - n := Nat.mod_eq_of_lt (by omega)
  rw [h4]
  omega
end Ff

namespace Cv
open Gf (Fp ofN)
open Ff (W fe Small zero5 one5 times)
/-- a point as x / z, y / z -/
structure Pn where
  x : List W
  y : List W
  z : List W
def row (p : Pn) : List W := p.x ++ p.y ++ p.z
def Ok (p : Pn) : Prop := p.x.length = 5 ∧ p.y.length = 5 ∧ p.z.length = 5
theorem Ok.row {p : Pn} (h : Ok p) : (row p).length = 15 := by unfold Cv.row; rw [List.length_append, List.length_append, h.1, h.2.1, h.2.2]
def base : Pn := ⟨[1738742601995546, 1146398526822698, 2070867633025821, 562264141797630, 587772402128613], [1801439850948184, 1351079888211148, 450359962737049, 900719925474099, 1801439850948198], one5⟩
def none' : Pn := ⟨zero5, zero5, zero5⟩
def start : Pn := ⟨zero5, one5, one5⟩
def xx (a b : Pn) := times a.x b.x
def yy (a b : Pn) := times a.y b.y
def across (a b : Pn) := Ff.plus (times a.x b.y) (times b.x a.y)
def zz (a b : Pn) := times a.z b.z
def whole (a b : Pn) := times (zz a b) (zz a b)
def change (a b : Pn) := times (times Ff.factor (xx a b)) (yy a b)
def more (a b : Pn) := Ff.plus (whole a b) (change a b)
def less (a b : Pn) := Ff.minus (whole a b) (change a b)
def plus (a b : Pn) : Pn := ⟨times (times (zz a b) (across a b)) (less a b), times (times (zz a b) (Ff.plus (yy a b) (xx a b))) (more a b), times (more a b) (less a b)⟩
theorem plus_x (a b : Pn) : (plus a b).x = times (times (zz a b) (across a b)) (less a b) := by unfold plus; dsimp only
theorem plus_y (a b : Pn) : (plus a b).y = times (times (zz a b) (Ff.plus (yy a b) (xx a b))) (more a b) := by unfold plus; dsimp only
theorem plus_z (a b : Pn) : (plus a b).z = times (more a b) (less a b) := by unfold plus; dsimp only
theorem plus_ok (a b : Pn) : Ok (plus a b) := by
  unfold Ok
  rw [plus_x, plus_y, plus_z, Ff.times_length, Ff.times_length, Ff.times_length]
  exact ⟨rfl, rfl, rfl⟩
def negated (a : Pn) : Pn := ⟨Ff.negated a.x, a.y, a.z⟩
def choose (bit : W) (a b : Pn) : Pn := ⟨(Ff.swap bit a.x b.x).1, (Ff.swap bit a.y b.y).1, (Ff.swap bit a.z b.z).1⟩
theorem choose_ok (bit : W) {a : Pn} (b : Pn) (ha : Ok a) : Ok (choose bit a b) := by
  refine ⟨?_, ?_, ?_⟩
  · show (Ff.swap bit a.x b.x).1.length = 5
    rw [Ff.swap, (Ff.swapTo_length _ _ _ _).1, ha.1]
  · show (Ff.swap bit a.y b.y).1.length = 5
    rw [Ff.swap, (Ff.swapTo_length _ _ _ _).1, ha.2.1]
  · show (Ff.swap bit a.z b.z).1.length = 5
    rw [Ff.swap, (Ff.swapTo_length _ _ _ _).1, ha.2.2]
theorem choose_zero {a b : Pn} (ha : Ok a) (hb : Ok b) : choose 0 a b = a := by
  unfold choose
  rw [Ff.swap_zero _ _ ha.1 hb.1, Ff.swap_zero _ _ ha.2.1 hb.2.1, Ff.swap_zero _ _ ha.2.2 hb.2.2]
theorem choose_one {a b : Pn} (ha : Ok a) (hb : Ok b) : choose 1 a b = b := by
  unfold choose
  rw [Ff.swap_one _ _ ha.1 hb.1, Ff.swap_one _ _ ha.2.1 hb.2.1, Ff.swap_one _ _ ha.2.2 hb.2.2]
def timesTo (a : Pn) (n : List W) : Nat → Pn
  | 0 => start
  | k + 1 => choose (Sc.bit n (252 - k)) (plus (timesTo a n k) (timesTo a n k)) (plus (plus (timesTo a n k) (timesTo a n k)) a)
theorem timesTo_ok (a : Pn) (n : List W) (k : Nat) : Ok (timesTo a n k) := by
  cases k with
  | zero => exact ⟨rfl, rfl, rfl⟩
  | succ k => exact choose_ok _ _ (plus_ok _ _)
def timesN (a : Pn) (n : List W) : Pn := timesTo a n 253
theorem timesN_ok (a : Pn) (n : List W) : Ok (timesN a n) := timesTo_ok a n 253

/-- three small numbers that stand for a point of the curve -/
def Is (a : Pn) (p : Gf.Pt) : Prop := Small a.x ∧ Small a.y ∧ Small a.z ∧ Ed.Rep Gf.S (fe a.x) (fe a.y) (fe a.z) p
theorem Is.ok {a : Pn} {p : Gf.Pt} (h : Is a p) : Ok a := ⟨h.1.1, h.2.1.1, h.2.2.1.1⟩
theorem S_d : Gf.S.d = ofN Gf.D := rfl
theorem Is.plus {a b : Pn} {p q : Gf.Pt} (ha : Is a p) (hb : Is b q) : Is (plus a b) (Ed.add Gf.S p q) := by
  obtain ⟨a1, a2, a3, ra⟩ := ha
  obtain ⟨b1, b2, b3, rb⟩ := hb
  obtain ⟨sxx, vxx⟩ := Ff.times_fe a1 b1
  obtain ⟨syy, vyy⟩ := Ff.times_fe a2 b2
  obtain ⟨s1, v1⟩ := Ff.times_fe a1 b2
  obtain ⟨s2, v2⟩ := Ff.times_fe b1 a2
  obtain ⟨sac, vac⟩ := Ff.plus_fe s1 s2
  obtain ⟨sz, vz⟩ := Ff.times_fe a3 b3
  obtain ⟨sw, vw⟩ := Ff.times_fe sz sz
  obtain ⟨s3, v3⟩ := Ff.times_fe Ff.factor_small sxx
  obtain ⟨sc, vc⟩ := Ff.times_fe s3 syy
  obtain ⟨sm, vm⟩ := Ff.plus_fe sw sc
  obtain ⟨sl, vl⟩ := Ff.minus_fe sw sc
  obtain ⟨s4, v4⟩ := Ff.times_fe sz sac
  obtain ⟨s5, v5⟩ := Ff.times_fe s4 sl
  obtain ⟨s6, v6⟩ := Ff.plus_fe syy sxx
  obtain ⟨s7, v7⟩ := Ff.times_fe sz s6
  obtain ⟨s8, v8⟩ := Ff.times_fe s7 sm
  obtain ⟨s9, v9⟩ := Ff.times_fe sm sl
  have h := Ed.Rep.add Gf.S ra rb _ _ _ _ _ rfl rfl rfl rfl rfl
  have e1 : fe (Cv.plus a b).x = fe a.z * fe b.z * (fe a.x * fe b.y + fe b.x * fe a.y) * (fe a.z * fe b.z * (fe a.z * fe b.z) - Gf.S.d * (fe a.x * fe b.x) * (fe a.y * fe b.y)) := by
    rw [plus_x]; unfold zz across less whole change zz xx yy
    rw [v5, v4, vz, vac, v1, v2, vl, vw, vz, vc, v3, vxx, vyy, Ff.factor_fe, S_d]
  have e2 : fe (Cv.plus a b).y = fe a.z * fe b.z * (fe a.y * fe b.y + fe a.x * fe b.x) * (fe a.z * fe b.z * (fe a.z * fe b.z) + Gf.S.d * (fe a.x * fe b.x) * (fe a.y * fe b.y)) := by
    rw [plus_y]; unfold zz more whole change zz xx yy
    rw [v8, v7, vz, v6, vyy, vxx, vm, vw, vz, vc, v3, vxx, vyy, Ff.factor_fe, S_d]
  have e3 : fe (Cv.plus a b).z = (fe a.z * fe b.z * (fe a.z * fe b.z) + Gf.S.d * (fe a.x * fe b.x) * (fe a.y * fe b.y)) * (fe a.z * fe b.z * (fe a.z * fe b.z) - Gf.S.d * (fe a.x * fe b.x) * (fe a.y * fe b.y)) := by
    rw [plus_z]; unfold more less whole change zz xx yy
    rw [v9, vm, vl, vw, vz, vc, v3, vxx, vyy, Ff.factor_fe, S_d]
  have t1 : Small (Cv.plus a b).x := by rw [plus_x]; unfold zz across less whole change zz xx yy; exact s5
  have t2 : Small (Cv.plus a b).y := by rw [plus_y]; unfold zz more whole change zz xx yy; exact s8
  have t3 : Small (Cv.plus a b).z := by rw [plus_z]; unfold more less whole change zz xx yy; exact s9
  unfold Is
  rw [e1, e2, e3]
  exact ⟨t1, t2, t3, h⟩
theorem Is.start : Is start (Ed.zero Gf.S) := by
  refine ⟨Ff.zero5_small, Ff.one5_small, Ff.one5_small, ?_⟩
  show Ed.Rep Gf.S (fe zero5) (fe one5) (fe one5) _
  rw [Ff.zero5_fe, Ff.one5_fe]
  exact Ed.Rep.zero Gf.S
theorem Is.neg {a : Pn} {p : Gf.Pt} (h : Is a p) : Is (negated a) (Ed.neg Gf.S p) := by
  obtain ⟨a1, a2, a3, ra⟩ := h
  obtain ⟨s, v⟩ := Ff.negated_fe a1
  unfold Is
  rw [show (negated a).x = Ff.negated a.x by unfold negated; dsimp only, show (negated a).y = a.y by unfold negated; dsimp only, show (negated a).z = a.z by unfold negated; dsimp only, v]
  exact ⟨s, a2, a3, Ed.Rep.neg Gf.S ra⟩
theorem base_is : Is base Gf.B := by
  refine ⟨⟨rfl, by decide +kernel⟩, ⟨rfl, by decide +kernel⟩, Ff.one5_small, ?_⟩
  have e1 : fe base.x = ofN Gf.Bx := by unfold fe; rw [show Ff.val base.x = Gf.Bx by decide +kernel]
  have e2 : fe base.y = ofN Gf.By := by unfold fe; rw [show Ff.val base.y = Gf.By by decide +kernel]
  have e3 : fe base.z = 1 := Ff.one5_fe
  rw [e1, e2, e3]
  exact Ed.Rep.of Gf.S Gf.B
theorem Is.timesTo {a : Pn} {p : Gf.Pt} (h : Is a p) (n : List W) (hn : n.length = 4) (hv : Sc.val n < 2 ^ 253) : ∀ k, k ≤ 253 → Is (timesTo a n k) (Ed.mul Gf.S (Sc.val n / 2 ^ (253 - k)) p)
  | 0, _ => by
    rw [Nat.sub_zero, Nat.div_eq_of_lt hv]
    exact Is.start
  | k + 1, hk => by
    have ih := Is.timesTo h n hn hv k (by omega)
    have h2 := Is.plus ih ih
    rw [Ed.mul_twice] at h2
    have h3 := Is.plus h2 h
    rw [Ed.mul_succ] at h3
    have hb := Sc.bit_val n hn (252 - k) (by omega)
    have hu := Sc.upper (Sc.val n) 253 k (by omega)
    rw [show 253 - (k + 1) = 252 - k by omega] at hu ⊢
    rw [Cv.timesTo]
    rcases Sc.bit01 _ (Sc.bit_le n (252 - k)) with e | e
    · rw [e, show (0 : W).toNat = 0 from rfl] at hb
      rw [e, choose_zero h2.ok h3.ok, hu, ← hb, show ∀ x : Nat, x + x + 0 = 2 * x by omega]
      exact h2
    · rw [e, show (1 : W).toNat = 1 from rfl] at hb
      rw [e, choose_one h2.ok h3.ok, hu, ← hb, show ∀ x : Nat, x + x + 1 = 2 * x + 1 by omega]
      exact h3
theorem Is.times {a : Pn} {p : Gf.Pt} (h : Is a p) {n : List W} (hn : Sc.Fine n) : Is (timesN a n) (Ed.mul Gf.S (Sc.val n) p) := by
  have hQ : Sc.Q = 7237005577332262213973186563042994240857116359379907606001950938285454250989 := rfl
  have h2 := hn.2
  have := h.timesTo n hn.1 (by omega) 253 (by omega)
  rw [Nat.sub_self, Nat.pow_zero, Nat.div_one] at this
  exact this
/-- multiples of B go by their rest modulo Q -/
theorem Q_same : Gf.Q = Sc.Q := rfl
theorem mul_mod (n : Nat) : Ed.mul Gf.S (n % Sc.Q) Gf.B = Ed.mul Gf.S n Gf.B := Ed.mul_mod Gf.S Gf.QB n
end Cv
end Go.Proofs.YtclpbaokadfhhaaDoor
