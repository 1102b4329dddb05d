/- Several texts as one: Cv, Cvb, Sg. -/
import Derived.Test.YtclpbaokadfhhaaGreatDoorXs
import Derived.Test.YtclpbaokadfhhaaGreatDoorSc
import Derived.Test.YtclpbaokadfhhaaGreatDoorXm
namespace Go.Proofs.YtclpbaokadfhhaaGreatDoor
namespace Ff
open Gf (Fp ofN)
def zero5 : List W := [0, 0, 0, 0, 0]
def one5 : List W := [1, 0, 0, 0, 0]
/-- the even root of -1 -/
def im : List W := [1718705420411056, 234908883556509, 2233514472574048, 2117202627021982, 765476049583133]
/-- D -/
def factor : List W := [929955233495203, 466365720129213, 1662059464998953, 2033849074728123, 1442794654840575]
theorem zero5_small : Small zero5 := ⟨rfl, by decide +kernel⟩
theorem one5_small : Small one5 := ⟨rfl, by decide +kernel⟩
theorem im_small : Small im := ⟨rfl, by decide +kernel⟩
theorem factor_small : Small factor := ⟨rfl, by decide +kernel⟩
theorem zero5_fe : fe zero5 = 0 := by
  unfold fe; rw [show val zero5 = 0 by decide +kernel]; exact Gf.ofN_zero
theorem one5_fe : fe one5 = 1 := by
  unfold fe; rw [show val one5 = 1 by decide +kernel]; exact Gf.ofN_one
theorem im_fe : fe im = ofN Gf.I := by
  unfold fe; rw [show val im = Gf.I by decide +kernel]
theorem factor_fe : fe factor = ofN Gf.D := by
  unfold fe; rw [show val factor = Gf.D by decide +kernel]
def negated (a : List W) : List W := minus zero5 a
theorem negated_fe {a : List W} (ha : Small a) : Small (negated a) ∧ fe (negated a) = -fe a := by
  obtain ⟨h1, h2⟩ := minus_fe zero5_small ha
  refine ⟨h1, ?_⟩
  unfold negated; rw [h2, zero5_fe]
  generalize fe a = x
  grind
theorem negated_length (a : List W) : (negated a).length = 5 := minus_length _ _
/-- what a square is tried by -/
def root1 (a : List W) : List W := times (ones a 251 251) (ones a 251 251)
def root2 (a : List W) : List W := if lowest (times (root1 a) (root1 a)) = lowest a then root1 a else times (root1 a) im
def root (a : List W) : List W × Bool := if lowest (times (root2 a) (root2 a)) = lowest a then (root2 a, true) else (zero5, false)
theorem root1_length (a : List W) : (root1 a).length = 5 := by unfold root1; exact times_length _ _
theorem root2_length (a : List W) : (root2 a).length = 5 := by
  have h1 := root1_length a
  have h2 := times_length (root1 a) im
  unfold root2
  generalize times (root1 a) im = u at h2 ⊢
  generalize lowest (times (root1 a) (root1 a)) = v
  generalize lowest a = v'
  generalize root1 a = r at h1 ⊢
  by_cases h : v = v'
  · rw [if_pos h]; exact h1
  · rw [if_neg h]; exact h2
theorem root_length (a : List W) : (root a).1.length = 5 := by
  have h1 := root2_length a
  unfold root
  generalize lowest (times (root2 a) (root2 a)) = v
  generalize lowest a = v'
  generalize root2 a = r at h1 ⊢
  by_cases h : v = v'
  · rw [if_pos h]; exact h1
  · rw [if_neg h]; rfl
theorem lowest_iff {a b : List W} (ha : Small a) (hb : Small b) : lowest a = lowest b ↔ fe a = fe b :=
  ⟨fun h => Gf.toN_inj (by rw [← lowest_fe ha, ← lowest_fe hb, h]), lowest_eq ha hb⟩
theorem E1 : 7237005577332262213973186563042994240829374041602535252466099000494570602494 = 3618502788666131106986593281521497120414687020801267626233049500247285301247 + 3618502788666131106986593281521497120414687020801267626233049500247285301247 := rfl
theorem root1_fe {a : List W} (ha : Small a) : Small (root1 a) ∧ fe (root1 a) = Gf.pw (fe a) 7237005577332262213973186563042994240829374041602535252466099000494570602494 := by
  obtain ⟨e, he, he2⟩ : ∃ e, e = 3618502788666131106986593281521497120414687020801267626233049500247285301247 ∧ e + 1 = 2 ^ 251 := ⟨_, rfl, by decide⟩
  obtain ⟨s1, v1⟩ := ones_val a ha 251 251 e (by omega) (by omega) he2
  obtain ⟨s2, v2⟩ := times_fe s1 s1
  unfold root1
  refine ⟨s2, ?_⟩
  rw [v2]
  unfold fe
  rw [fe_of_cg v1, Gf.ofN_pow, ← Gf.pw_add, he]
theorem sq_sign {x : Fp} (h : x * x = 1) : x = 1 ∨ x = -1 := by
  have : (x - 1) * (x + 1) = 0 := by grind
  rcases Ed.eq_zero Gf.S this with h | h
  · left; grind
  · right; grind
theorem pw_sq (x : Fp) (n : Nat) : Gf.pw (x * x) n = Gf.pw x (n + n) := by rw [Gf.pw_mul_base, Gf.pw_add]
theorem pw_two (x : Fp) : Gf.pw x 2 = x * x := by
  show (1 : Fp) * x * x = x * x
  grind
/-- if it is a square, the first try is a root of it or of its opposite -/
theorem pow_root (x a r : Fp) (ha : a = x * x) (hr : r = Gf.pw a 7237005577332262213973186563042994240829374041602535252466099000494570602494) : r * r = a ∨ r * r = -a := by
  by_cases hx : x = 0
  · left
    have ha0 : a = 0 := by rw [ha, hx]; grind
    have hr0 : r = 0 := by
      rw [hr, ha0, show 7237005577332262213973186563042994240829374041602535252466099000494570602494 = 7237005577332262213973186563042994240829374041602535252466099000494570602493 + 1 from rfl, Gf.pw_add]
      have : Gf.pw (0 : Fp) 1 = 0 := by show (1 : Fp) * 0 = 0; grind
      rw [this]
      generalize Gf.pw (0 : Fp) 7237005577332262213973186563042994240829374041602535252466099000494570602493 = y
      grind
    rw [hr0, ha0]; grind
  · have hf := Gf.fermat hx 57896044618658097711785492504343953926634992332820282019728792003956564819948 (by unfold Pr.P; omega)
    have hs : Gf.pw x 28948022309329048855892746252171976963317496166410141009864396001978282409974 * Gf.pw x 28948022309329048855892746252171976963317496166410141009864396001978282409974 = 1 := by
      rw [← Gf.pw_add]; exact hf
    have e : r * r = Gf.pw x 28948022309329048855892746252171976963317496166410141009864396001978282409974 * a := by
      rw [hr, ha, pw_sq, ← Gf.pw_add, ← pw_two x, ← Gf.pw_add]
      try exact congrArg (Gf.pw x) (by decide +kernel)
    rcases sq_sign hs with h | h
    · left; rw [e, h]; grind
    · right; rw [e, h]; grind
theorem im_sq : ofN Gf.I * ofN Gf.I = -1 := Gf.ii
theorem root2_fe {a : List W} (ha : Small a) : Small (root2 a) ∧ (fe (root2 a) = fe (root1 a) ∨ fe (root2 a) = fe (root1 a) * ofN Gf.I) := by
  obtain ⟨s1, _⟩ := root1_fe ha
  unfold root2
  split
  · exact ⟨s1, Or.inl rfl⟩
  · obtain ⟨s2, v2⟩ := times_fe s1 im_small
    exact ⟨s2, Or.inr (by rw [v2, im_fe])⟩
/-- a square has its root found -/
theorem root_found {a : List W} (ha : Small a) {x : Fp} (hx : fe a = x * x) : (root a).2 = true ∧ Small (root a).1 ∧ fe (root a).1 * fe (root a).1 = x * x := by
  obtain ⟨s1, v1⟩ := root1_fe ha
  obtain ⟨s2, _⟩ := root2_fe ha
  have hr := pow_root x (fe a) (fe (root1 a)) hx v1
  obtain ⟨t1, u1⟩ := times_fe s1 s1
  obtain ⟨t2, u2⟩ := times_fe s2 s2
  have key : fe (root2 a) * fe (root2 a) = fe a := by
    by_cases hc : lowest (times (root1 a) (root1 a)) = lowest a
    · have e : root2 a = root1 a := by unfold root2; rw [if_pos hc]
      rw [e, ← u1]
      exact (lowest_iff t1 ha).1 hc
    · have e : root2 a = times (root1 a) im := by unfold root2; rw [if_neg hc]
      rw [e, (times_fe s1 im_small).2, im_fe]
      have hne : fe (root1 a) * fe (root1 a) ≠ fe a := fun h => hc ((lowest_iff t1 ha).2 (by rw [u1, h]))
      have hm : fe (root1 a) * fe (root1 a) = -fe a := hr.resolve_left hne
      have hi := im_sq
      generalize fe (root1 a) = r at hm
      generalize ofN Gf.I = i at hi
      generalize fe a = b at hm
      grind
  have hc : lowest (times (root2 a) (root2 a)) = lowest a := (lowest_iff t2 ha).2 (by rw [u2, key])
  have e : root a = (root2 a, true) := by unfold root; rw [if_pos hc]
  rw [e]
  rw [hx] at key
  clear e hc u2 t2 u1 t1 hr v1 s1
  generalize root2 a = r at s2 key ⊢
  exact ⟨rfl, s2, key⟩
/-- the lowest bit of the number below p -/
def lowBit (a : List W) : UInt8 := (((lowest a).getD 0 0) &&& 1).toNat.toUInt8
theorem lowBit_eq {a b : List W} (ha : Small a) (hb : Small b) (h : fe a = fe b) : lowBit a = lowBit b := by
  unfold lowBit; rw [lowest_eq ha hb h]
theorem lowBit_val {a : List W} (ha : Small a) : (lowBit a).toNat = Gf.toN (fe a) % 2 := by
  rw [← lowest_fe ha]
  unfold lowBit
  have : (((lowest a).getD 0 0) &&& 1).toNat = ((lowest a).getD 0 0).toNat % 2 := by
    rw [BitVec.toNat_and, show (1 : W).toNat = 1 from rfl, Nat.and_one_is_mod]
  rw [this]
  unfold val
  simp only [Nat.toUInt8, UInt8.toNat_ofNat']
  omega
theorem toN_neg (x : Fp) (h : x ≠ 0) : Gf.toN (-x) % 2 ≠ Gf.toN x % 2 := by
  have hlt := Gf.toN_lt x
  have hp : Gf.toN x ≠ 0 := fun e => h (Gf.toN_inj (by rw [e]; rfl))
  have e : -x = ofN (Pr.P - Gf.toN x) := by
    have := Gf.ofN_sub (a := 0) (b := Gf.toN x) (c := Pr.P - Gf.toN x) (by rw [Nat.sub_add_cancel (by omega)]; simp)
    rw [this, Gf.ofN_toN, Gf.ofN_zero]; grind
  have h2 : Pr.P % 2 = 1 := by decide +kernel
  have h3 := Gf.P_pos
  rw [e, Gf.toN_ofN]
  generalize Gf.toN x = n at hlt hp ⊢
  generalize Pr.P = q at hlt h2 h3 ⊢
  have h4 : (q - n) % q = q - n := Nat.mod_eq_of_lt (by omega)
  rw [h4]
  omega
end Ff

namespace Cv
open Gf (Fp ofN)
open Ff (W fe Small zero5 one5 times)
/-- a point as x / z, y / z -/
structure Pn where
  x : List W
  y : List W
  z : List W
def row (p : Pn) : List W := p.x ++ p.y ++ p.z
def Ok (p : Pn) : Prop := p.x.length = 5 ∧ p.y.length = 5 ∧ p.z.length = 5
theorem Ok.row {p : Pn} (h : Ok p) : (row p).length = 15 := by unfold Cv.row; rw [List.length_append, List.length_append, h.1, h.2.1, h.2.2]
def base : Pn := ⟨[1738742601995546, 1146398526822698, 2070867633025821, 562264141797630, 587772402128613], [1801439850948184, 1351079888211148, 450359962737049, 900719925474099, 1801439850948198], one5⟩
def none' : Pn := ⟨zero5, zero5, zero5⟩
def start : Pn := ⟨zero5, one5, one5⟩
def xx (a b : Pn) := times a.x b.x
def yy (a b : Pn) := times a.y b.y
def across (a b : Pn) := Ff.plus (times a.x b.y) (times b.x a.y)
def zz (a b : Pn) := times a.z b.z
def whole (a b : Pn) := times (zz a b) (zz a b)
def change (a b : Pn) := times (times Ff.factor (xx a b)) (yy a b)
def more (a b : Pn) := Ff.plus (whole a b) (change a b)
def less (a b : Pn) := Ff.minus (whole a b) (change a b)
def plus (a b : Pn) : Pn := ⟨times (times (zz a b) (across a b)) (less a b), times (times (zz a b) (Ff.plus (yy a b) (xx a b))) (more a b), times (more a b) (less a b)⟩
theorem plus_x (a b : Pn) : (plus a b).x = times (times (zz a b) (across a b)) (less a b) := by unfold plus; dsimp only
theorem plus_y (a b : Pn) : (plus a b).y = times (times (zz a b) (Ff.plus (yy a b) (xx a b))) (more a b) := by unfold plus; dsimp only
theorem plus_z (a b : Pn) : (plus a b).z = times (more a b) (less a b) := by unfold plus; dsimp only
theorem plus_ok (a b : Pn) : Ok (plus a b) := by
  unfold Ok
  rw [plus_x, plus_y, plus_z, Ff.times_length, Ff.times_length, Ff.times_length]
  exact ⟨rfl, rfl, rfl⟩
def negated (a : Pn) : Pn := ⟨Ff.negated a.x, a.y, a.z⟩
def choose (bit : W) (a b : Pn) : Pn := ⟨(Ff.swap bit a.x b.x).1, (Ff.swap bit a.y b.y).1, (Ff.swap bit a.z b.z).1⟩
theorem choose_ok (bit : W) {a : Pn} (b : Pn) (ha : Ok a) : Ok (choose bit a b) := by
  refine ⟨?_, ?_, ?_⟩
  · show (Ff.swap bit a.x b.x).1.length = 5
    rw [Ff.swap, (Ff.swapTo_length _ _ _ _).1, ha.1]
  · show (Ff.swap bit a.y b.y).1.length = 5
    rw [Ff.swap, (Ff.swapTo_length _ _ _ _).1, ha.2.1]
  · show (Ff.swap bit a.z b.z).1.length = 5
    rw [Ff.swap, (Ff.swapTo_length _ _ _ _).1, ha.2.2]
theorem choose_zero {a b : Pn} (ha : Ok a) (hb : Ok b) : choose 0 a b = a := by
  unfold choose
  rw [Ff.swap_zero _ _ ha.1 hb.1, Ff.swap_zero _ _ ha.2.1 hb.2.1, Ff.swap_zero _ _ ha.2.2 hb.2.2]
theorem choose_one {a b : Pn} (ha : Ok a) (hb : Ok b) : choose 1 a b = b := by
  unfold choose
  rw [Ff.swap_one _ _ ha.1 hb.1, Ff.swap_one _ _ ha.2.1 hb.2.1, Ff.swap_one _ _ ha.2.2 hb.2.2]
def timesTo (a : Pn) (n : List W) : Nat → Pn
  | 0 => start
  | k + 1 => choose (Sc.bit n (252 - k)) (plus (timesTo a n k) (timesTo a n k)) (plus (plus (timesTo a n k) (timesTo a n k)) a)
theorem timesTo_ok (a : Pn) (n : List W) (k : Nat) : Ok (timesTo a n k) := by
  cases k with
  | zero => exact ⟨rfl, rfl, rfl⟩
  | succ k => exact choose_ok _ _ (plus_ok _ _)
def timesN (a : Pn) (n : List W) : Pn := timesTo a n 253
theorem timesN_ok (a : Pn) (n : List W) : Ok (timesN a n) := timesTo_ok a n 253

/-- three small numbers that stand for a point of the curve -/
def Is (a : Pn) (p : Gf.Pt) : Prop := Small a.x ∧ Small a.y ∧ Small a.z ∧ Ed.Rep Gf.S (fe a.x) (fe a.y) (fe a.z) p
theorem Is.ok {a : Pn} {p : Gf.Pt} (h : Is a p) : Ok a := ⟨h.1.1, h.2.1.1, h.2.2.1.1⟩
theorem S_d : Gf.S.d = ofN Gf.D := rfl
theorem Is.plus {a b : Pn} {p q : Gf.Pt} (ha : Is a p) (hb : Is b q) : Is (plus a b) (Ed.add Gf.S p q) := by
  obtain ⟨a1, a2, a3, ra⟩ := ha
  obtain ⟨b1, b2, b3, rb⟩ := hb
  obtain ⟨sxx, vxx⟩ := Ff.times_fe a1 b1
  obtain ⟨syy, vyy⟩ := Ff.times_fe a2 b2
  obtain ⟨s1, v1⟩ := Ff.times_fe a1 b2
  obtain ⟨s2, v2⟩ := Ff.times_fe b1 a2
  obtain ⟨sac, vac⟩ := Ff.plus_fe s1 s2
  obtain ⟨sz, vz⟩ := Ff.times_fe a3 b3
  obtain ⟨sw, vw⟩ := Ff.times_fe sz sz
  obtain ⟨s3, v3⟩ := Ff.times_fe Ff.factor_small sxx
  obtain ⟨sc, vc⟩ := Ff.times_fe s3 syy
  obtain ⟨sm, vm⟩ := Ff.plus_fe sw sc
  obtain ⟨sl, vl⟩ := Ff.minus_fe sw sc
  obtain ⟨s4, v4⟩ := Ff.times_fe sz sac
  obtain ⟨s5, v5⟩ := Ff.times_fe s4 sl
  obtain ⟨s6, v6⟩ := Ff.plus_fe syy sxx
  obtain ⟨s7, v7⟩ := Ff.times_fe sz s6
  obtain ⟨s8, v8⟩ := Ff.times_fe s7 sm
  obtain ⟨s9, v9⟩ := Ff.times_fe sm sl
  have h := Ed.Rep.add Gf.S ra rb _ _ _ _ _ rfl rfl rfl rfl rfl
  have e1 : fe (Cv.plus a b).x = fe a.z * fe b.z * (fe a.x * fe b.y + fe b.x * fe a.y) * (fe a.z * fe b.z * (fe a.z * fe b.z) - Gf.S.d * (fe a.x * fe b.x) * (fe a.y * fe b.y)) := by
    rw [plus_x]; unfold zz across less whole change zz xx yy
    rw [v5, v4, vz, vac, v1, v2, vl, vw, vz, vc, v3, vxx, vyy, Ff.factor_fe, S_d]
  have e2 : fe (Cv.plus a b).y = fe a.z * fe b.z * (fe a.y * fe b.y + fe a.x * fe b.x) * (fe a.z * fe b.z * (fe a.z * fe b.z) + Gf.S.d * (fe a.x * fe b.x) * (fe a.y * fe b.y)) := by
    rw [plus_y]; unfold zz more whole change zz xx yy
    rw [v8, v7, vz, v6, vyy, vxx, vm, vw, vz, vc, v3, vxx, vyy, Ff.factor_fe, S_d]
  have e3 : fe (Cv.plus a b).z = (fe a.z * fe b.z * (fe a.z * fe b.z) + Gf.S.d * (fe a.x * fe b.x) * (fe a.y * fe b.y)) * (fe a.z * fe b.z * (fe a.z * fe b.z) - Gf.S.d * (fe a.x * fe b.x) * (fe a.y * fe b.y)) := by
    rw [plus_z]; unfold more less whole change zz xx yy
    rw [v9, vm, vl, vw, vz, vc, v3, vxx, vyy, Ff.factor_fe, S_d]
  have t1 : Small (Cv.plus a b).x := by rw [plus_x]; unfold zz across less whole change zz xx yy; exact s5
  have t2 : Small (Cv.plus a b).y := by rw [plus_y]; unfold zz more whole change zz xx yy; exact s8
  have t3 : Small (Cv.plus a b).z := by rw [plus_z]; unfold more less whole change zz xx yy; exact s9
  unfold Is
  rw [e1, e2, e3]
  exact ⟨t1, t2, t3, h⟩
theorem Is.start : Is start (Ed.zero Gf.S) := by
  refine ⟨Ff.zero5_small, Ff.one5_small, Ff.one5_small, ?_⟩
  show Ed.Rep Gf.S (fe zero5) (fe one5) (fe one5) _
  rw [Ff.zero5_fe, Ff.one5_fe]
  exact Ed.Rep.zero Gf.S
theorem Is.neg {a : Pn} {p : Gf.Pt} (h : Is a p) : Is (negated a) (Ed.neg Gf.S p) := by
  obtain ⟨a1, a2, a3, ra⟩ := h
  obtain ⟨s, v⟩ := Ff.negated_fe a1
  unfold Is
  rw [show (negated a).x = Ff.negated a.x by unfold negated; dsimp only, show (negated a).y = a.y by unfold negated; dsimp only, show (negated a).z = a.z by unfold negated; dsimp only, v]
  exact ⟨s, a2, a3, Ed.Rep.neg Gf.S ra⟩
theorem base_is : Is base Gf.B := by
  refine ⟨⟨rfl, by decide +kernel⟩, ⟨rfl, by decide +kernel⟩, Ff.one5_small, ?_⟩
  have e1 : fe base.x = ofN Gf.Bx := by unfold fe; rw [show Ff.val base.x = Gf.Bx by decide +kernel]
  have e2 : fe base.y = ofN Gf.By := by unfold fe; rw [show Ff.val base.y = Gf.By by decide +kernel]
  have e3 : fe base.z = 1 := Ff.one5_fe
  rw [e1, e2, e3]
  exact Ed.Rep.of Gf.S Gf.B
theorem Is.timesTo {a : Pn} {p : Gf.Pt} (h : Is a p) (n : List W) (hn : n.length = 4) (hv : Sc.val n < 2 ^ 253) : ∀ k, k ≤ 253 → Is (timesTo a n k) (Ed.mul Gf.S (Sc.val n / 2 ^ (253 - k)) p)
  | 0, _ => by
    rw [Nat.sub_zero, Nat.div_eq_of_lt hv]
    exact Is.start
  | k + 1, hk => by
    have ih := Is.timesTo h n hn hv k (by omega)
    have h2 := Is.plus ih ih
    rw [Ed.mul_twice] at h2
    have h3 := Is.plus h2 h
    rw [Ed.mul_succ] at h3
    have hb := Sc.bit_val n hn (252 - k) (by omega)
    have hu := Sc.upper (Sc.val n) 253 k (by omega)
    rw [show 253 - (k + 1) = 252 - k by omega] at hu ⊢
    rw [Cv.timesTo]
    rcases Sc.bit01 _ (Sc.bit_le n (252 - k)) with e | e
    · rw [e, show (0 : W).toNat = 0 from rfl] at hb
      rw [e, choose_zero h2.ok h3.ok, hu, ← hb, show ∀ x : Nat, x + x + 0 = 2 * x by omega]
      exact h2
    · rw [e, show (1 : W).toNat = 1 from rfl] at hb
      rw [e, choose_one h2.ok h3.ok, hu, ← hb, show ∀ x : Nat, x + x + 1 = 2 * x + 1 by omega]
      exact h3
theorem Is.times {a : Pn} {p : Gf.Pt} (h : Is a p) {n : List W} (hn : Sc.Fine n) : Is (timesN a n) (Ed.mul Gf.S (Sc.val n) p) := by
  have hQ : Sc.Q = 7237005577332262213973186563042994240857116359379907606001950938285454250989 := rfl
  have h2 := hn.2
  have := h.timesTo n hn.1 (by omega) 253 (by omega)
  rw [Nat.sub_self, Nat.pow_zero, Nat.div_one] at this
  exact this
theorem mul_mod (n : Nat) : Ed.mul Gf.S (n % Sc.Q) Gf.B = Ed.mul Gf.S n Gf.B := Ed.mul_mod Gf.S Gf.QB n
end Cv
end Go.Proofs.YtclpbaokadfhhaaGreatDoor

namespace Go.Proofs.YtclpbaokadfhhaaGreatDoor
namespace Ff
theorem getD_set (l : List UInt8) (k : Nat) (x : UInt8) (h : k < l.length) : (l.set k x).getD k 0 = x := by simp [List.getD, h]
theorem getD_set_ne (l : List UInt8) (k i : Nat) (x : UInt8) (h : k ≠ i) : (l.set k x).getD i 0 = l.getD i 0 := by simp [List.getD, List.getElem?_set_ne h]
/-- the last byte of a number below p leaves its highest bit free -/
theorem bytes_top {a : List W} (ha : Small a) : ((bytes a).getD 31 0).toNat < 128 := by
  have hl := (lowest_val a (ha.mono (by omega))).1
  unfold bytes
  rw [bytesTo_at _ 32 31 (by omega) (by omega)]
  unfold byteAt words4
  have h3 := hl.2 3 (by omega); have h4 := hl.2 4 (by omega)
  generalize lowest a = b at hl h3 h4
  show ((((b.getD 3 0 >>> 39) ||| (b.getD 4 0 <<< 12)) >>> 56).toNat.toUInt8).toNat < 128
  generalize b.getD 3 0 = x at h3
  generalize b.getD 4 0 = y at h4
  have e : ((x >>> 39) ||| (y <<< 12)).toNat < 9223372036854775808 := by
    have h1 : (x >>> 39).toNat < 2 ^ 63 := by
      rw [BitVec.toNat_ushiftRight, Nat.shiftRight_eq_div_pow]; have := x.isLt; omega
    have h2 : (y <<< 12).toNat < 2 ^ 63 := by
      rw [BitVec.toNat_shiftLeft, Nat.shiftLeft_eq]; omega
    rw [BitVec.toNat_or]
    exact Nat.or_lt_two_pow h1 h2
  generalize (x >>> 39) ||| (y <<< 12) = z at e
  rw [BitVec.toNat_ushiftRight, Nat.shiftRight_eq_div_pow]
  simp only [Nat.toUInt8, UInt8.toNat_ofNat']
  omega
theorem bytes_eq {a b : List W} (ha : Small a) (hb : Small b) (h : fe a = fe b) : bytes a = bytes b := by
  unfold bytes; rw [lowest_eq ha hb h]
theorem or_top : ∀ (x b : UInt8), (x ||| (b <<< 7)) &&& 127 = x &&& 127 := by
  have : ∀ (x : Fin 256) (b : Bool), ((x.val.toUInt8 ||| ((if b then 1 else 0 : UInt8) <<< 7)) &&& 127 = x.val.toUInt8 &&& 127) := by decide +kernel
  intro x b
  apply UInt8.toBitVec_inj.1
  rw [UInt8.toBitVec_and, UInt8.toBitVec_or, UInt8.toBitVec_shiftLeft, UInt8.toBitVec_and]
  have e : ∀ (x b : BitVec 8), (x ||| (b <<< (7 : BitVec 8))) &&& 127 = x &&& 127 := by
    intro x b
    apply BitVec.eq_of_getLsbD_eq
    intro i hi
    rw [BitVec.getLsbD_and, BitVec.getLsbD_and, BitVec.getLsbD_or]
    match i, hi with
    | 0, _ | 1, _ | 2, _ | 3, _ | 4, _ | 5, _ | 6, _ => simp
    | 7, _ => simp
  exact e _ _
theorem top_back (x b : UInt8) (hx : x.toNat < 128) (hb : b.toNat < 2) : (x ||| (b <<< 7)) >>> 7 = b := by
  have key : ∀ (x : Fin 128) (b : Fin 2), (x.val.toUInt8 ||| (b.val.toUInt8 <<< 7)) >>> 7 = b.val.toUInt8 := by decide +kernel
  have := key ⟨x.toNat, hx⟩ ⟨b.toNat, hb⟩
  simpa using this
end Ff

namespace Cv
open Gf (Fp ofN)
open Ff (W fe Small zero5 one5 times)
def yb (a : Pn) : List UInt8 := Ff.bytes (times a.y (Ff.inverse a.z))
def xb (a : Pn) : UInt8 := Ff.lowBit (times a.x (Ff.inverse a.z))
/-- a point's 32 bytes -/
def bytes (a : Pn) : List UInt8 := (yb a).set 31 ((yb a).getD 31 0 ||| (xb a <<< 7))
theorem yb_length (a : Pn) : (yb a).length = 32 := by unfold yb; exact Ff.bytes_length _
theorem bytes_length (a : Pn) : (bytes a).length = 32 := by unfold bytes; rw [List.length_set, yb_length]
theorem S_inv : Gf.S.inv = Gf.inv := rfl
theorem Is.xq {a : Pn} {p : Gf.Pt} (h : Is a p) : Small (Ff.times a.x (Ff.inverse a.z)) ∧ fe (Ff.times a.x (Ff.inverse a.z)) = p.x := by
  obtain ⟨a1, a2, a3, r⟩ := h
  obtain ⟨s1, v1⟩ := Ff.inverse_fe a3
  obtain ⟨s2, v2⟩ := Ff.times_fe a1 s1
  have := Ed.Rep.x Gf.S r
  rw [S_inv] at this
  exact ⟨s2, by rw [v2, v1, this]⟩
theorem Is.yq {a : Pn} {p : Gf.Pt} (h : Is a p) : Small (Ff.times a.y (Ff.inverse a.z)) ∧ fe (Ff.times a.y (Ff.inverse a.z)) = p.y := by
  obtain ⟨a1, a2, a3, r⟩ := h
  obtain ⟨s1, v1⟩ := Ff.inverse_fe a3
  obtain ⟨s2, v2⟩ := Ff.times_fe a2 s1
  have := Ed.Rep.y Gf.S r
  rw [S_inv] at this
  exact ⟨s2, by rw [v2, v1, this]⟩
/-- the bytes go by the point alone -/
theorem Is.bytes {a b : Pn} {p : Gf.Pt} (ha : Is a p) (hb : Is b p) : bytes a = bytes b := by
  obtain ⟨s1, v1⟩ := ha.xq
  obtain ⟨s2, v2⟩ := hb.xq
  obtain ⟨s3, v3⟩ := ha.yq
  obtain ⟨s4, v4⟩ := hb.yq
  have e1 : xb a = xb b := Ff.lowBit_eq s1 s2 (by rw [v1, v2])
  have e2 : yb a = yb b := Ff.bytes_eq s3 s4 (by rw [v3, v4])
  unfold Cv.bytes
  rw [e1, e2]
/-- the square of x that a y asks for -/
def tried (y : List W) : List W := times (Ff.minus (times y y) one5) (Ff.inverse (Ff.plus (times Ff.factor (times y y)) one5))
theorem tried_length (y : List W) : (tried y).length = 5 := by unfold tried; exact Ff.times_length _ _
/-- of the found root the one with that lowest bit -/
def turned (r : List W) (b : UInt8) : List W := if Ff.lowBit r = b then r else Ff.negated r
def made (s : List UInt8) : Pn := ⟨turned (Ff.root (tried (Ff.of s))).1 (s.getD 31 0 >>> 7), Ff.of s, one5⟩
def of (s : List UInt8) : Pn × Bool := if (Ff.root (tried (Ff.of s))).2 = true then (if bytes (made s) = s then (made s, true) else (none', false)) else (none', false)
theorem turned_length (r : List W) (b : UInt8) (h : r.length = 5) : (turned r b).length = 5 := by
  unfold turned
  have hn := Ff.negated_length r
  generalize Ff.negated r = n at hn ⊢
  by_cases hc : Ff.lowBit r = b
  · rw [if_pos hc]; exact h
  · rw [if_neg hc]; exact hn
theorem of_ok (s : List UInt8) : Ok (of s).1 := by
  have hl := turned_length (Ff.root (tried (Ff.of s))).1 (s.getD 31 0 >>> 7) (Ff.root_length _)
  have hm : Ok (made s) := by
    unfold made
    generalize turned (Ff.root (tried (Ff.of s))).1 (s.getD 31 0 >>> 7) = x at hl
    exact ⟨hl, rfl, rfl⟩
  unfold of
  generalize (Ff.root (tried (Ff.of s))).2 = f
  generalize made s = m at hm ⊢
  by_cases h1 : f = true
  · rw [if_pos h1]
    by_cases h2 : bytes m = s
    · rw [if_pos h2]; exact hm
    · rw [if_neg h2]; exact ⟨rfl, rfl, rfl⟩
  · rw [if_neg h1]; exact ⟨rfl, rfl, rfl⟩
theorem lin0 {pp : Nat} [NeZero pp] (d : Fin pp) (h : d * (0 * 0) + 1 = 0) : (1 : Fin pp) = 0 := by grind
theorem den_ne (y : Fp) : ofN Gf.D * (y * y) + 1 ≠ 0 := by
  intro h
  have hy : y ≠ 0 := by
    intro e
    rw [e] at h
    exact Ed.one_ne Gf.S (lin0 _ h)
  have hi := Gf.mul_inv y hy
  have hii := Gf.ii
  apply Gf.nonsq (ofN Gf.I * Gf.inv y)
  generalize ofN Gf.D = d at h ⊢
  generalize ofN Gf.I = i at hii ⊢
  generalize Gf.inv y = z at hi ⊢
  have e : d * (y * y) * (z * z) = -(z * z) := by
    have : d * (y * y) = -1 := by grind
    rw [this]; grind
  have e2 : d * (y * y) * (z * z) = d := by
    have : d * (y * y) * (z * z) = d * ((y * z) * (y * z)) := by grind
    rw [this, hi]; grind
  have e3 : i * z * (i * z) = (i * i) * (z * z) := by grind
  rw [e3, hii, ← e2, e]; grind
theorem tried_fe {y : List W} (hy : Small y) : Small (tried y) ∧ fe (tried y) * (ofN Gf.D * (fe y * fe y) + 1) = fe y * fe y - 1 := by
  obtain ⟨s1, v1⟩ := Ff.times_fe hy hy
  obtain ⟨s2, v2⟩ := Ff.minus_fe s1 Ff.one5_small
  obtain ⟨s3, v3⟩ := Ff.times_fe Ff.factor_small s1
  obtain ⟨s4, v4⟩ := Ff.plus_fe s3 Ff.one5_small
  obtain ⟨s5, v5⟩ := Ff.inverse_fe s4
  obtain ⟨s6, v6⟩ := Ff.times_fe s2 s5
  unfold tried
  refine ⟨s6, ?_⟩
  rw [v6, v2, v1, v5, v4, v3, v1, Ff.factor_fe, Ff.one5_fe]
  have hn := Gf.mul_inv _ (den_ne (fe y))
  generalize ofN Gf.D * (fe y * fe y) + 1 = n at hn ⊢
  generalize Gf.inv n = m at hn ⊢
  generalize fe y * fe y - 1 = t
  grind
theorem turned_fe {r : List W} (hr : Small r) {x : Fp} {b : UInt8} (h : fe r * fe r = x * x) (hb : b.toNat = Gf.toN x % 2) : Small (turned r b) ∧ fe (turned r b) = x := by
  have hz : (fe r - x) * (fe r + x) = 0 := by
    generalize fe r = y at h
    grind
  have hv := Ff.lowBit_val hr
  obtain ⟨sn, vn⟩ := Ff.negated_fe hr
  unfold turned
  rcases Ed.eq_zero Gf.S hz with e | e
  · have e : fe r = x := by
      generalize fe r = y at e
      grind
    have : Ff.lowBit r = b := UInt8.toNat.inj (by rw [hv, hb, e])
    rw [if_pos this]
    exact ⟨hr, e⟩
  · have e : fe r = -x := by
      generalize fe r = y at e
      grind
    by_cases hx : x = 0
    · have e0 : fe r = x := by rw [e, hx]; grind
      have : Ff.lowBit r = b := UInt8.toNat.inj (by rw [hv, hb, e0])
      rw [if_pos this]
      exact ⟨hr, e0⟩
    · have hne : Ff.lowBit r ≠ b := fun hh => Ff.toN_neg x hx (by rw [← e, ← hv, ← hb, hh])
      rw [if_neg hne]
      exact ⟨sn, by rw [vn, e]; grind⟩
theorem of_yb {a : Pn} {p : Gf.Pt} (h : Is a p) : fe (Ff.of (bytes a)) = p.y ∧ ((bytes a).getD 31 0 >>> 7).toNat = Gf.toN p.x % 2 := by
  obtain ⟨s1, v1⟩ := h.xq
  obtain ⟨s2, v2⟩ := h.yq
  have hl := yb_length a
  have e31 : (bytes a).getD 31 0 = (yb a).getD 31 0 ||| (xb a <<< 7) := by unfold bytes; exact Ff.getD_set _ _ _ (by omega)
  constructor
  · have e : Ff.of (bytes a) = Ff.of (yb a) := by
      unfold Ff.of
      refine Ff.of_high _ _ (fun i hi => ?_) ?_
      · show (bytes a).getD i 0 = (yb a).getD i 0
        unfold bytes; exact Ff.getD_set_ne _ _ _ _ (by omega)
      · show (bytes a).getD 31 0 &&& 127 = (yb a).getD 31 0 &&& 127
        rw [e31]; exact Ff.or_top _ _
    rw [e]
    unfold yb
    rw [Ff.of_bytes s2, v2]
  · have ht : ((yb a).getD 31 0).toNat < 128 := by unfold yb; exact Ff.bytes_top s2
    have hv : (xb a).toNat = Gf.toN p.x % 2 := by unfold xb; rw [Ff.lowBit_val s1, v1]
    rw [e31, Ff.top_back _ _ ht (by omega), hv]
/-- a point, told, is read again -/
theorem of_bytes {a : Pn} {p : Gf.Pt} (h : Is a p) : ∃ b, of (bytes a) = (b, true) ∧ Is b p := by
  obtain ⟨hy, hx⟩ := of_yb h
  obtain ⟨st, vt⟩ := tried_fe (Ff.of_little (bytes a))
  rw [hy] at vt
  have hon : p.y * p.y - p.x * p.x - 1 - ofN Gf.D * p.x * p.x * p.y * p.y = 0 := p.on
  have hsq : fe (tried (Ff.of (bytes a))) = p.x * p.x := by
    refine Ed.cancel Gf.S (den_ne p.y) ?_
    generalize fe (tried (Ff.of (bytes a))) = t at vt
    generalize ofN Gf.D = d at vt hon ⊢
    generalize p.x = x at vt hon ⊢
    generalize p.y = y at vt hon ⊢
    grind
  obtain ⟨hf, sr, vr⟩ := Ff.root_found st hsq
  obtain ⟨sx, vx⟩ := turned_fe sr vr hx
  have him : Is (made (bytes a)) p := by
    unfold Is made
    dsimp only
    refine ⟨sx, Ff.of_little _, Ff.one5_small, ?_⟩
    rw [vx, hy, Ff.one5_fe]
    exact Ed.Rep.of Gf.S p
  refine ⟨made (bytes a), ?_, him⟩
  unfold of
  rw [if_pos hf, if_pos (Is.bytes him h)]
end Cv
end Go.Proofs.YtclpbaokadfhhaaGreatDoor

namespace Go.Proofs.YtclpbaokadfhhaaGreatDoor
namespace Sc
/-- a number's 32 bytes -/
def bytes (a : List W) : List UInt8 := Ff.bytesTo a 32
theorem bytes_length (a : List W) : (bytes a).length = 32 := Ff.bytesTo_length _ _
theorem mod_bit (M r : Nat) (hr : r < 8) : M % 256 / 2 ^ r % 2 = M / 2 ^ r % 2 := by
  have h : 256 = 2 ^ r * (2 * 2 ^ (7 - r)) := by
    rw [← Nat.mul_assoc, ← Nat.pow_succ, ← Nat.pow_add, show r.succ + (7 - r) = 8 by omega]
  have e : M = M % 256 + 2 ^ r * (2 * (2 ^ (7 - r) * (M / 256))) := by
    rw [← Nat.mul_assoc, ← Nat.mul_assoc, Nat.mul_assoc (2 ^ r), ← h]; omega
  conv => rhs; rw [e]
  rw [Nat.add_mul_div_left _ _ (Nat.two_pow_pos r), Nat.add_mul_mod_self_left]
theorem byteAt_bit (a : List W) (k : Nat) : (Ff.byteAt a (k / 8)).toNat / 2 ^ (k % 8) % 2 = (bit a k).toNat := by
  unfold Ff.byteAt bit
  rw [and_one, BitVec.toNat_ushiftRight, BitVec.toNat_ushiftRight, Nat.shiftRight_eq_div_pow, Nat.shiftRight_eq_div_pow, show k / 8 / 8 = k / 64 by omega]
  generalize (a.getD (k / 64) 0).toNat = L
  simp only [Nat.toUInt8, UInt8.toNat_ofNat']
  show L / 2 ^ (k / 8 % 8 * 8) % 256 / 2 ^ (k % 8) % 2 = _
  rw [mod_bit _ _ (Nat.mod_lt _ (by decide)), Nat.div_div_eq_div_mul, ← Nat.pow_add]
  congr 3; omega
theorem bytes_num (a : List W) (ha : a.length = 4) : num (bytes a) = val a := by
  have hl := bytes_length a
  have h1 := num_lt (bytes a)
  have h2 := val_lt a
  rw [hl] at h1
  apply Nat.eq_of_testBit_eq
  intro k
  rw [Nat.testBit_eq_decide_div_mod_eq, Nat.testBit_eq_decide_div_mod_eq]
  by_cases hk : k < 256
  · rw [num_bit _ _ (by rw [hl]; omega)]
    have e : (bytes a).getD (k / 8) 0 = Ff.byteAt a (k / 8) := Ff.bytesTo_at a 32 (k / 8) (by omega) (by omega)
    rw [e, byteAt_bit, bit_val a ha k hk]
  · have hp : 2 ^ 256 ≤ 2 ^ k := Nat.pow_le_pow_right (by decide) (by omega)
    rw [Nat.div_eq_of_lt (by omega), Nat.div_eq_of_lt (by omega)]
/-- a number below Q, told, is read again -/
theorem of_bytes {a : List W} (ha : Fine a) : of (bytes a) = a := by
  obtain ⟨f, v⟩ := of_val (bytes a)
  refine val_inj f.1 ha.1 ?_
  rw [v, bytes_num a ha.1, Nat.mod_eq_of_lt ha.2]
end Sc

namespace Sg
open Ff (W)
variable (H : List UInt8 → List UInt8)
def secret (seed : List UInt8) : List W := Sc.of (changed ((H seed).take 32))
def rest (seed : List UInt8) : List UInt8 := (H seed).drop 32
def identity (seed : List UInt8) : List UInt8 := Cv.bytes (Cv.timesN Cv.base (secret H seed))
def tie (first id data : List UInt8) : List W := Sc.of (H (first ++ id ++ data))
def once (seed data : List UInt8) : List W := Sc.of (H (rest H seed ++ data))
def first (seed data : List UInt8) : List UInt8 := Cv.bytes (Cv.timesN Cv.base (once H seed data))
def last (seed data : List UInt8) : List W := Sc.plus (once H seed data) (Sc.times (tie H (first H seed data) (identity H seed) data) (secret H seed))
def sign (seed data : List UInt8) : List UInt8 := first H seed data ++ Sc.bytes (last H seed data)
/-- the bytes that the first half must be -/
def want (p : Cv.Pn) (id data f : List UInt8) (n : List W) : List UInt8 := Cv.bytes (Cv.plus (Cv.timesN Cv.base n) (Cv.negated (Cv.timesN p (tie H f id data))))
def right (id data sig : List UInt8) : Bool :=
  if (Cv.of id).2 = true then (if Sc.bytes (Sc.of (sig.drop 32)) = sig.drop 32 then decide (want H (Cv.of id).1 id data (sig.take 32) (Sc.of (sig.drop 32)) = sig.take 32) else false) else false
theorem identity_length (seed : List UInt8) : (identity H seed).length = 32 := by unfold identity; exact Cv.bytes_length _
theorem first_length (seed data : List UInt8) : (first H seed data).length = 32 := by unfold first; exact Cv.bytes_length _
theorem sign_length (seed data : List UInt8) : (sign H seed data).length = 64 := by
  unfold sign; rw [List.length_append, first_length, Sc.bytes_length]
theorem last_fine (seed data : List UInt8) : Sc.Fine (last H seed data) ∧ Sc.val (last H seed data) = (Sc.val (once H seed data) + Sc.val (tie H (first H seed data) (identity H seed) data) * Sc.val (secret H seed)) % Sc.Q := by
  have h1 : Sc.Fine (once H seed data) := (Sc.of_val _).1
  have h2 : Sc.Fine (tie H (first H seed data) (identity H seed) data) := (Sc.of_val _).1
  have h3 : Sc.Fine (secret H seed) := (Sc.of_val _).1
  obtain ⟨f1, v1⟩ := Sc.times_val h2 h3
  obtain ⟨f2, v2⟩ := Sc.plus_val h1 f1
  unfold last
  refine ⟨f2, ?_⟩
  rw [v2, v1, Nat.add_mod_mod]
theorem sign_take (seed data : List UInt8) : (sign H seed data).take 32 = first H seed data := by
  unfold sign; rw [List.take_left' (first_length H seed data)]
theorem sign_drop (seed data : List UInt8) : (sign H seed data).drop 32 = Sc.bytes (last H seed data) := by
  unfold sign; rw [List.drop_left' (first_length H seed data)]
theorem back {p q : Gf.Pt} : Ed.add Gf.S (Ed.add Gf.S p q) (Ed.neg Gf.S q) = p := by
  rw [Ed.add_assoc, Ed.add_neg, Ed.add_zero]
/-- what was signed is right -/
theorem sign_right (seed data : List UInt8) : right H (identity H seed) data (sign H seed data) = true := by
  have hs : Sc.Fine (secret H seed) := (Sc.of_val _).1
  have ho : Sc.Fine (once H seed data) := (Sc.of_val _).1
  have ht : Sc.Fine (tie H (first H seed data) (identity H seed) data) := (Sc.of_val _).1
  obtain ⟨hl, vl⟩ := last_fine H seed data
  have iA := Cv.base_is.times hs
  have iR := Cv.base_is.times ho
  have iL := Cv.base_is.times hl
  obtain ⟨b, eb, ib⟩ := Cv.of_bytes iA
  have iK := (Cv.Is.times ib ht).neg
  have iS := iL.plus iK
  rw [vl, Cv.mul_mod, Ed.mul_add, Ed.mul_mul, back] at iS
  have e := Cv.Is.bytes iS iR
  have eb' : Cv.of (identity H seed) = (b, true) := eb
  unfold right
  rw [sign_take, sign_drop, Sc.of_bytes hl, eb', if_pos rfl, if_pos rfl]
  exact decide_eq_true e
end Sg
end Go.Proofs.YtclpbaokadfhhaaGreatDoor
