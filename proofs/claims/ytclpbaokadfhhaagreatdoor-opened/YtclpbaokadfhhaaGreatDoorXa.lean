/- Several texts as one: Ff, Ft. -/
import Derived.Test.YtclpbaokadfhhaaGreatDoorZa
namespace Go.Proofs.YtclpbaokadfhhaaGreatDoor

namespace Ff
abbrev W := BitVec 64
def P : Nat := 57896044618658097711785492504343953926634992332820282019728792003956564819949
def M51 : W := 2251799813685247

/-- the same modulo p -/
def Cg (a b : Nat) : Prop := a % P = b % P
theorem Cg.refl (a : Nat) : Cg a a := rfl
theorem Cg.trans {a b c : Nat} (h : Cg a b) (h' : Cg b c) : Cg a c := Eq.trans h h'
theorem Cg.of_eq {a b : Nat} (h : a = b) : Cg a b := by rw [h]; rfl
theorem Cg.mul {a b c d : Nat} (h : Cg a b) (h' : Cg c d) : Cg (a * c) (b * d) := by
  unfold Cg at *; rw [Nat.mul_mod, h, h', ← Nat.mul_mod]
theorem Cg.pow {a b : Nat} (h : Cg a b) (n : Nat) : Cg (a ^ n) (b ^ n) := by
  unfold Cg at *; rw [Nat.pow_mod, h, ← Nat.pow_mod]


theorem five (l : List W) (h : l.length = 5) : ∃ x0 x1 x2 x3 x4, l = [x0, x1, x2, x3, x4] := by
  match l, h with
  | [x0, x1, x2, x3, x4], _ => exact ⟨x0, x1, x2, x3, x4, rfl⟩

/-- the parts, of which the first k were carried, and what is over -/
def carTo (a : List W) (o : W) : Nat → List W × W
  | 0 => (a, o)
  | k + 1 => (((carTo a o k).1.set k ((carTo a o k).1.getD k 0 + (carTo a o k).2)).set k (((carTo a o k).1.getD k 0 + (carTo a o k).2) &&& M51), ((carTo a o k).1.getD k 0 + (carTo a o k).2) >>> 51)
theorem carTo_length (a : List W) (o : W) (k : Nat) : (carTo a o k).1.length = a.length := by
  induction k with
  | zero => rfl
  | succ k ih => simp [carTo, ih]
def carry (a : List W) (o : W) : List W × W := carTo a o 5
/-- what is over, 19 times, to the lowest part -/
def carEnd (l : List W) (o : W) : List W :=
  ((l.set 0 (l.getD 0 0 + 19 * o)).set 1 (l.getD 1 0 + (l.getD 0 0 + 19 * o) >>> 51)).set 0 ((l.getD 0 0 + 19 * o) &&& M51)
def carried (a : List W) : List W := carEnd (carry a 0).1 (carry a 0).2
theorem carried_length (a : List W) : (carried a).length = a.length := by simp [carried, carry, carEnd, carTo_length]
def lowest (a : List W) : List W := (carry (carried a) (19 * (carry (carried a) 19).2)).1
theorem lowest_length (a : List W) : (lowest a).length = a.length := by simp [lowest, carry, carTo_length, carried_length]
def plusTo (a b : List W) : Nat → List W
  | 0 => a
  | k + 1 => (plusTo a b k).set k ((plusTo a b k).getD k 0 + b.getD k 0)
theorem plusTo_length (a b : List W) (k : Nat) : (plusTo a b k).length = a.length := by
  induction k with
  | zero => rfl
  | succ k ih => simp [plusTo, ih]
def plus (a b : List W) : List W := carried (plusTo a b 5)
theorem plus_length (a b : List W) : (plus a b).length = a.length := by simp [plus, carried_length, plusTo_length]
def four : List W := [9007199254740916, 9007199254740988, 9007199254740988, 9007199254740988, 9007199254740988]
def minusTo (a b : List W) : Nat → List W
  | 0 => a
  | k + 1 => (minusTo a b k).set k ((minusTo a b k).getD k 0 + (four.getD k 0 - b.getD k 0))
theorem minusTo_length (a b : List W) (k : Nat) : (minusTo a b k).length = a.length := by
  induction k with
  | zero => rfl
  | succ k ih => simp [minusTo, ih]
def minus (a b : List W) : List W := carried (minusTo a b 5)
theorem minus_length (a b : List W) : (minus a b).length = a.length := by simp [minus, carried_length, minusTo_length]
def swapTo (m : W) (a b : List W) : Nat → List W × List W
  | 0 => (a, b)
  | k + 1 => ((swapTo m a b k).1.set k ((swapTo m a b k).1.getD k 0 ^^^ (m &&& ((swapTo m a b k).1.getD k 0 ^^^ (swapTo m a b k).2.getD k 0))), (swapTo m a b k).2.set k ((swapTo m a b k).2.getD k 0 ^^^ (m &&& ((swapTo m a b k).1.getD k 0 ^^^ (swapTo m a b k).2.getD k 0))))
theorem swapTo_length (m : W) (a b : List W) (k : Nat) : (swapTo m a b k).1.length = a.length ∧ (swapTo m a b k).2.length = b.length := by
  induction k with
  | zero => exact ⟨rfl, rfl⟩
  | succ k ih => simp [swapTo, ih.1, ih.2]
def swap (bit : W) (a b : List W) : List W × List W := swapTo (-bit) a b 5

/-- what five parts are worth -/
def val (l : List W) : Nat := (l.getD 0 0).toNat + 2251799813685248 * (l.getD 1 0).toNat + 5070602400912917605986812821504 * (l.getD 2 0).toNat + 11417981541647679048466287755595961091061972992 * (l.getD 3 0).toNat + 25711008708143844408671393477458601640355247900524685364822016 * (l.getD 4 0).toNat
/-- five parts, each below n -/
def Sm (n : Nat) (l : List W) : Prop := l.length = 5 ∧ ∀ k, k < 5 → (l.getD k 0).toNat < n
/-- as a carry leaves them -/
def Tight (l : List W) : Prop := l.length = 5 ∧ (l.getD 0 0).toNat < 2251799813685248 ∧ (l.getD 1 0).toNat ≤ 2251799813685248 ∧ (l.getD 2 0).toNat < 2251799813685248 ∧ (l.getD 3 0).toNat < 2251799813685248 ∧ (l.getD 4 0).toNat < 2251799813685248
/-- below 2^52 -/
abbrev Small (l : List W) : Prop := Sm 4503599627370496 l
theorem Tight.small {l : List W} (h : Tight l) : Small l := by
  obtain ⟨h, h0, h1, h2, h3, h4⟩ := h
  refine ⟨h, fun k hk => ?_⟩
  obtain rfl | rfl | rfl | rfl | rfl : k = 0 ∨ k = 1 ∨ k = 2 ∨ k = 3 ∨ k = 4 := by omega
  all_goals omega
theorem Sm.mono {m n : Nat} {l : List W} (h : Sm m l) (hmn : m ≤ n) : Sm n l := ⟨h.1, fun k hk => Nat.lt_of_lt_of_le (h.2 k hk) hmn⟩

theorem and51 (x : W) : (x &&& M51).toNat = x.toNat % 2251799813685248 := by
  rw [BitVec.toNat_and]
  exact Nat.and_two_pow_sub_one_eq_mod x.toNat 51
theorem shr51 (x : W) : (x >>> 51).toNat = x.toNat / 2251799813685248 := by
  rw [BitVec.toNat_ushiftRight, Nat.shiftRight_eq_div_pow]
theorem addW (x y : W) (h : x.toNat + y.toNat < 18446744073709551616) : (x + y).toNat = x.toNat + y.toNat := by
  rw [BitVec.toNat_add, Nat.mod_eq_of_lt (by simpa using h)]
theorem mulW (x y : W) (h : x.toNat * y.toNat < 18446744073709551616) : (x * y).toNat = x.toNat * y.toNat := by
  rw [BitVec.toNat_mul, Nat.mod_eq_of_lt (by simpa using h)]
theorem mul19 (x : W) (h : x.toNat < 900000000000000000) : (19 * x).toNat = 19 * x.toNat := by
  rw [mulW]
  · rfl
  · show 19 * x.toNat < _; omega

/-- a carry says the same number -/
theorem carry_val (a : List W) (o : W) (ha : Sm 9223372036854775808 a) (ho : o.toNat < 4611686018427387904) :
    Sm 2251799813685248 (carry a o).1 ∧ (carry a o).2.toNat ≤ 4096 ∧ val (carry a o).1 + 57896044618658097711785492504343953926634992332820282019728792003956564819968 * (carry a o).2.toNat = val a + o.toNat := by
  obtain ⟨a0, a1, a2, a3, a4, rfl⟩ := five a ha.1
  have h0 := ha.2 0 (by omega); have h1 := ha.2 1 (by omega); have h2 := ha.2 2 (by omega); have h3 := ha.2 3 (by omega); have h4 := ha.2 4 (by omega)
  simp only [List.getD_cons_zero, List.getD_cons_succ] at h0 h1 h2 h3 h4
  have e : carry [a0, a1, a2, a3, a4] o =
      ([(a0 + o) &&& M51, (a1 + (a0 + o) >>> 51) &&& M51, (a2 + (a1 + (a0 + o) >>> 51) >>> 51) &&& M51, (a3 + (a2 + (a1 + (a0 + o) >>> 51) >>> 51) >>> 51) &&& M51, (a4 + (a3 + (a2 + (a1 + (a0 + o) >>> 51) >>> 51) >>> 51) >>> 51) &&& M51], (a4 + (a3 + (a2 + (a1 + (a0 + o) >>> 51) >>> 51) >>> 51) >>> 51) >>> 51) := rfl
  rw [e]
  have s0 : (a0 + o).toNat = a0.toNat + o.toNat := addW _ _ (by omega)
  have r0 := shr51 (a0 + o)
  have s1 : (a1 + (a0 + o) >>> 51).toNat = a1.toNat + ((a0 + o) >>> 51).toNat := addW _ _ (by omega)
  have m0 := and51 (a0 + o)
  generalize (a0 + o) >>> 51 = o1 at *
  have r1 := shr51 (a1 + o1)
  have m1 := and51 (a1 + o1)
  have s2 : (a2 + (a1 + o1) >>> 51).toNat = a2.toNat + ((a1 + o1) >>> 51).toNat := addW _ _ (by omega)
  generalize (a1 + o1) >>> 51 = o2 at *
  have r2 := shr51 (a2 + o2)
  have m2 := and51 (a2 + o2)
  have s3 : (a3 + (a2 + o2) >>> 51).toNat = a3.toNat + ((a2 + o2) >>> 51).toNat := addW _ _ (by omega)
  generalize (a2 + o2) >>> 51 = o3 at *
  have r3 := shr51 (a3 + o3)
  have m3 := and51 (a3 + o3)
  have s4 : (a4 + (a3 + o3) >>> 51).toNat = a4.toNat + ((a3 + o3) >>> 51).toNat := addW _ _ (by omega)
  generalize (a3 + o3) >>> 51 = o4 at *
  have r4 := shr51 (a4 + o4)
  have m4 := and51 (a4 + o4)
  generalize (a4 + o4) >>> 51 = o5 at *
  refine ⟨⟨rfl, fun k hk => ?_⟩, ?_, ?_⟩
  · obtain rfl | rfl | rfl | rfl | rfl : k = 0 ∨ k = 1 ∨ k = 2 ∨ k = 3 ∨ k = 4 := by omega
    all_goals simp only [List.getD_cons_zero, List.getD_cons_succ]; omega
  · show o5.toNat ≤ 4096
    omega
  · simp only [val, List.getD_cons_zero, List.getD_cons_succ]
    omega

theorem carried_val (a : List W) (ha : Sm 9223372036854775808 a) : Tight (carried a) ∧ ∃ q, val (carried a) + P * q = val a := by
  obtain ⟨h1, h2, h3⟩ := carry_val a 0 ha (by simp)
  unfold carried
  generalize (carry a 0).1 = l at *
  generalize (carry a 0).2 = o at *
  obtain ⟨x0, x1, x2, x3, x4, rfl⟩ := five l h1.1
  have b0 := h1.2 0 (by omega); have b1 := h1.2 1 (by omega); have b2 := h1.2 2 (by omega); have b3 := h1.2 3 (by omega); have b4 := h1.2 4 (by omega)
  simp only [List.getD_cons_zero, List.getD_cons_succ] at b0 b1 b2 b3 b4
  have e : carEnd [x0, x1, x2, x3, x4] o = [(x0 + 19 * o) &&& M51, x1 + (x0 + 19 * o) >>> 51, x2, x3, x4] := rfl
  rw [e]
  have s := mul19 o (by omega)
  have s0 : (x0 + 19 * o).toNat = x0.toNat + (19 * o).toNat := addW _ _ (by omega)
  have r0 := shr51 (x0 + 19 * o)
  have m0 := and51 (x0 + 19 * o)
  have s1 : (x1 + (x0 + 19 * o) >>> 51).toNat = x1.toNat + ((x0 + 19 * o) >>> 51).toNat := addW _ _ (by omega)
  refine ⟨⟨rfl, ?_⟩, o.toNat, ?_⟩
  · simp only [List.getD_cons_zero, List.getD_cons_succ]; omega
  · simp only [val, List.getD_cons_zero, List.getD_cons_succ, P] at *
    rw [show (0 : W).toNat = 0 from rfl] at h3
    omega

theorem Tight.val_lt {l : List W} (h : Tight l) : val l < 57896044618658097711785492504343953926634992332820282019728792003956564819968 + 2251799813685248 := by
  obtain ⟨_, h0, h1, h2, h3, h4⟩ := h
  unfold val; omega

theorem lowest_val (a : List W) (ha : Sm 9223372036854775808 a) : Sm 2251799813685248 (lowest a) ∧ val (lowest a) = val a % P := by
  obtain ⟨ht, q, hq⟩ := carried_val a ha
  unfold lowest
  generalize carried a = l at *
  have hl := ht.val_lt
  have hs : Sm 9223372036854775808 l := ht.small.mono (by omega)
  obtain ⟨h1, h2, h3⟩ := carry_val l 19 hs (by decide)
  have v1 : val (carry l 19).1 < 57896044618658097711785492504343953926634992332820282019728792003956564819968 := by
    obtain ⟨_, hb⟩ := h1
    have b0 := hb 0 (by omega); have b1 := hb 1 (by omega); have b2 := hb 2 (by omega); have b3 := hb 3 (by omega); have b4 := hb 4 (by omega)
    unfold val; omega
  generalize (carry l 19).2 = o at *
  rw [show (19 : W).toNat = 19 from rfl] at h3
  have ho : o.toNat ≤ 1 := by omega
  have hm := mul19 o (by omega)
  obtain ⟨g1, g2, g3⟩ := carry_val l (19 * o) hs (by omega)
  refine ⟨g1, ?_⟩
  have v2 : val (carry l (19 * o)).1 < 57896044618658097711785492504343953926634992332820282019728792003956564819968 := by
    obtain ⟨_, hb⟩ := g1
    have b0 := hb 0 (by omega); have b1 := hb 1 (by omega); have b2 := hb 2 (by omega); have b3 := hb 3 (by omega); have b4 := hb 4 (by omega)
    unfold val; omega
  generalize val (carry l (19 * o)).1 = v at *
  generalize (carry l (19 * o)).2 = o2 at *
  rw [← hq, Nat.add_mul_mod_self_left]
  generalize val l = n at *
  unfold P
  have : o.toNat = 0 ∨ o.toNat = 1 := by omega
  rcases this with h | h <;> rw [h] at hm h3 <;> omega

theorem plus_val (a b : List W) (ha : Small a) (hb : Small b) : Tight (plus a b) ∧ Cg (val (plus a b)) (val a + val b) := by
  obtain ⟨a0, a1, a2, a3, a4, rfl⟩ := five a ha.1
  obtain ⟨b0, b1, b2, b3, b4, rfl⟩ := five b hb.1
  have h0 := ha.2 0 (by omega); have h1 := ha.2 1 (by omega); have h2 := ha.2 2 (by omega); have h3 := ha.2 3 (by omega); have h4 := ha.2 4 (by omega)
  have g0 := hb.2 0 (by omega); have g1 := hb.2 1 (by omega); have g2 := hb.2 2 (by omega); have g3 := hb.2 3 (by omega); have g4 := hb.2 4 (by omega)
  simp only [List.getD_cons_zero, List.getD_cons_succ] at h0 h1 h2 h3 h4 g0 g1 g2 g3 g4
  have s0 := addW a0 b0 (by omega); have s1 := addW a1 b1 (by omega); have s2 := addW a2 b2 (by omega); have s3 := addW a3 b3 (by omega); have s4 := addW a4 b4 (by omega)
  have e : plusTo [a0, a1, a2, a3, a4] [b0, b1, b2, b3, b4] 5 = [a0 + b0, a1 + b1, a2 + b2, a3 + b3, a4 + b4] := rfl
  unfold plus
  rw [e]
  obtain ⟨ht, q, hq⟩ := carried_val [a0 + b0, a1 + b1, a2 + b2, a3 + b3, a4 + b4] ⟨rfl, fun k hk => by
    obtain rfl | rfl | rfl | rfl | rfl : k = 0 ∨ k = 1 ∨ k = 2 ∨ k = 3 ∨ k = 4 := by omega
    all_goals simp only [List.getD_cons_zero, List.getD_cons_succ]; omega⟩
  refine ⟨ht, ?_⟩
  have : val [a0 + b0, a1 + b1, a2 + b2, a3 + b3, a4 + b4] = val [a0, a1, a2, a3, a4] + val [b0, b1, b2, b3, b4] := by
    simp only [val, List.getD_cons_zero, List.getD_cons_succ]; omega
  unfold Cg
  rw [← this, ← hq, Nat.add_mul_mod_self_left]

theorem subW (x y : W) (h : y.toNat ≤ x.toNat) : (x - y).toNat = x.toNat - y.toNat := by
  rw [BitVec.toNat_sub]; have := x.isLt; have := y.isLt; omega

theorem minus_val (a b : List W) (ha : Small a) (hb : Small b) : Tight (minus a b) ∧ Cg (val (minus a b) + val b) (val a) := by
  obtain ⟨a0, a1, a2, a3, a4, rfl⟩ := five a ha.1
  obtain ⟨b0, b1, b2, b3, b4, rfl⟩ := five b hb.1
  have h0 := ha.2 0 (by omega); have h1 := ha.2 1 (by omega); have h2 := ha.2 2 (by omega); have h3 := ha.2 3 (by omega); have h4 := ha.2 4 (by omega)
  have g0 := hb.2 0 (by omega); have g1 := hb.2 1 (by omega); have g2 := hb.2 2 (by omega); have g3 := hb.2 3 (by omega); have g4 := hb.2 4 (by omega)
  simp only [List.getD_cons_zero, List.getD_cons_succ] at h0 h1 h2 h3 h4 g0 g1 g2 g3 g4
  have c1 : (9007199254740916 : W).toNat = 9007199254740916 := rfl
  have c2 : (9007199254740988 : W).toNat = 9007199254740988 := rfl
  have d0 := subW 9007199254740916 b0 (by omega); have d1 := subW 9007199254740988 b1 (by omega); have d2 := subW 9007199254740988 b2 (by omega); have d3 := subW 9007199254740988 b3 (by omega); have d4 := subW 9007199254740988 b4 (by omega)
  have e : minusTo [a0, a1, a2, a3, a4] [b0, b1, b2, b3, b4] 5 = [a0 + (9007199254740916 - b0), a1 + (9007199254740988 - b1), a2 + (9007199254740988 - b2), a3 + (9007199254740988 - b3), a4 + (9007199254740988 - b4)] := rfl
  unfold minus
  rw [e]
  rw [c1] at d0; rw [c2] at d1 d2 d3 d4
  generalize (9007199254740916 : W) - b0 = n0 at *
  generalize (9007199254740988 : W) - b1 = n1 at *
  generalize (9007199254740988 : W) - b2 = n2 at *
  generalize (9007199254740988 : W) - b3 = n3 at *
  generalize (9007199254740988 : W) - b4 = n4 at *
  have s0 := addW a0 n0 (by omega); have s1 := addW a1 n1 (by omega); have s2 := addW a2 n2 (by omega); have s3 := addW a3 n3 (by omega); have s4 := addW a4 n4 (by omega)
  obtain ⟨ht, q, hq⟩ := carried_val [a0 + n0, a1 + n1, a2 + n2, a3 + n3, a4 + n4] ⟨rfl, fun k hk => by
    obtain rfl | rfl | rfl | rfl | rfl : k = 0 ∨ k = 1 ∨ k = 2 ∨ k = 3 ∨ k = 4 := by omega
    all_goals simp only [List.getD_cons_zero, List.getD_cons_succ]; omega⟩
  refine ⟨ht, ?_⟩
  have : val [a0 + n0, a1 + n1, a2 + n2, a3 + n3, a4 + n4] + val [b0, b1, b2, b3, b4] = val [a0, a1, a2, a3, a4] + P * 4 := by
    simp only [val, List.getD_cons_zero, List.getD_cons_succ, P]; omega
  have h5 : val [a0 + n0, a1 + n1, a2 + n2, a3 + n3, a4 + n4] + val [b0, b1, b2, b3, b4] = val (carried [a0 + n0, a1 + n1, a2 + n2, a3 + n3, a4 + n4]) + val [b0, b1, b2, b3, b4] + P * q := by omega
  unfold Cg
  rw [← Nat.add_mul_mod_self_left _ P q, ← h5, this, Nat.add_mul_mod_self_left]

theorem swap_zero (a b : List W) (ha : a.length = 5) (hb : b.length = 5) : swap 0 a b = (a, b) := by
  obtain ⟨a0, a1, a2, a3, a4, rfl⟩ := five a ha
  obtain ⟨b0, b1, b2, b3, b4, rfl⟩ := five b hb
  have e : swap 0 [a0, a1, a2, a3, a4] [b0, b1, b2, b3, b4] = ([a0 ^^^ (-0 &&& (a0 ^^^ b0)), a1 ^^^ (-0 &&& (a1 ^^^ b1)), a2 ^^^ (-0 &&& (a2 ^^^ b2)), a3 ^^^ (-0 &&& (a3 ^^^ b3)), a4 ^^^ (-0 &&& (a4 ^^^ b4))], [b0 ^^^ (-0 &&& (a0 ^^^ b0)), b1 ^^^ (-0 &&& (a1 ^^^ b1)), b2 ^^^ (-0 &&& (a2 ^^^ b2)), b3 ^^^ (-0 &&& (a3 ^^^ b3)), b4 ^^^ (-0 &&& (a4 ^^^ b4))]) := rfl
  rw [e]
  simp
theorem swap_one (a b : List W) (ha : a.length = 5) (hb : b.length = 5) : swap 1 a b = (b, a) := by
  obtain ⟨a0, a1, a2, a3, a4, rfl⟩ := five a ha
  obtain ⟨b0, b1, b2, b3, b4, rfl⟩ := five b hb
  have e : swap 1 [a0, a1, a2, a3, a4] [b0, b1, b2, b3, b4] = ([a0 ^^^ (-1 &&& (a0 ^^^ b0)), a1 ^^^ (-1 &&& (a1 ^^^ b1)), a2 ^^^ (-1 &&& (a2 ^^^ b2)), a3 ^^^ (-1 &&& (a3 ^^^ b3)), a4 ^^^ (-1 &&& (a4 ^^^ b4))], [b0 ^^^ (-1 &&& (a0 ^^^ b0)), b1 ^^^ (-1 &&& (a1 ^^^ b1)), b2 ^^^ (-1 &&& (a2 ^^^ b2)), b3 ^^^ (-1 &&& (a3 ^^^ b3)), b4 ^^^ (-1 &&& (a4 ^^^ b4))]) := rfl
  have n1 : (-1 : W) = BitVec.allOnes 64 := by decide
  have k1 : ∀ x y : W, x ^^^ (-1 &&& (x ^^^ y)) = y := fun x y => by rw [n1, BitVec.allOnes_and, ← BitVec.xor_assoc, BitVec.xor_self, BitVec.zero_xor]
  have k2 : ∀ x y : W, y ^^^ (-1 &&& (x ^^^ y)) = x := fun x y => by rw [BitVec.xor_comm x y]; exact k1 y x
  rw [e]
  simp only [k1, k2]
end Ff
end Go.Proofs.YtclpbaokadfhhaaGreatDoor

namespace Go.Proofs.YtclpbaokadfhhaaGreatDoor

namespace Ff
/-- a number of 128 bits as two words -/
def hi (n : Nat) : W := BitVec.ofNat 64 (n / 18446744073709551616)
def lo (n : Nat) : W := BitVec.ofNat 64 n
def wplus (n : Nat) (a b : W) : Nat := (n + a.toNat * b.toNat) % 340282366920938463463374607431768211456
def flat : List Nat → List W
  | [] => []
  | n :: l => hi n :: lo n :: flat l
theorem flat_length (l : List Nat) : (flat l).length = 2 * l.length := by
  induction l with
  | nil => rfl
  | cons n l ih => simp [flat, ih]; omega
def tstep (s : List Nat) (a b : List W) (i j : Nat) : List Nat :=
  if i + j < 5 then s.set (i + j) (wplus (s.getD (i + j) 0) (a.getD i 0) (b.getD j 0)) else s.set (i + j - 5) (wplus (s.getD (i + j - 5) 0) (a.getD i 0) (19 * b.getD j 0))
theorem tstep_length (s : List Nat) (a b : List W) (i j : Nat) : (tstep s a b i j).length = s.length := by
  unfold tstep; split <;> simp
def rowT (a b : List W) (s : List Nat) (i : Nat) : Nat → List Nat
  | 0 => s
  | j + 1 => tstep (rowT a b s i j) a b i j
theorem rowT_length (a b : List W) (s : List Nat) (i j : Nat) : (rowT a b s i j).length = s.length := by
  induction j with
  | zero => rfl
  | succ j ih => simp [rowT, tstep_length, ih]
def timesTo (a b : List W) : Nat → List Nat
  | 0 => [0, 0, 0, 0, 0]
  | i + 1 => rowT a b (timesTo a b i) i 5
theorem timesTo_length (a b : List W) (i : Nat) : (timesTo a b i).length = 5 := by
  induction i with
  | zero => rfl
  | succ i ih => simp [timesTo, rowT_length, ih]
/-- what is over behind one sum, with what was over ahead of it -/
def overN (n : Nat) (o : W) : W := ((hi n + BitVec.ofNat 64 (((lo n).toNat + o.toNat) / 18446744073709551616)) <<< 13) ||| ((lo n + o) >>> 51)
def narTo (s : List Nat) : Nat → List W × W
  | 0 => ([0, 0, 0, 0, 0], 0)
  | k + 1 => ((narTo s k).1.set k ((lo (s.getD k 0) + (narTo s k).2) &&& M51), overN (s.getD k 0) (narTo s k).2)
theorem narTo_length (s : List Nat) (k : Nat) : (narTo s k).1.length = 5 := by
  induction k with
  | zero => rfl
  | succ k ih => simp [narTo, ih]
def narrow (s : List Nat) : List W := carried ((narTo s 5).1.set 0 ((narTo s 5).1.getD 0 0 + 19 * (narTo s 5).2))
theorem narrow_length (s : List Nat) : (narrow s).length = 5 := by simp [narrow, carried_length, narTo_length]
def times (a b : List W) : List W := narrow (timesTo a b 5)
theorem times_length (a b : List W) : (times a b).length = 5 := narrow_length _

theorem overN_val (n : Nat) (o : W) (hn : n < 20769187434139310514121985316880384) (ho : o.toNat < 18446744073709551616) : (overN n o).toNat = (n + o.toNat) / 2251799813685248 := by
  unfold overN
  have h1 : (hi n).toNat = n / 18446744073709551616 := by unfold hi; rw [BitVec.toNat_ofNat, Nat.mod_eq_of_lt (by omega)]
  have h2 : (lo n).toNat = n % 18446744073709551616 := by unfold lo; rw [BitVec.toNat_ofNat]
  have h3 : (lo n + o).toNat = (n + o.toNat) % 18446744073709551616 := by rw [BitVec.toNat_add, h2]; omega
  have h4 : (BitVec.ofNat 64 (((lo n).toNat + o.toNat) / 18446744073709551616)).toNat = ((lo n).toNat + o.toNat) / 18446744073709551616 := by
    rw [BitVec.toNat_ofNat, Nat.mod_eq_of_lt (by omega)]
  have h5 : (hi n + BitVec.ofNat 64 (((lo n).toNat + o.toNat) / 18446744073709551616)).toNat = (n + o.toNat) / 18446744073709551616 := by
    rw [addW _ _ (by omega), h1, h4, h2]; omega
  rw [BitVec.toNat_or, BitVec.toNat_shiftLeft, h5, shr51, h3]
  have h6 : (n + o.toNat) % 18446744073709551616 / 2251799813685248 < 2 ^ 13 := by omega
  have h7 : ((n + o.toNat) / 18446744073709551616) <<< 13 % 2 ^ 64 = ((n + o.toNat) / 18446744073709551616) <<< 13 := by
    rw [Nat.shiftLeft_eq]; omega
  rw [h7, ← Nat.shiftLeft_add_eq_or_of_lt h6, Nat.shiftLeft_eq]
  omega

theorem outN_val (n : Nat) (o : W) : ((lo n + o) &&& M51).toNat = (n + o.toNat) % 2251799813685248 := by
  have h2 : (lo n).toNat = n % 18446744073709551616 := by unfold lo; rw [BitVec.toNat_ofNat]
  rw [and51, BitVec.toNat_add, h2]; omega

def valN (s : List Nat) : Nat := s.getD 0 0 + 2251799813685248 * s.getD 1 0 + 5070602400912917605986812821504 * s.getD 2 0 + 11417981541647679048466287755595961091061972992 * s.getD 3 0 + 25711008708143844408671393477458601640355247900524685364822016 * s.getD 4 0

theorem narrow_val (n0 n1 n2 n3 n4 : Nat) (h0 : n0 < 10384593717069655257060992658440192) (h1 : n1 < 10384593717069655257060992658440192) (h2 : n2 < 10384593717069655257060992658440192) (h3 : n3 < 10384593717069655257060992658440192) (h4 : n4 < 162259276829213363391578010288128) :
    Tight (narrow [n0, n1, n2, n3, n4]) ∧ val (narrow [n0, n1, n2, n3, n4]) % P = valN [n0, n1, n2, n3, n4] % P := by
  have e : narTo [n0, n1, n2, n3, n4] 5 = ([(lo n0 + 0) &&& M51, (lo n1 + overN n0 0) &&& M51, (lo n2 + overN n1 (overN n0 0)) &&& M51, (lo n3 + overN n2 (overN n1 (overN n0 0))) &&& M51, (lo n4 + overN n3 (overN n2 (overN n1 (overN n0 0)))) &&& M51], overN n4 (overN n3 (overN n2 (overN n1 (overN n0 0))))) := rfl
  unfold narrow
  rw [e]
  have z : (0 : W).toNat = 0 := rfl
  have v0 := overN_val n0 0 (by omega) (by omega)
  have m0 := outN_val n0 0
  generalize overN n0 0 = o1 at *
  have v1 := overN_val n1 o1 (by omega) (by omega)
  have m1 := outN_val n1 o1
  generalize overN n1 o1 = o2 at *
  have v2 := overN_val n2 o2 (by omega) (by omega)
  have m2 := outN_val n2 o2
  generalize overN n2 o2 = o3 at *
  have v3 := overN_val n3 o3 (by omega) (by omega)
  have m3 := outN_val n3 o3
  generalize overN n3 o3 = o4 at *
  have v4 := overN_val n4 o4 (by omega) (by omega)
  have m4 := outN_val n4 o4
  generalize overN n4 o4 = o5 at *
  generalize (lo n0 + 0) &&& M51 = y0 at *
  generalize (lo n1 + o1) &&& M51 = y1 at *
  generalize (lo n2 + o2) &&& M51 = y2 at *
  generalize (lo n3 + o3) &&& M51 = y3 at *
  generalize (lo n4 + o4) &&& M51 = y4 at *
  rw [z] at v0 m0
  have s := mul19 o5 (by omega)
  have s0 : (y0 + 19 * o5).toNat = y0.toNat + (19 * o5).toNat := addW _ _ (by omega)
  have e2 : [y0, y1, y2, y3, y4].set 0 ([y0, y1, y2, y3, y4].getD 0 0 + 19 * o5) = [y0 + 19 * o5, y1, y2, y3, y4] := rfl
  show Tight (carried ([y0, y1, y2, y3, y4].set 0 ([y0, y1, y2, y3, y4].getD 0 0 + 19 * o5))) ∧ _
  rw [e2]
  obtain ⟨ht, q, hq⟩ := carried_val [y0 + 19 * o5, y1, y2, y3, y4] ⟨rfl, fun k hk => by
    obtain rfl | rfl | rfl | rfl | rfl : k = 0 ∨ k = 1 ∨ k = 2 ∨ k = 3 ∨ k = 4 := by omega
    all_goals simp only [List.getD_cons_zero, List.getD_cons_succ]; omega⟩
  refine ⟨ht, ?_⟩
  show val (carried [y0 + 19 * o5, y1, y2, y3, y4]) % P = _
  have : val [y0 + 19 * o5, y1, y2, y3, y4] + P * o5.toNat = valN [n0, n1, n2, n3, n4] := by
    simp only [val, valN, List.getD_cons_zero, List.getD_cons_succ, P]; omega
  rw [← this, ← hq, Nat.add_mul_mod_self_left, Nat.add_mul_mod_self_left]

theorem prod5 (x0 x1 x2 x3 x4 y0 y1 y2 y3 y4 B : Nat) :
    (x0 + B * x1 + B * B * x2 + B * B * B * x3 + B * B * B * B * x4) * (y0 + B * y1 + B * B * y2 + B * B * B * y3 + B * B * B * B * y4) =
      x0 * y0 + B * (x0 * y1 + x1 * y0) + B * B * (x0 * y2 + x1 * y1 + x2 * y0) + B * B * B * (x0 * y3 + x1 * y2 + x2 * y1 + x3 * y0) + B * B * B * B * (x0 * y4 + x1 * y3 + x2 * y2 + x3 * y1 + x4 * y0) + B * B * B * B * B * ((x1 * y4 + x2 * y3 + x3 * y2 + x4 * y1) + B * (x2 * y4 + x3 * y3 + x4 * y2) + B * B * (x3 * y4 + x4 * y3) + B * B * B * (x4 * y4)) := by
  grind

theorem mul_lt52 {x y m n : Nat} (hx : x < m) (hy : y < n) : x * y < m * n := by
  rcases Nat.eq_zero_or_pos x with h | h
  · subst h; rw [Nat.zero_mul]; exact Nat.mul_pos (by omega) (by omega)
  · exact Nat.mul_lt_mul_of_lt_of_le hx (Nat.le_of_lt hy) (by omega)

theorem row0 (a0 a1 a2 a3 a4 b0 b1 b2 b3 b4 : W) (s0 s1 s2 s3 s4 : Nat) : rowT [a0, a1, a2, a3, a4] [b0, b1, b2, b3, b4] [s0, s1, s2, s3, s4] 0 5 = [wplus s0 a0 b0, wplus s1 a0 b1, wplus s2 a0 b2, wplus s3 a0 b3, wplus s4 a0 b4] := rfl
theorem row1 (a0 a1 a2 a3 a4 b0 b1 b2 b3 b4 : W) (s0 s1 s2 s3 s4 : Nat) : rowT [a0, a1, a2, a3, a4] [b0, b1, b2, b3, b4] [s0, s1, s2, s3, s4] 1 5 = [wplus s0 a1 (19 * b4), wplus s1 a1 b0, wplus s2 a1 b1, wplus s3 a1 b2, wplus s4 a1 b3] := rfl
theorem row2 (a0 a1 a2 a3 a4 b0 b1 b2 b3 b4 : W) (s0 s1 s2 s3 s4 : Nat) : rowT [a0, a1, a2, a3, a4] [b0, b1, b2, b3, b4] [s0, s1, s2, s3, s4] 2 5 = [wplus s0 a2 (19 * b3), wplus s1 a2 (19 * b4), wplus s2 a2 b0, wplus s3 a2 b1, wplus s4 a2 b2] := rfl
theorem row3 (a0 a1 a2 a3 a4 b0 b1 b2 b3 b4 : W) (s0 s1 s2 s3 s4 : Nat) : rowT [a0, a1, a2, a3, a4] [b0, b1, b2, b3, b4] [s0, s1, s2, s3, s4] 3 5 = [wplus s0 a3 (19 * b2), wplus s1 a3 (19 * b3), wplus s2 a3 (19 * b4), wplus s3 a3 b0, wplus s4 a3 b1] := rfl
theorem row4 (a0 a1 a2 a3 a4 b0 b1 b2 b3 b4 : W) (s0 s1 s2 s3 s4 : Nat) : rowT [a0, a1, a2, a3, a4] [b0, b1, b2, b3, b4] [s0, s1, s2, s3, s4] 4 5 = [wplus s0 a4 (19 * b1), wplus s1 a4 (19 * b2), wplus s2 a4 (19 * b3), wplus s3 a4 (19 * b4), wplus s4 a4 b0] := rfl
theorem timesTo5 (a0 a1 a2 a3 a4 b0 b1 b2 b3 b4 : W) : timesTo [a0, a1, a2, a3, a4] [b0, b1, b2, b3, b4] 5 =
     [wplus (wplus (wplus (wplus (wplus 0 a0 b0) a1 (19 * b4)) a2 (19 * b3)) a3 (19 * b2)) a4 (19 * b1),
      wplus (wplus (wplus (wplus (wplus 0 a0 b1) a1 b0) a2 (19 * b4)) a3 (19 * b3)) a4 (19 * b2),
      wplus (wplus (wplus (wplus (wplus 0 a0 b2) a1 b1) a2 b0) a3 (19 * b4)) a4 (19 * b3),
      wplus (wplus (wplus (wplus (wplus 0 a0 b3) a1 b2) a2 b1) a3 b0) a4 (19 * b4),
      wplus (wplus (wplus (wplus (wplus 0 a0 b4) a1 b3) a2 b2) a3 b1) a4 b0] := by
  simp only [timesTo, row0, row1, row2, row3, row4]

set_option maxRecDepth 100000 in
set_option maxHeartbeats 1000000 in
theorem times_val (a b : List W) (ha : Small a) (hb : Small b) : Tight (times a b) ∧ Cg (val (times a b)) (val a * val b) := by
  obtain ⟨a0, a1, a2, a3, a4, rfl⟩ := five a ha.1
  obtain ⟨b0, b1, b2, b3, b4, rfl⟩ := five b hb.1
  have h0 := ha.2 0 (by omega); have h1 := ha.2 1 (by omega); have h2 := ha.2 2 (by omega); have h3 := ha.2 3 (by omega); have h4 := ha.2 4 (by omega)
  have g0 := hb.2 0 (by omega); have g1 := hb.2 1 (by omega); have g2 := hb.2 2 (by omega); have g3 := hb.2 3 (by omega); have g4 := hb.2 4 (by omega)
  simp only [List.getD_cons_zero, List.getD_cons_succ] at h0 h1 h2 h3 h4 g0 g1 g2 g3 g4
  unfold times
  rw [timesTo5]
  have k1 := mul19 b1 (by omega); have k2 := mul19 b2 (by omega); have k3 := mul19 b3 (by omega); have k4 := mul19 b4 (by omega)
  simp only [wplus, k1, k2, k3, k4, Nat.mul_left_comm _ 19 _]
  have pr := prod5 a0.toNat a1.toNat a2.toNat a3.toNat a4.toNat b0.toNat b1.toNat b2.toNat b3.toNat b4.toNat 2251799813685248
  have q00 := mul_lt52 h0 g0; have q01 := mul_lt52 h0 g1; have q02 := mul_lt52 h0 g2; have q03 := mul_lt52 h0 g3; have q04 := mul_lt52 h0 g4
  have q10 := mul_lt52 h1 g0; have q11 := mul_lt52 h1 g1; have q12 := mul_lt52 h1 g2; have q13 := mul_lt52 h1 g3; have q14 := mul_lt52 h1 g4
  have q20 := mul_lt52 h2 g0; have q21 := mul_lt52 h2 g1; have q22 := mul_lt52 h2 g2; have q23 := mul_lt52 h2 g3; have q24 := mul_lt52 h2 g4
  have q30 := mul_lt52 h3 g0; have q31 := mul_lt52 h3 g1; have q32 := mul_lt52 h3 g2; have q33 := mul_lt52 h3 g3; have q34 := mul_lt52 h3 g4
  have q40 := mul_lt52 h4 g0; have q41 := mul_lt52 h4 g1; have q42 := mul_lt52 h4 g2; have q43 := mul_lt52 h4 g3; have q44 := mul_lt52 h4 g4
  simp only [Nat.reduceMul] at pr
  unfold Cg
  rw [show val [a0, a1, a2, a3, a4] * val [b0, b1, b2, b3, b4] = _ by simp only [val, List.getD_cons_zero, List.getD_cons_succ]; exact pr]
  clear pr k1 k2 k3 k4 h0 h1 h2 h3 h4 g0 g1 g2 g3 g4 ha hb
  generalize a0.toNat * b0.toNat = p00 at *
  generalize a0.toNat * b1.toNat = p01 at *
  generalize a0.toNat * b2.toNat = p02 at *
  generalize a0.toNat * b3.toNat = p03 at *
  generalize a0.toNat * b4.toNat = p04 at *
  generalize a1.toNat * b0.toNat = p10 at *
  generalize a1.toNat * b1.toNat = p11 at *
  generalize a1.toNat * b2.toNat = p12 at *
  generalize a1.toNat * b3.toNat = p13 at *
  generalize a1.toNat * b4.toNat = p14 at *
  generalize a2.toNat * b0.toNat = p20 at *
  generalize a2.toNat * b1.toNat = p21 at *
  generalize a2.toNat * b2.toNat = p22 at *
  generalize a2.toNat * b3.toNat = p23 at *
  generalize a2.toNat * b4.toNat = p24 at *
  generalize a3.toNat * b0.toNat = p30 at *
  generalize a3.toNat * b1.toNat = p31 at *
  generalize a3.toNat * b2.toNat = p32 at *
  generalize a3.toNat * b3.toNat = p33 at *
  generalize a3.toNat * b4.toNat = p34 at *
  generalize a4.toNat * b0.toNat = p40 at *
  generalize a4.toNat * b1.toNat = p41 at *
  generalize a4.toNat * b2.toNat = p42 at *
  generalize a4.toNat * b3.toNat = p43 at *
  generalize a4.toNat * b4.toNat = p44 at *
  have E0 : (((((0 + p00) % 340282366920938463463374607431768211456 + 19 * p14) % 340282366920938463463374607431768211456 + 19 * p23) % 340282366920938463463374607431768211456 + 19 * p32) % 340282366920938463463374607431768211456 + 19 * p41) % 340282366920938463463374607431768211456 = p00 + 19 * p14 + 19 * p23 + 19 * p32 + 19 * p41 := by omega
  have E1 : (((((0 + p01) % 340282366920938463463374607431768211456 + p10) % 340282366920938463463374607431768211456 + 19 * p24) % 340282366920938463463374607431768211456 + 19 * p33) % 340282366920938463463374607431768211456 + 19 * p42) % 340282366920938463463374607431768211456 = p01 + p10 + 19 * p24 + 19 * p33 + 19 * p42 := by omega
  have E2 : (((((0 + p02) % 340282366920938463463374607431768211456 + p11) % 340282366920938463463374607431768211456 + p20) % 340282366920938463463374607431768211456 + 19 * p34) % 340282366920938463463374607431768211456 + 19 * p43) % 340282366920938463463374607431768211456 = p02 + p11 + p20 + 19 * p34 + 19 * p43 := by omega
  have E3 : (((((0 + p03) % 340282366920938463463374607431768211456 + p12) % 340282366920938463463374607431768211456 + p21) % 340282366920938463463374607431768211456 + p30) % 340282366920938463463374607431768211456 + 19 * p44) % 340282366920938463463374607431768211456 = p03 + p12 + p21 + p30 + 19 * p44 := by omega
  have E4 : (((((0 + p04) % 340282366920938463463374607431768211456 + p13) % 340282366920938463463374607431768211456 + p22) % 340282366920938463463374607431768211456 + p31) % 340282366920938463463374607431768211456 + p40) % 340282366920938463463374607431768211456 = p04 + p13 + p22 + p31 + p40 := by omega
  rw [E0, E1, E2, E3, E4]
  obtain ⟨ht, hv⟩ := narrow_val (p00 + 19 * p14 + 19 * p23 + 19 * p32 + 19 * p41) (p01 + p10 + 19 * p24 + 19 * p33 + 19 * p42) (p02 + p11 + p20 + 19 * p34 + 19 * p43) (p03 + p12 + p21 + p30 + 19 * p44) (p04 + p13 + p22 + p31 + p40) (by omega) (by omega) (by omega) (by omega) (by omega)
  refine ⟨ht, ?_⟩
  have key : valN [p00 + 19 * p14 + 19 * p23 + 19 * p32 + 19 * p41, p01 + p10 + 19 * p24 + 19 * p33 + 19 * p42, p02 + p11 + p20 + 19 * p34 + 19 * p43, p03 + p12 + p21 + p30 + 19 * p44, p04 + p13 + p22 + p31 + p40] + P * (p14 + p23 + p32 + p41 + 2251799813685248 * (p24 + p33 + p42) + 5070602400912917605986812821504 * (p34 + p43) + 11417981541647679048466287755595961091061972992 * p44) = p00 + 2251799813685248 * (p01 + p10) + 5070602400912917605986812821504 * (p02 + p11 + p20) + 11417981541647679048466287755595961091061972992 * (p03 + p12 + p21 + p30) + 25711008708143844408671393477458601640355247900524685364822016 * (p04 + p13 + p22 + p31 + p40) + 57896044618658097711785492504343953926634992332820282019728792003956564819968 * (p14 + p23 + p32 + p41 + 2251799813685248 * (p24 + p33 + p42) + 5070602400912917605986812821504 * (p34 + p43) + 11417981541647679048466287755595961091061972992 * p44) := by
    simp only [valN, List.getD_cons_zero, List.getD_cons_succ, P]
    omega
  rw [hv, ← key, Nat.add_mul_mod_self_left]

/-- to the power of 2^n -/
def squares (a : List W) : Nat → List W
  | 0 => a
  | n + 1 => times (squares a n) (squares a n)
theorem squares_length (a : List W) (ha : a.length = 5) (n : Nat) : (squares a n).length = 5 := by
  cases n with
  | zero => exact ha
  | succ n => exact times_length _ _
theorem squares_val (a : List W) (ha : Small a) : ∀ (n e : Nat), e = 2 ^ n → Small (squares a n) ∧ Cg (val (squares a n)) (val a ^ e)
  | 0, e, he => ⟨ha, .of_eq (by rw [he]; simp [squares])⟩
  | n + 1, e, he => by
    obtain ⟨f, hf⟩ : ∃ f, f = 2 ^ n := ⟨_, rfl⟩
    have ih := squares_val a ha n f hf
    obtain ⟨h1, h2⟩ := times_val _ _ ih.1 ih.1
    have he2 : e = f + f := by rw [he, hf, Nat.pow_succ, Nat.mul_two]
    clear he hf
    subst he2
    refine ⟨h1.small, Cg.trans h2 ?_⟩
    rw [Nat.pow_add]
    exact Cg.mul ih.2 ih.2
/-- to the power of 2^n - 1 -/
def onesStep (a h : List W) (n : Nat) : List W :=
  if n % 2 = 1 then times (times (times (squares h (n / 2)) h) (times (squares h (n / 2)) h)) a else times (squares h (n / 2)) h
def ones (a : List W) : Nat → Nat → List W
  | 0, _ => a
  | f + 1, n => if n = 1 then a else onesStep a (ones a f (n / 2)) n
theorem two_parts (n : Nat) : 2 ^ n = 2 ^ (n / 2) * 2 ^ (n / 2) * 2 ^ (n % 2) := by
  rw [← Nat.pow_add, ← Nat.pow_add, show n / 2 + n / 2 + n % 2 = n by omega]
theorem onesStep_val (a h : List W) (n f e : Nat) (ha : Small a) (hh : Small h) (hf : f + 1 = 2 ^ (n / 2)) (he : e + 1 = 2 ^ n) (hv : Cg (val h) (val a ^ f)) : Small (onesStep a h n) ∧ Cg (val (onesStep a h n)) (val a ^ e) := by
  obtain ⟨s2, v2⟩ := squares_val h hh (n / 2) (f + 1) hf
  obtain ⟨s3, v3⟩ := times_val _ _ s2 hh
  have v4 : Cg (val (times (squares h (n / 2)) h)) (val a ^ (f * (f + 1) + f)) := by
    rw [Nat.pow_add, Nat.pow_mul]
    exact Cg.trans v3 (Cg.mul (Cg.trans v2 (hv.pow (f + 1))) hv)
  have hn := two_parts n
  rw [← hf, ← he] at hn
  unfold onesStep
  generalize times (squares h (n / 2)) h = t at *
  have hm : f * (f + 1) + f + 1 = (f + 1) * (f + 1) := by rw [Nat.add_mul f 1 (f + 1)]; omega
  generalize f * (f + 1) + f = m at *
  rw [← hm] at hn
  split
  · rename_i h5
    rw [h5] at hn
    obtain ⟨s5, v5⟩ := times_val _ _ s3.small s3.small
    obtain ⟨s6, v6⟩ := times_val _ _ s5.small ha
    have hem : e = m + m + 1 := by omega
    refine ⟨s6.small, Cg.trans v6 ?_⟩
    rw [hem, Nat.pow_succ, Nat.pow_add]
    exact Cg.mul (Cg.trans v5 (Cg.mul v4 v4)) (Cg.refl _)
  · rename_i h5
    rw [show n % 2 = 0 by omega] at hn
    have hem : e = m := by omega
    rw [hem]
    exact ⟨s3.small, v4⟩
theorem ones_val (a : List W) (ha : Small a) : ∀ (k n e : Nat), 1 ≤ n → n ≤ k → e + 1 = 2 ^ n → Small (ones a k n) ∧ Cg (val (ones a k n)) (val a ^ e)
  | 0, n, e, h1, h2, _ => by omega
  | k + 1, n, e, h1, h2, he => by
    unfold ones
    by_cases e1 : n = 1
    · subst e1; rw [if_pos rfl]
      have : e = 1 := by omega
      subst this
      exact ⟨ha, .of_eq (by rw [Nat.pow_one])⟩
    · rw [if_neg e1]
      obtain ⟨f, hf⟩ : ∃ f, f + 1 = 2 ^ (n / 2) := ⟨2 ^ (n / 2) - 1, by have := Nat.two_pow_pos (n / 2); omega⟩
      obtain ⟨s1, v1⟩ := ones_val a ha k (n / 2) f (by omega) (by omega) hf
      exact onesStep_val a _ n f e ha s1 hf he v1
theorem ones_length (a : List W) (ha : a.length = 5) : ∀ (f n : Nat), (ones a f n).length = 5
  | 0, _ => ha
  | f + 1, n => by
    unfold ones onesStep
    split
    · exact ha
    · split <;> exact times_length _ _
def inverse (a : List W) : List W := times (squares (ones a 250 250) 5) (times (times (squares a 3) (squares a 1)) a)
theorem inverse_length (a : List W) : (inverse a).length = 5 := times_length _ _
theorem inverse_val (a : List W) (ha : Small a) (e : Nat) (he : e + 2 = P) : Tight (inverse a) ∧ Cg (val (inverse a)) (val a ^ e) := by
  obtain ⟨f, hf⟩ : ∃ f : Nat, f + 1 = 2 ^ 250 := ⟨1809251394333065553493296640760748560207343510400633813116524750123642650623, rfl⟩
  obtain ⟨s1, v1⟩ := ones_val a ha 250 250 f (by omega) (by omega) hf
  obtain ⟨s2, v2⟩ := squares_val _ s1 5 32 rfl
  obtain ⟨s3, v3⟩ := squares_val a ha 3 8 rfl
  obtain ⟨s4, v4⟩ := squares_val a ha 1 2 rfl
  obtain ⟨s5, v5⟩ := times_val _ _ s3 s4
  obtain ⟨s6, v6⟩ := times_val _ _ s5.small ha
  obtain ⟨s7, v7⟩ := times_val _ _ s2 s6.small
  have h2 : e = f * 32 + (8 + 2 + 1) := by unfold P at he; omega
  rw [h2, Nat.pow_add, Nat.pow_mul, Nat.pow_succ _ (8 + 2), Nat.pow_add _ 8 2]
  exact ⟨s7, Cg.trans v7 (Cg.mul (Cg.trans v2 (v1.pow 32)) (Cg.trans v6 (Cg.mul (Cg.trans v5 (Cg.mul v3 v4)) (Cg.refl _))))⟩
end Ff
end Go.Proofs.YtclpbaokadfhhaaGreatDoor
