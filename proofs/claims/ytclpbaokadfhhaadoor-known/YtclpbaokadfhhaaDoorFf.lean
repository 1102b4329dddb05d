/- Numbers modulo p as five words of 51 bits: exact functions, and what they are worth: plain lists, no program. -/
import Derived.Test.YtclpbaokadfhhaaDoorMb
namespace Go.Proofs.YtclpbaokadfhhaaDoor

namespace Ff
abbrev W := BitVec 64
def P : Nat := 57896044618658097711785492504343953926634992332820282019728792003956564819949
def M51 : W := 2251799813685247

/-- the same modulo p -/
def Cg (a b : Nat) : Prop := a % P = b % P
theorem Cg.refl (a : Nat) : Cg a a := rfl
theorem Cg.symm {a b : Nat} (h : Cg a b) : Cg b a := Eq.symm h
theorem Cg.trans {a b c : Nat} (h : Cg a b) (h' : Cg b c) : Cg a c := Eq.trans h h'
theorem Cg.of_eq {a b : Nat} (h : a = b) : Cg a b := by rw [h]; rfl
theorem Cg.add {a b c d : Nat} (h : Cg a b) (h' : Cg c d) : Cg (a + c) (b + d) := by
  unfold Cg at *; rw [Nat.add_mod, h, h', ← Nat.add_mod]
theorem Cg.mul {a b c d : Nat} (h : Cg a b) (h' : Cg c d) : Cg (a * c) (b * d) := by
  unfold Cg at *; rw [Nat.mul_mod, h, h', ← Nat.mul_mod]
theorem Cg.pow {a b : Nat} (h : Cg a b) (n : Nat) : Cg (a ^ n) (b ^ n) := by
  unfold Cg at *; rw [Nat.pow_mod, h, ← Nat.pow_mod]


theorem five (l : List W) (h : l.length = 5) : ∃ x0 x1 x2 x3 x4, l = [x0, x1, x2, x3, x4] := by
  match l, h with
  | [x0, x1, x2, x3, x4], _ => exact ⟨x0, x1, x2, x3, x4, rfl⟩

/-- the parts, of which the first k were carried, and what is over -/
def carTo (a : List W) (o : W) : Nat → List W × W
  | 0 => (a, o)
  | k + 1 => (((carTo a o k).1.set k ((carTo a o k).1.getD k 0 + (carTo a o k).2)).set k (((carTo a o k).1.getD k 0 + (carTo a o k).2) &&& M51), ((carTo a o k).1.getD k 0 + (carTo a o k).2) >>> 51)
theorem carTo_length (a : List W) (o : W) (k : Nat) : (carTo a o k).1.length = a.length := by
  induction k with
  | zero => rfl
  | succ k ih => simp [carTo, ih]
def carry (a : List W) (o : W) : List W × W := carTo a o 5
/-- what is over, 19 times, to the lowest part -/
def carEnd (l : List W) (o : W) : List W :=
  ((l.set 0 (l.getD 0 0 + 19 * o)).set 1 (l.getD 1 0 + (l.getD 0 0 + 19 * o) >>> 51)).set 0 ((l.getD 0 0 + 19 * o) &&& M51)
def carried (a : List W) : List W := carEnd (carry a 0).1 (carry a 0).2
theorem carried_length (a : List W) : (carried a).length = a.length := by simp [carried, carry, carEnd, carTo_length]
def lowest (a : List W) : List W := (carry (carried a) (19 * (carry (carried a) 19).2)).1
theorem lowest_length (a : List W) : (lowest a).length = a.length := by simp [lowest, carry, carTo_length, carried_length]
def plusTo (a b : List W) : Nat → List W
  | 0 => a
  | k + 1 => (plusTo a b k).set k ((plusTo a b k).getD k 0 + b.getD k 0)
theorem plusTo_length (a b : List W) (k : Nat) : (plusTo a b k).length = a.length := by
  induction k with
  | zero => rfl
  | succ k ih => simp [plusTo, ih]
def plus (a b : List W) : List W := carried (plusTo a b 5)
theorem plus_length (a b : List W) : (plus a b).length = a.length := by simp [plus, carried_length, plusTo_length]
def four : List W := [9007199254740916, 9007199254740988, 9007199254740988, 9007199254740988, 9007199254740988]
def minusTo (a b : List W) : Nat → List W
  | 0 => a
  | k + 1 => (minusTo a b k).set k ((minusTo a b k).getD k 0 + (four.getD k 0 - b.getD k 0))
theorem minusTo_length (a b : List W) (k : Nat) : (minusTo a b k).length = a.length := by
  induction k with
  | zero => rfl
  | succ k ih => simp [minusTo, ih]
def minus (a b : List W) : List W := carried (minusTo a b 5)
theorem minus_length (a b : List W) : (minus a b).length = a.length := by simp [minus, carried_length, minusTo_length]
def swapTo (m : W) (a b : List W) : Nat → List W × List W
  | 0 => (a, b)
  | k + 1 => ((swapTo m a b k).1.set k ((swapTo m a b k).1.getD k 0 ^^^ (m &&& ((swapTo m a b k).1.getD k 0 ^^^ (swapTo m a b k).2.getD k 0))), (swapTo m a b k).2.set k ((swapTo m a b k).2.getD k 0 ^^^ (m &&& ((swapTo m a b k).1.getD k 0 ^^^ (swapTo m a b k).2.getD k 0))))
theorem swapTo_length (m : W) (a b : List W) (k : Nat) : (swapTo m a b k).1.length = a.length ∧ (swapTo m a b k).2.length = b.length := by
  induction k with
  | zero => exact ⟨rfl, rfl⟩
  | succ k ih => simp [swapTo, ih.1, ih.2]
def swap (bit : W) (a b : List W) : List W × List W := swapTo (-bit) a b 5

/-- what five parts are worth -/
def val (l : List W) : Nat := (l.getD 0 0).toNat + 2251799813685248 * (l.getD 1 0).toNat + 5070602400912917605986812821504 * (l.getD 2 0).toNat + 11417981541647679048466287755595961091061972992 * (l.getD 3 0).toNat + 25711008708143844408671393477458601640355247900524685364822016 * (l.getD 4 0).toNat
/-- five parts, each below n -/
def Sm (n : Nat) (l : List W) : Prop := l.length = 5 ∧ ∀ k, k < 5 → (l.getD k 0).toNat < n
/-- as a carry leaves them -/
def Tight (l : List W) : Prop := l.length = 5 ∧ (l.getD 0 0).toNat < 2251799813685248 ∧ (l.getD 1 0).toNat ≤ 2251799813685248 ∧ (l.getD 2 0).toNat < 2251799813685248 ∧ (l.getD 3 0).toNat < 2251799813685248 ∧ (l.getD 4 0).toNat < 2251799813685248
/-- below 2^52 -/
abbrev Small (l : List W) : Prop := Sm 4503599627370496 l
theorem Tight.small {l : List W} (h : Tight l) : Small l := by
  obtain ⟨h, h0, h1, h2, h3, h4⟩ := h
  refine ⟨h, fun k hk => ?_⟩
  obtain rfl | rfl | rfl | rfl | rfl : k = 0 ∨ k = 1 ∨ k = 2 ∨ k = 3 ∨ k = 4 := by omega
  all_goals omega
theorem Sm.mono {m n : Nat} {l : List W} (h : Sm m l) (hmn : m ≤ n) : Sm n l := ⟨h.1, fun k hk => Nat.lt_of_lt_of_le (h.2 k hk) hmn⟩

theorem and51 (x : W) : (x &&& M51).toNat = x.toNat % 2251799813685248 := by
  rw [BitVec.toNat_and]
  exact Nat.and_two_pow_sub_one_eq_mod x.toNat 51
theorem shr51 (x : W) : (x >>> 51).toNat = x.toNat / 2251799813685248 := by
  rw [BitVec.toNat_ushiftRight, Nat.shiftRight_eq_div_pow]
theorem addW (x y : W) (h : x.toNat + y.toNat < 18446744073709551616) : (x + y).toNat = x.toNat + y.toNat := by
  rw [BitVec.toNat_add, Nat.mod_eq_of_lt (by simpa using h)]
theorem mulW (x y : W) (h : x.toNat * y.toNat < 18446744073709551616) : (x * y).toNat = x.toNat * y.toNat := by
  rw [BitVec.toNat_mul, Nat.mod_eq_of_lt (by simpa using h)]
theorem mul19 (x : W) (h : x.toNat < 900000000000000000) : (19 * x).toNat = 19 * x.toNat := by
  rw [mulW]
  · rfl
  · show 19 * x.toNat < _; omega

/-- a carry says the same number -/
theorem carry_val (a : List W) (o : W) (ha : Sm 9223372036854775808 a) (ho : o.toNat < 4611686018427387904) :
    Sm 2251799813685248 (carry a o).1 ∧ (carry a o).2.toNat ≤ 4096 ∧ val (carry a o).1 + 57896044618658097711785492504343953926634992332820282019728792003956564819968 * (carry a o).2.toNat = val a + o.toNat := by
  obtain ⟨a0, a1, a2, a3, a4, rfl⟩ := five a ha.1
  have h0 := ha.2 0 (by omega); have h1 := ha.2 1 (by omega); have h2 := ha.2 2 (by omega); have h3 := ha.2 3 (by omega); have h4 := ha.2 4 (by omega)
  simp only [List.getD_cons_zero, List.getD_cons_succ] at h0 h1 h2 h3 h4
  have e : carry [a0, a1, a2, a3, a4] o =
      ([(a0 + o) &&& M51, (a1 + (a0 + o) >>> 51) &&& M51, (a2 + (a1 + (a0 + o) >>> 51) >>> 51) &&& M51, (a3 + (a2 + (a1 + (a0 + o) >>> 51) >>> 51) >>> 51) &&& M51, (a4 + (a3 + (a2 + (a1 + (a0 + o) >>> 51) >>> 51) >>> 51) >>> 51) &&& M51], (a4 + (a3 + (a2 + (a1 + (a0 + o) >>> 51) >>> 51) >>> 51) >>> 51) >>> 51) := rfl
  rw [e]
  have s0 : (a0 + o).toNat = a0.toNat + o.toNat := addW _ _ (by omega)
  have r0 := shr51 (a0 + o)
  have s1 : (a1 + (a0 + o) >>> 51).toNat = a1.toNat + ((a0 + o) >>> 51).toNat := addW _ _ (by omega)
  have m0 := and51 (a0 + o)
  generalize (a0 + o) >>> 51 = o1 at *
  have r1 := shr51 (a1 + o1)
  have m1 := and51 (a1 + o1)
  have s2 : (a2 + (a1 + o1) >>> 51).toNat = a2.toNat + ((a1 + o1) >>> 51).toNat := addW _ _ (by omega)
  generalize (a1 + o1) >>> 51 = o2 at *
  have r2 := shr51 (a2 + o2)
  have m2 := and51 (a2 + o2)
  have s3 : (a3 + (a2 + o2) >>> 51).toNat = a3.toNat + ((a2 + o2) >>> 51).toNat := addW _ _ (by omega)
  generalize (a2 + o2) >>> 51 = o3 at *
  have r3 := shr51 (a3 + o3)
  have m3 := and51 (a3 + o3)
  have s4 : (a4 + (a3 + o3) >>> 51).toNat = a4.toNat + ((a3 + o3) >>> 51).toNat := addW _ _ (by omega)
  generalize (a3 + o3) >>> 51 = o4 at *
  have r4 := shr51 (a4 + o4)
  have m4 := and51 (a4 + o4)
  generalize (a4 + o4) >>> 51 = o5 at *
  refine ⟨⟨rfl, fun k hk => ?_⟩, ?_, ?_⟩
  · obtain rfl | rfl | rfl | rfl | rfl : k = 0 ∨ k = 1 ∨ k = 2 ∨ k = 3 ∨ k = 4 := by omega
    all_goals simp only [List.getD_cons_zero, List.getD_cons_succ]; omega
  · show o5.toNat ≤ 4096
    omega
  · simp only [val, List.getD_cons_zero, List.getD_cons_succ]
    omega

theorem carried_val (a : List W) (ha : Sm 9223372036854775808 a) : Tight (carried a) ∧ ∃ q, val (carried a) + P * q = val a := by
  obtain ⟨h1, h2, h3⟩ := carry_val a 0 ha (by simp)
  unfold carried
  generalize (carry a 0).1 = l at *
  generalize (carry a 0).2 = o at *
  obtain ⟨x0, x1, x2, x3, x4, rfl⟩ := five l h1.1
  have b0 := h1.2 0 (by omega); have b1 := h1.2 1 (by omega); have b2 := h1.2 2 (by omega); have b3 := h1.2 3 (by omega); have b4 := h1.2 4 (by omega)
  simp only [List.getD_cons_zero, List.getD_cons_succ] at b0 b1 b2 b3 b4
  have e : carEnd [x0, x1, x2, x3, x4] o = [(x0 + 19 * o) &&& M51, x1 + (x0 + 19 * o) >>> 51, x2, x3, x4] := rfl
  rw [e]
  have s := mul19 o (by omega)
  have s0 : (x0 + 19 * o).toNat = x0.toNat + (19 * o).toNat := addW _ _ (by omega)
  have r0 := shr51 (x0 + 19 * o)
  have m0 := and51 (x0 + 19 * o)
  have s1 : (x1 + (x0 + 19 * o) >>> 51).toNat = x1.toNat + ((x0 + 19 * o) >>> 51).toNat := addW _ _ (by omega)
  refine ⟨⟨rfl, ?_⟩, o.toNat, ?_⟩
  · simp only [List.getD_cons_zero, List.getD_cons_succ]; omega
  · simp only [val, List.getD_cons_zero, List.getD_cons_succ, P] at *
    rw [show (0 : W).toNat = 0 from rfl] at h3
    omega

theorem Tight.val_lt {l : List W} (h : Tight l) : val l < 57896044618658097711785492504343953926634992332820282019728792003956564819968 + 2251799813685248 := by
  obtain ⟨_, h0, h1, h2, h3, h4⟩ := h
  unfold val; omega

theorem lowest_val (a : List W) (ha : Sm 9223372036854775808 a) : Sm 2251799813685248 (lowest a) ∧ val (lowest a) = val a % P := by
  obtain ⟨ht, q, hq⟩ := carried_val a ha
  unfold lowest
  generalize carried a = l at *
  have hl := ht.val_lt
  have hs : Sm 9223372036854775808 l := ht.small.mono (by omega)
  obtain ⟨h1, h2, h3⟩ := carry_val l 19 hs (by decide)
  have v1 : val (carry l 19).1 < 57896044618658097711785492504343953926634992332820282019728792003956564819968 := by
    obtain ⟨_, hb⟩ := h1
    have b0 := hb 0 (by omega); have b1 := hb 1 (by omega); have b2 := hb 2 (by omega); have b3 := hb 3 (by omega); have b4 := hb 4 (by omega)
    unfold val; omega
  generalize (carry l 19).2 = o at *
  rw [show (19 : W).toNat = 19 from rfl] at h3
  have ho : o.toNat ≤ 1 := by omega
  have hm := mul19 o (by omega)
  obtain ⟨g1, g2, g3⟩ := carry_val l (19 * o) hs (by omega)
  refine ⟨g1, ?_⟩
  have v2 : val (carry l (19 * o)).1 < 57896044618658097711785492504343953926634992332820282019728792003956564819968 := by
    obtain ⟨_, hb⟩ := g1
    have b0 := hb 0 (by omega); have b1 := hb 1 (by omega); have b2 := hb 2 (by omega); have b3 := hb 3 (by omega); have b4 := hb 4 (by omega)
    unfold val; omega
  generalize val (carry l (19 * o)).1 = v at *
  generalize (carry l (19 * o)).2 = o2 at *
  rw [← hq, Nat.add_mul_mod_self_left]
  generalize val l = n at *
  unfold P
  have : o.toNat = 0 ∨ o.toNat = 1 := by omega
  rcases this with h | h <;> rw [h] at hm h3 <;> omega

theorem plus_val (a b : List W) (ha : Small a) (hb : Small b) : Tight (plus a b) ∧ Cg (val (plus a b)) (val a + val b) := by
  obtain ⟨a0, a1, a2, a3, a4, rfl⟩ := five a ha.1
  obtain ⟨b0, b1, b2, b3, b4, rfl⟩ := five b hb.1
  have h0 := ha.2 0 (by omega); have h1 := ha.2 1 (by omega); have h2 := ha.2 2 (by omega); have h3 := ha.2 3 (by omega); have h4 := ha.2 4 (by omega)
  have g0 := hb.2 0 (by omega); have g1 := hb.2 1 (by omega); have g2 := hb.2 2 (by omega); have g3 := hb.2 3 (by omega); have g4 := hb.2 4 (by omega)
  simp only [List.getD_cons_zero, List.getD_cons_succ] at h0 h1 h2 h3 h4 g0 g1 g2 g3 g4
  have s0 := addW a0 b0 (by omega); have s1 := addW a1 b1 (by omega); have s2 := addW a2 b2 (by omega); have s3 := addW a3 b3 (by omega); have s4 := addW a4 b4 (by omega)
  have e : plusTo [a0, a1, a2, a3, a4] [b0, b1, b2, b3, b4] 5 = [a0 + b0, a1 + b1, a2 + b2, a3 + b3, a4 + b4] := rfl
  unfold plus
  rw [e]
  obtain ⟨ht, q, hq⟩ := carried_val [a0 + b0, a1 + b1, a2 + b2, a3 + b3, a4 + b4] ⟨rfl, fun k hk => by
    obtain rfl | rfl | rfl | rfl | rfl : k = 0 ∨ k = 1 ∨ k = 2 ∨ k = 3 ∨ k = 4 := by omega
    all_goals simp only [List.getD_cons_zero, List.getD_cons_succ]; omega⟩
  refine ⟨ht, ?_⟩
  have : val [a0 + b0, a1 + b1, a2 + b2, a3 + b3, a4 + b4] = val [a0, a1, a2, a3, a4] + val [b0, b1, b2, b3, b4] := by
    simp only [val, List.getD_cons_zero, List.getD_cons_succ]; omega
  unfold Cg
  rw [← this, ← hq, Nat.add_mul_mod_self_left]

theorem subW (x y : W) (h : y.toNat ≤ x.toNat) : (x - y).toNat = x.toNat - y.toNat := by
  rw [BitVec.toNat_sub]; have := x.isLt; have := y.isLt; omega

theorem minus_val (a b : List W) (ha : Small a) (hb : Small b) : Tight (minus a b) ∧ Cg (val (minus a b) + val b) (val a) := by
  obtain ⟨a0, a1, a2, a3, a4, rfl⟩ := five a ha.1
  obtain ⟨b0, b1, b2, b3, b4, rfl⟩ := five b hb.1
  have h0 := ha.2 0 (by omega); have h1 := ha.2 1 (by omega); have h2 := ha.2 2 (by omega); have h3 := ha.2 3 (by omega); have h4 := ha.2 4 (by omega)
  have g0 := hb.2 0 (by omega); have g1 := hb.2 1 (by omega); have g2 := hb.2 2 (by omega); have g3 := hb.2 3 (by omega); have g4 := hb.2 4 (by omega)
  simp only [List.getD_cons_zero, List.getD_cons_succ] at h0 h1 h2 h3 h4 g0 g1 g2 g3 g4
  have c1 : (9007199254740916 : W).toNat = 9007199254740916 := rfl
  have c2 : (9007199254740988 : W).toNat = 9007199254740988 := rfl
  have d0 := subW 9007199254740916 b0 (by omega); have d1 := subW 9007199254740988 b1 (by omega); have d2 := subW 9007199254740988 b2 (by omega); have d3 := subW 9007199254740988 b3 (by omega); have d4 := subW 9007199254740988 b4 (by omega)
  have e : minusTo [a0, a1, a2, a3, a4] [b0, b1, b2, b3, b4] 5 = [a0 + (9007199254740916 - b0), a1 + (9007199254740988 - b1), a2 + (9007199254740988 - b2), a3 + (9007199254740988 - b3), a4 + (9007199254740988 - b4)] := rfl
  unfold minus
  rw [e]
  rw [c1] at d0; rw [c2] at d1 d2 d3 d4
  generalize (9007199254740916 : W) - b0 = n0 at *
  generalize (9007199254740988 : W) - b1 = n1 at *
  generalize (9007199254740988 : W) - b2 = n2 at *
  generalize (9007199254740988 : W) - b3 = n3 at *
  generalize (9007199254740988 : W) - b4 = n4 at *
  have s0 := addW a0 n0 (by omega); have s1 := addW a1 n1 (by omega); have s2 := addW a2 n2 (by omega); have s3 := addW a3 n3 (by omega); have s4 := addW a4 n4 (by omega)
  obtain ⟨ht, q, hq⟩ := carried_val [a0 + n0, a1 + n1, a2 + n2, a3 + n3, a4 + n4] ⟨rfl, fun k hk => by
    obtain rfl | rfl | rfl | rfl | rfl : k = 0 ∨ k = 1 ∨ k = 2 ∨ k = 3 ∨ k = 4 := by omega
    all_goals simp only [List.getD_cons_zero, List.getD_cons_succ]; omega⟩
  refine ⟨ht, ?_⟩
  have : val [a0 + n0, a1 + n1, a2 + n2, a3 + n3, a4 + n4] + val [b0, b1, b2, b3, b4] = val [a0, a1, a2, a3, a4] + P * 4 := by
    simp only [val, List.getD_cons_zero, List.getD_cons_succ, P]; omega
  have h5 : val [a0 + n0, a1 + n1, a2 + n2, a3 + n3, a4 + n4] + val [b0, b1, b2, b3, b4] = val (carried [a0 + n0, a1 + n1, a2 + n2, a3 + n3, a4 + n4]) + val [b0, b1, b2, b3, b4] + P * q := by omega
  unfold Cg
  rw [← Nat.add_mul_mod_self_left _ P q, ← h5, this, Nat.add_mul_mod_self_left]

theorem xor_pick0 (x y : W) : x ^^^ ((0 : W) &&& (x ^^^ y)) = x := by simp
theorem swap_zero (a b : List W) (ha : a.length = 5) (hb : b.length = 5) : swap 0 a b = (a, b) := by
  obtain ⟨a0, a1, a2, a3, a4, rfl⟩ := five a ha
  obtain ⟨b0, b1, b2, b3, b4, rfl⟩ := five b hb
  have e : swap 0 [a0, a1, a2, a3, a4] [b0, b1, b2, b3, b4] = ([a0 ^^^ (-0 &&& (a0 ^^^ b0)), a1 ^^^ (-0 &&& (a1 ^^^ b1)), a2 ^^^ (-0 &&& (a2 ^^^ b2)), a3 ^^^ (-0 &&& (a3 ^^^ b3)), a4 ^^^ (-0 &&& (a4 ^^^ b4))], [b0 ^^^ (-0 &&& (a0 ^^^ b0)), b1 ^^^ (-0 &&& (a1 ^^^ b1)), b2 ^^^ (-0 &&& (a2 ^^^ b2)), b3 ^^^ (-0 &&& (a3 ^^^ b3)), b4 ^^^ (-0 &&& (a4 ^^^ b4))]) := rfl
  rw [e]
  simp
theorem swap_one (a b : List W) (ha : a.length = 5) (hb : b.length = 5) : swap 1 a b = (b, a) := by
  obtain ⟨a0, a1, a2, a3, a4, rfl⟩ := five a ha
  obtain ⟨b0, b1, b2, b3, b4, rfl⟩ := five b hb
  have e : swap 1 [a0, a1, a2, a3, a4] [b0, b1, b2, b3, b4] = ([a0 ^^^ (-1 &&& (a0 ^^^ b0)), a1 ^^^ (-1 &&& (a1 ^^^ b1)), a2 ^^^ (-1 &&& (a2 ^^^ b2)), a3 ^^^ (-1 &&& (a3 ^^^ b3)), a4 ^^^ (-1 &&& (a4 ^^^ b4))], [b0 ^^^ (-1 &&& (a0 ^^^ b0)), b1 ^^^ (-1 &&& (a1 ^^^ b1)), b2 ^^^ (-1 &&& (a2 ^^^ b2)), b3 ^^^ (-1 &&& (a3 ^^^ b3)), b4 ^^^ (-1 &&& (a4 ^^^ b4))]) := rfl
  have n1 : (-1 : W) = BitVec.allOnes 64 := by decide
  have k1 : ∀ x y : W, x ^^^ (-1 &&& (x ^^^ y)) = y := fun x y => by rw [n1, BitVec.allOnes_and, ← BitVec.xor_assoc, BitVec.xor_self, BitVec.zero_xor]
  have k2 : ∀ x y : W, y ^^^ (-1 &&& (x ^^^ y)) = x := fun x y => by rw [BitVec.xor_comm x y]; exact k1 y x
  rw [e]
  simp only [k1, k2]
end Ff
end Go.Proofs.YtclpbaokadfhhaaDoor
