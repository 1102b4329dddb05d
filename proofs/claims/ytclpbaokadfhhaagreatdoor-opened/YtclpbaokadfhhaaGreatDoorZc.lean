/- Several texts as one: Pr, Ed, Gf. -/
import Init
namespace Go.Proofs.YtclpbaokadfhhaaGreatDoor.Pr

/-- a prime: it has no divisors but 1 and itself -/
def IsP (n : Nat) : Prop := 2 ≤ n ∧ ∀ d, d ∣ n → d = 1 ∨ d = n

/-- a power modulo N, by squaring -/
def pm (N : Nat) : Nat → Nat → Nat → Nat
  | 0, _, _ => 1 % N
  | f + 1, a, e => if e % 2 = 1 then a * pm N f (a * a % N) (e / 2) % N else pm N f (a * a % N) (e / 2)
theorem pm_eq (N : Nat) : ∀ (f a e : Nat), e < 2 ^ f → pm N f a e = a ^ e % N
  | 0, a, e, h => by
    have : e = 0 := by simpa using h
    subst this; simp [pm]
  | f + 1, a, e, h => by
    have h2 : e / 2 < 2 ^ f := by rw [Nat.pow_succ] at h; omega
    have ih := pm_eq N f (a * a % N) (e / 2) h2
    have e1 : (a * a) ^ (e / 2) = a ^ (2 * (e / 2)) := by rw [Nat.pow_mul, Nat.pow_two]
    rw [pm, ih, ← Nat.pow_mod, e1]
    split
    · rename_i h3
      conv => rhs; rw [show e = 2 * (e / 2) + 1 by omega, Nat.pow_succ, Nat.mul_comm]
      rw [Nat.mul_mod_mod]
    · rename_i h3
      conv => rhs; rw [show e = 2 * (e / 2) by omega]

theorem least {p : Nat → Prop} : ∀ n, p n → ∃ m, p m ∧ ∀ k, k < m → ¬ p k := by
  intro n
  induction n using Nat.strongRecOn with
  | ind n ih =>
    intro hn
    by_cases h : ∃ k, k < n ∧ p k
    · obtain ⟨k, hk, hp⟩ := h
      exact ih k hk hp
    · exact ⟨n, hn, fun k hk hp => h ⟨k, hk, hp⟩⟩

theorem pigeon : ∀ (n : Nat) (f : Nat → Nat), (∀ i, i < n → f i < n) → (∀ i j, i < n → j < n → f i = f j → i = j) → ∀ a, a < n → ∃ i, i < n ∧ f i = a
  | 0, _, _, _, a, ha => by omega
  | n + 1, f, hr, hi, a, ha => by
    have key : ∀ i, i < n → f i = n → f n < n := by
      intro i h1 h2
      have := hr n (by omega)
      have h3 : f n ≠ n := fun e => by have := hi i n (by omega) (by omega) (by rw [h2, e]); omega
      omega
    have ih := pigeon n (fun i => if f i = n then f n else f i)
      (by
        intro i h1
        show (if f i = n then f n else f i) < n
        split
        · exact key i h1 (by assumption)
        · have := hr i (by omega); omega)
      (by
        intro i j h1 h2 h3
        have h3 : (if f i = n then f n else f i) = (if f j = n then f n else f j) := h3
        by_cases c1 : f i = n
        · by_cases c2 : f j = n
          · exact hi i j (by omega) (by omega) (by rw [c1, c2])
          · rw [if_pos c1, if_neg c2] at h3
            have := hi n j (by omega) (by omega) h3; omega
        · by_cases c2 : f j = n
          · rw [if_neg c1, if_pos c2] at h3
            have := hi i n (by omega) (by omega) h3; omega
          · rw [if_neg c1, if_neg c2] at h3
            exact hi i j (by omega) (by omega) h3)
    by_cases ab : a = f n
    · exact ⟨n, by omega, ab.symm⟩
    · by_cases an : a = n
      · have hb : f n < n := by have := hr n (by omega); omega
        obtain ⟨i, h1, h2⟩ := ih (f n) hb
        have h2 : (if f i = n then f n else f i) = f n := h2
        by_cases c : f i = n
        · exact ⟨i, by omega, by omega⟩
        · rw [if_neg c] at h2
          have := hi i n (by omega) (by omega) h2; omega
      · obtain ⟨i, h1, h2⟩ := ih a (by omega)
        have h2 : (if f i = n then f n else f i) = a := h2
        by_cases c : f i = n
        · rw [if_pos c] at h2; exact absurd h2.symm ab
        · rw [if_neg c] at h2; exact ⟨i, by omega, h2⟩

def prod : List Nat → Nat
  | [] => 1
  | a :: l => a * prod l

theorem coprime_prod (t : Nat) : ∀ L : List Nat, (∀ q ∈ L, Nat.gcd t q = 1) → Nat.gcd t (prod L) = 1
  | [], _ => by simp [prod]
  | a :: l, h => by
    have h1 : Nat.Coprime t a := h a (by simp)
    have h2 : Nat.Coprime t (prod l) := coprime_prod t l (fun q hq => h q (by simp [hq]))
    exact Nat.Coprime.mul_right h1 h2

/-- a divisor of a product of primes that is not 1 has one of them -/
theorem has_prime (t : Nat) (L : List Nat) (hL : ∀ q ∈ L, IsP q) (ht : t ∣ prod L) (h1 : t ≠ 1) : ∃ q, q ∈ L ∧ q ∣ t := by
  by_cases h : ∃ q, q ∈ L ∧ q ∣ t
  · exact h
  · exfalso
    have : Nat.gcd t (prod L) = 1 := by
      apply coprime_prod
      intro q hq
      rcases (hL q hq).2 (Nat.gcd t q) (Nat.gcd_dvd_right t q) with e | e
      · exact e
      · exact absurd ⟨q, hq, by have := Nat.gcd_dvd_left t q; rwa [e] at this⟩ h
    rw [Nat.gcd_eq_left ht] at this
    exact h1 this

theorem pow1 {N : Nat} {a : Nat} (ha : a % N = 1) (hN : 2 ≤ N) (k : Nat) : a ^ k % N = 1 := by
  rw [Nat.pow_mod, ha, Nat.one_pow, Nat.mod_eq_of_lt (by omega)]
theorem one_mul' {N : Nat} {a b : Nat} (ha : a % N = 1) : a * b % N = b % N := by
  rw [Nat.mul_mod, ha, Nat.one_mul, Nat.mod_mod]

theorem lucas {N g : Nat} (L : List Nat) (hN : 3 ≤ N) (hL : ∀ q ∈ L, IsP q) (hprod : prod L = N - 1) (h1 : g ^ (N - 1) % N = 1) (hne : ∀ q ∈ L, g ^ ((N - 1) / q) % N ≠ 1) :
    ∀ a, a % N ≠ 0 → a ^ (N - 1) % N = 1 := by
  obtain ⟨m, ⟨hm0, hm1⟩, hmin⟩ := least (p := fun k => 0 < k ∧ g ^ k % N = 1) (N - 1) ⟨by omega, h1⟩
  -- the order divides N - 1
  have hdiv : (N - 1) % m = 0 := by
    have hlt := Nat.mod_lt (N - 1) hm0
    by_cases hz : (N - 1) % m = 0
    · exact hz
    · exfalso
      apply hmin ((N - 1) % m) hlt
      refine ⟨by omega, ?_⟩
      have e : g ^ (N - 1) = (g ^ m) ^ ((N - 1) / m) * g ^ ((N - 1) % m) := by
        rw [← Nat.pow_mul, ← Nat.pow_add, Nat.div_add_mod]
      rw [e, one_mul' (pow1 hm1 (by omega) _)] at h1
      exact h1
  have hmN : m = N - 1 := by
    have e : N - 1 = m * ((N - 1) / m) := by have := Nat.div_add_mod (N - 1) m; omega
    by_cases ht : (N - 1) / m = 1
    · rw [ht] at e; omega
    · exfalso
      have hd : (N - 1) / m ∣ prod L := by rw [hprod]; exact ⟨m, by rw [Nat.mul_comm]; exact e⟩
      obtain ⟨q, hq, s, hs⟩ := has_prime _ L hL hd ht
      have hq2 := (hL q hq).1
      apply hne q hq
      have e2 : (N - 1) / q = m * s := by
        rw [hs] at e
        rw [e, Nat.mul_left_comm, Nat.mul_div_cancel_left _ (by omega)]
      rw [e2, Nat.pow_mul]
      exact pow1 hm1 (by omega) s
  have hunit : ∀ i, i < N - 1 → g ^ (N - 1 - i) * g ^ i % N = 1 := by
    intro i hi
    rw [← Nat.pow_add, Nat.sub_add_cancel (by omega)]; exact h1
  have hinj : ∀ i j, i < j → j < N - 1 → g ^ i % N = g ^ j % N → False := by
    intro i j hij hj he
    apply hmin (j - i) (by omega)
    refine ⟨by omega, ?_⟩
    have h2 := hunit i (by omega)
    rw [Nat.mul_mod, he, ← Nat.mul_mod, ← Nat.pow_add] at h2
    have e : N - 1 - i + j = (N - 1) + (j - i) := by omega
    rw [e, Nat.pow_add, one_mul' h1] at h2
    exact h2
  have hnz : ∀ i, i < N - 1 → g ^ i % N ≠ 0 := by
    intro i hi hz
    have h2 := hunit i hi
    rw [Nat.mul_mod, hz] at h2
    simp at h2
  intro a ha
  have hlt : a % N < N := Nat.mod_lt _ (by omega)
  obtain ⟨i, hi, he⟩ := pigeon (N - 1) (fun i => g ^ i % N - 1)
    (by
      intro i hi
      have := Nat.mod_lt (g ^ i) (show N > 0 by omega)
      show g ^ i % N - 1 < N - 1
      have := hnz i hi
      omega)
    (by
      intro i j hi hj he
      have he : g ^ i % N - 1 = g ^ j % N - 1 := he
      have a1 := hnz i hi
      have a2 := hnz j hj
      have e : g ^ i % N = g ^ j % N := by omega
      rcases Nat.lt_trichotomy i j with h | h | h
      · exact (hinj i j h hj e).elim
      · exact h
      · exact (hinj j i h hi e.symm).elim)
    (a % N - 1) (by omega)
  have he : g ^ i % N - 1 = a % N - 1 := he
  have := hnz i hi
  have e : a % N = g ^ i % N := by omega
  rw [Nat.pow_mod, e, ← Nat.pow_mod, ← Nat.pow_mul, Nat.mul_comm, Nat.pow_mul]
  exact pow1 h1 (by omega) i

theorem isP_of {N : Nat} (hN : 3 ≤ N) (h : ∀ a, a % N ≠ 0 → a ^ (N - 1) % N = 1) : IsP N := by
  refine ⟨by omega, ?_⟩
  intro d hd
  by_cases h1 : d = N
  · exact .inr h1
  · left
    have hle := Nat.le_of_dvd (by omega) hd
    have h0 : d ≠ 0 := by
      rintro rfl
      have := Nat.eq_zero_of_zero_dvd hd; omega
    have hp := h d (by rw [Nat.mod_eq_of_lt (by omega)]; exact h0)
    have h2 : d ∣ d ^ (N - 1) := ⟨d ^ (N - 2), by rw [Nat.mul_comm, ← Nat.pow_succ]; congr 1; omega⟩
    have h3 : d ∣ d ^ (N - 1) % N := (Nat.dvd_mod_iff hd).2 h2
    rw [hp] at h3
    exact Nat.dvd_one.1 h3
/-- a certificate, as a closed reckoning -/
def okCert (N g : Nat) (L : List Nat) : Bool :=
  decide (3 ≤ N) && decide (N < 2 ^ 256) && decide (prod L = N - 1) && decide (pm N 256 g (N - 1) = 1) && L.all fun q => decide (pm N 256 g ((N - 1) / q) ≠ 1)
theorem of_cert {N g : Nat} {L : List Nat} (h : okCert N g L = true) (hL : ∀ q ∈ L, IsP q) : ∀ a, a % N ≠ 0 → a ^ (N - 1) % N = 1 := by
  simp only [okCert, Bool.and_eq_true, decide_eq_true_eq, List.all_eq_true] at h
  obtain ⟨⟨⟨⟨h1, h2⟩, h3⟩, h4⟩, h5⟩ := h
  refine lucas (g := g) L h1 hL h3 ?_ ?_
  · rw [← pm_eq N 256 g (N - 1) (by omega)]; exact h4
  · intro q hq
    have := h5 q hq
    rw [pm_eq N 256 g _ (Nat.lt_of_le_of_lt (Nat.div_le_self _ _) (by omega))] at this
    exact this

/-- small ones, by trying -/
def noDiv (n : Nat) : Nat → Nat → Bool
  | 0, _ => true
  | f + 1, k => decide (n % k ≠ 0) && noDiv n f (k + 1)
theorem noDiv_of (n : Nat) : ∀ (f k : Nat), noDiv n f k = true → ∀ j, k ≤ j → j < k + f → n % j ≠ 0
  | 0, k, _, j, h1, h2 => by omega
  | f + 1, k, h, j, h1, h2 => by
    simp only [noDiv, Bool.and_eq_true, decide_eq_true_eq] at h
    by_cases e : j = k
    · subst e; exact h.1
    · exact noDiv_of n f (k + 1) h.2 j (by omega) (by omega)
theorem isP_small (n f : Nat) (h : noDiv n f 2 = true) (h2 : 2 ≤ n) (hf : n < (f + 2) * (f + 2)) : IsP n := by
  refine ⟨h2, ?_⟩
  intro d hd
  obtain ⟨e, he⟩ := hd
  have hno : ∀ j, 2 ≤ j → j < 2 + f → ¬ j ∣ n := fun j h1 h3 h4 => noDiv_of n f 2 h j h1 h3 (Nat.mod_eq_zero_of_dvd h4)
  by_cases h1 : d = 1
  · exact .inl h1
  by_cases h3 : e = 1
  · right; rw [he, h3, Nat.mul_one]
  exfalso
  have d0 : d ≠ 0 := by rintro rfl; omega
  have e0 : e ≠ 0 := by rintro rfl; omega
  have hd : ¬ d < 2 + f := fun h4 => hno d (by omega) h4 ⟨e, he⟩
  have he' : ¬ e < 2 + f := fun h4 => hno e (by omega) h4 ⟨d, by rw [he, Nat.mul_comm]⟩
  have := Nat.mul_le_mul (show f + 2 ≤ d by omega) (show f + 2 ≤ e by omega)
  omega

/-- several small ones at once: each with how far to try -/
theorem smalls (l : List Nat) (h : l.all (fun n => noDiv n 1500 2 || (noDiv n (n - 2) 2)) = true) (h2 : l.all (fun n => decide (2 ≤ n) && decide (n < 2000000)) = true) : ∀ q ∈ l, IsP q := by
  intro q hq
  have a := List.all_eq_true.1 h q hq
  have b := List.all_eq_true.1 h2 q hq
  simp only [Bool.and_eq_true, decide_eq_true_eq, Bool.or_eq_true] at a b
  rcases a with a | a
  · exact isP_small q 1500 a b.1 (by omega)
  · refine isP_small q (q - 2) a b.1 ?_
    have : q - 2 + 2 = q := by omega
    rw [this]
    have := Nat.mul_le_mul b.1 (Nat.le_refl q)
    omega

theorem sm : ∀ q ∈ [2, 3, 5, 7, 13, 19, 31, 47, 103, 107, 127, 223, 353, 991], IsP q := smalls _ (by decide +kernel) (by decide +kernel)
theorem sm2 : ∀ q ∈ [2437, 4153, 57467, 65147, 75707, 132049, 430751, 569003, 1923133], IsP q := smalls _ (by decide +kernel) (by decide +kernel)
theorem p1 : IsP 8574133 := isP_of (by omega) (of_cert (g := 2) (L := [2, 2, 3, 7, 103, 991]) (by decide +kernel) (by
  intro q hq; exact sm q (by simp only [List.mem_cons, List.not_mem_nil, or_false] at hq ⊢; omega)))
theorem p2 : IsP 2773320623 := isP_of (by omega) (of_cert (g := 5) (L := [2, 2437, 569003]) (by decide +kernel) (by
  intro q hq; simp only [List.mem_cons, List.not_mem_nil, or_false] at hq
  rcases hq with rfl | rfl | rfl
  · exact sm 2 (by simp)
  · exact sm2 _ (by simp)
  · exact sm2 _ (by simp)))
theorem p3 : IsP 72106336199 := isP_of (by omega) (of_cert (g := 7) (L := [2, 13, 2773320623]) (by decide +kernel) (by
  intro q hq; simp only [List.mem_cons, List.not_mem_nil, or_false] at hq
  rcases hq with rfl | rfl | rfl
  · exact sm 2 (by simp)
  · exact sm _ (by simp)
  · exact p2))
theorem p4 : IsP 1919519569386763 := isP_of (by omega) (of_cert (g := 2) (L := [2, 3, 7, 19, 47, 47, 127, 8574133]) (by decide +kernel) (by
  intro q hq; simp only [List.mem_cons, List.not_mem_nil, or_false] at hq
  by_cases h : q = 8574133
  · subst h; exact p1
  · exact sm q (by simp only [List.mem_cons, List.not_mem_nil, or_false]; omega)))
theorem p5 : IsP 31757755568855353 := isP_of (by omega) (of_cert (g := 10) (L := [2, 2, 2, 3, 31, 107, 223, 4153, 430751]) (by decide +kernel) (by
  intro q hq; simp only [List.mem_cons, List.not_mem_nil, or_false] at hq
  by_cases h : q = 4153 ∨ q = 430751
  · exact sm2 q (by simp only [List.mem_cons, List.not_mem_nil, or_false]; omega)
  · exact sm q (by simp only [List.mem_cons, List.not_mem_nil, or_false]; omega)))
theorem p6 : IsP 75445702479781427272750846543864801 := isP_of (by omega) (of_cert (g := 7) (L := [2, 2, 2, 2, 2, 3, 3, 5, 5, 75707, 1919519569386763, 72106336199]) (by decide +kernel) (by
  intro q hq; simp only [List.mem_cons, List.not_mem_nil, or_false] at hq
  by_cases h : q = 1919519569386763
  · subst h; exact p4
  by_cases h : q = 72106336199
  · subst h; exact p3
  by_cases h : q = 75707
  · subst h; exact sm2 _ (by simp)
  · exact sm q (by simp only [List.mem_cons, List.not_mem_nil, or_false]; omega)))
theorem p7 : IsP 74058212732561358302231226437062788676166966415465897661863160754340907 := isP_of (by omega) (of_cert (g := 2) (L := [2, 3, 353, 57467, 132049, 1923133, 31757755568855353, 75445702479781427272750846543864801]) (by decide +kernel) (by
  intro q hq; simp only [List.mem_cons, List.not_mem_nil, or_false] at hq
  by_cases h : q = 31757755568855353
  · subst h; exact p5
  by_cases h : q = 75445702479781427272750846543864801
  · subst h; exact p6
  by_cases h : q = 2 ∨ q = 3 ∨ q = 353
  · exact sm q (by simp only [List.mem_cons, List.not_mem_nil, or_false]; omega)
  · exact sm2 q (by simp only [List.mem_cons, List.not_mem_nil, or_false]; omega)))

def P : Nat := 57896044618658097711785492504343953926634992332820282019728792003956564819949
theorem fermat : ∀ a, a % P ≠ 0 → a ^ (P - 1) % P = 1 := of_cert (g := 2) (L := [2, 2, 3, 65147, 74058212732561358302231226437062788676166966415465897661863160754340907]) (by decide +kernel) (by
  intro q hq; simp only [List.mem_cons, List.not_mem_nil, or_false] at hq
  by_cases h : q = 74058212732561358302231226437062788676166966415465897661863160754340907
  · subst h; exact p7
  by_cases h : q = 65147
  · subst h; exact sm2 _ (by simp)
  · exact sm q (by simp only [List.mem_cons, List.not_mem_nil, or_false]; omega))
theorem prime : IsP P := isP_of (by unfold P; omega) fermat

end Go.Proofs.YtclpbaokadfhhaaGreatDoor.Pr

namespace Go.Proofs.YtclpbaokadfhhaaGreatDoor.Ed

set_option maxHeartbeats 4000000 in
theorem assoc_x {pp : Nat} [NeZero pp] (d x1 y1 x2 y2 x3 y3 nx12 ny12 p12 m12 nx23 ny23 p23 m23 : Fin pp)
    (h1 : nx12 = x1 * y2 + x2 * y1) (h2 : ny12 = y1 * y2 + x1 * x2) (h3 : p12 = 1 + d * x1 * x2 * y1 * y2) (h4 : m12 = 1 - d * x1 * x2 * y1 * y2)
    (h5 : nx23 = x2 * y3 + x3 * y2) (h6 : ny23 = y2 * y3 + x2 * x3) (h7 : p23 = 1 + d * x2 * x3 * y2 * y3) (h8 : m23 = 1 - d * x2 * x3 * y2 * y3)
    (E1 : y1*y1 - x1*x1 - 1 - d * x1*x1 * y1*y1 = 0) (E2 : y2*y2 - x2*x2 - 1 - d * x2*x2 * y2*y2 = 0) (E3 : y3*y3 - x3*x3 - 1 - d * x3*x3 * y3*y3 = 0) :
    (nx12 * m12 * y3 + x3 * ny12 * p12) * (p23 * m23 + d * nx23 * ny23 * x1 * y1) = (x1 * ny23 * p23 + nx23 * m23 * y1) * (p12 * m12 + d * nx12 * ny12 * x3 * y3) := by
  subst h1 h2 h3 h4 h5 h6 h7 h8
  have key : ((x1 * y2 + x2 * y1) * (1 - d * x1 * x2 * y1 * y2) * y3 + x3 * (y1 * y2 + x1 * x2) * (1 + d * x1 * x2 * y1 * y2)) * ((1 + d * x2 * x3 * y2 * y3) * (1 - d * x2 * x3 * y2 * y3) + d * (x2 * y3 + x3 * y2) * (y2 * y3 + x2 * x3) * x1 * y1)
      - (x1 * (y2 * y3 + x2 * x3) * (1 + d * x2 * x3 * y2 * y3) + (x2 * y3 + x3 * y2) * (1 - d * x2 * x3 * y2 * y3) * y1) * ((1 + d * x1 * x2 * y1 * y2) * (1 - d * x1 * x2 * y1 * y2) + d * (x1 * y2 + x2 * y1) * (y1 * y2 + x1 * x2) * x3 * y3)
      = (-d*d*x1*x2*x2*x2*x2*x3*x3*y2*y2*y2*y3 - d*d*x1*x2*x2*x2*x3*y2*y2*y2*y2*y3*y3 + d*d*x2*x2*x2*x2*x3*y1*y2*y2*y2*y3*y3 + d*d*x2*x2*x2*x3*x3*y1*y2*y2*y2*y2*y3 - d*x1*x2*x2*x2*x2*x3*x3*y2*y3 - d*x1*x2*x2*x2*x3*x3*x3*y2*y2 - d*x1*x2*x2*x2*x3*y2*y2 + d*x1*x2*x2*y2*y2*y2*y3*y3*y3 - d*x1*x2*x2*y2*y2*y2*y3 + d*x1*x2*x3*y2*y2*y2*y2*y3*y3 + d*x2*x2*x2*x2*x3*y1*y2*y3*y3 + d*x2*x2*x2*y1*y2*y2*y3*y3*y3 - d*x2*x2*x2*y1*y2*y2*y3 - d*x2*x2*x3*x3*x3*y1*y2*y2*y2 - d*x2*x2*x3*y1*y2*y2*y2 - d*x2*x3*x3*y1*y2*y2*y2*y2*y3) * (y1*y1 - x1*x1 - 1 - d * x1*x1 * y1*y1)
      + (d*d*x1*x1*x2*x2*x3*x3*x3*y1*y2*y3*y3 - d*d*x1*x1*x2*x3*x3*y1*y2*y2*y3*y3*y3 - d*d*x1*x2*x2*x3*x3*y1*y1*y2*y3*y3*y3 + d*d*x1*x2*x3*x3*x3*y1*y1*y2*y2*y3*y3 + d*x1*x1*x1*x2*x2*x3*x3*y2*y3 + d*x1*x1*x1*x2*x3*x3*x3*y3*y3 + d*x1*x1*x1*x2*x3*y2*y2*y3*y3 + d*x1*x1*x1*x3*x3*y2*y3*y3*y3 - d*x1*x1*x2*x2*x3*y1*y2*y3*y3 - d*x1*x1*x2*x3*x3*y1*y2*y2*y3 + d*x1*x1*x2*x3*x3*y1*y3*y3*y3 + d*x1*x1*x3*x3*x3*y1*y2*y3*y3 - d*x1*x2*x2*x3*x3*y1*y1*y2*y3 + d*x1*x2*x2*x3*x3*y2*y3 - d*x1*x2*x3*x3*x3*y1*y1*y3*y3 + d*x1*x2*x3*x3*x3*y3*y3 - d*x1*x2*x3*y1*y1*y2*y2*y3*y3 + d*x1*x2*x3*y2*y2*y3*y3 - d*x1*x3*x3*y1*y1*y2*y3*y3*y3 + d*x1*x3*x3*y2*y3*y3*y3 + d*x2*x2*x3*y1*y1*y1*y2*y3*y3 - d*x2*x2*x3*y1*y2*y3*y3 + d*x2*x3*x3*y1*y1*y1*y2*y2*y3 - d*x2*x3*x3*y1*y1*y1*y3*y3*y3 - d*x2*x3*x3*y1*y2*y2*y3 + d*x2*x3*x3*y1*y3*y3*y3 - d*x3*x3*x3*y1*y1*y1*y2*y3*y3 + d*x3*x3*x3*y1*y2*y3*y3 + x1*x1*x1*x2*x3*x3*x3 - x1*x1*x1*x2*x3*y3*y3 + x1*x1*x1*x2*x3 + x1*x1*x1*x3*x3*y2*y3 - x1*x1*x1*y2*y3*y3*y3 + x1*x1*x1*y2*y3 + x1*x1*x2*x3*x3*y1*y3 - x1*x1*x2*y1*y3*y3*y3 + x1*x1*x2*y1*y3 + x1*x1*x3*x3*x3*y1*y2 - x1*x1*x3*y1*y2*y3*y3 + x1*x1*x3*y1*y2 - x1*x2*x3*x3*x3*y1*y1 + x1*x2*x3*x3*x3 + x1*x2*x3*y1*y1*y3*y3 - x1*x2*x3*y1*y1 - x1*x2*x3*y3*y3 + x1*x2*x3 - x1*x3*x3*y1*y1*y2*y3 + x1*x3*x3*y2*y3 + x1*y1*y1*y2*y3*y3*y3 - x1*y1*y1*y2*y3 - x1*y2*y3*y3*y3 + x1*y2*y3 - x2*x3*x3*y1*y1*y1*y3 + x2*x3*x3*y1*y3 + x2*y1*y1*y1*y3*y3*y3 - x2*y1*y1*y1*y3 - x2*y1*y3*y3*y3 + x2*y1*y3 - x3*x3*x3*y1*y1*y1*y2 + x3*x3*x3*y1*y2 + x3*y1*y1*y1*y2*y3*y3 - x3*y1*y1*y1*y2 - x3*y1*y2*y3*y3 + x3*y1*y2) * (y2*y2 - x2*x2 - 1 - d * x2*x2 * y2*y2)
      + (-d*x1*x1*x2*x2*x3*y1*y2 + d*x1*x1*x2*y1*y2*y2*y3 + d*x1*x2*x2*y1*y1*y2*y3 - d*x1*x2*x3*y1*y1*y2*y2 - x1*x1*x1*x2*x2*x2*x3 - x1*x1*x1*x2*x2*y2*y3 + x1*x1*x1*x2*x3*y2*y2 - x1*x1*x1*x2*x3 + x1*x1*x1*y2*y2*y2*y3 - x1*x1*x1*y2*y3 - x1*x1*x2*x2*x2*y1*y3 - x1*x1*x2*x2*x3*y1*y2 + x1*x1*x2*y1*y2*y2*y3 - x1*x1*x2*y1*y3 + x1*x1*x3*y1*y2*y2*y2 - x1*x1*x3*y1*y2 + x1*x2*x2*x2*x3*y1*y1 - x1*x2*x2*x2*x3 + x1*x2*x2*y1*y1*y2*y3 - x1*x2*x2*y2*y3 - x1*x2*x3*y1*y1*y2*y2 + x1*x2*x3*y1*y1 + x1*x2*x3*y2*y2 - x1*x2*x3 - x1*y1*y1*y2*y2*y2*y3 + x1*y1*y1*y2*y3 + x1*y2*y2*y2*y3 - x1*y2*y3 + x2*x2*x2*y1*y1*y1*y3 - x2*x2*x2*y1*y3 + x2*x2*x3*y1*y1*y1*y2 - x2*x2*x3*y1*y2 - x2*y1*y1*y1*y2*y2*y3 + x2*y1*y1*y1*y3 + x2*y1*y2*y2*y3 - x2*y1*y3 - x3*y1*y1*y1*y2*y2*y2 + x3*y1*y1*y1*y2 + x3*y1*y2*y2*y2 - x3*y1*y2) * (y3*y3 - x3*x3 - 1 - d * x3*x3 * y3*y3) := by grind
  rw [E1, E2, E3] at key
  generalize (((x1 * y2 + x2 * y1) * (1 - d * x1 * x2 * y1 * y2) * y3 + x3 * (y1 * y2 + x1 * x2) * (1 + d * x1 * x2 * y1 * y2)) * ((1 + d * x2 * x3 * y2 * y3) * (1 - d * x2 * x3 * y2 * y3) + d * (x2 * y3 + x3 * y2) * (y2 * y3 + x2 * x3) * x1 * y1)) = A at key ⊢
  generalize ((x1 * (y2 * y3 + x2 * x3) * (1 + d * x2 * x3 * y2 * y3) + (x2 * y3 + x3 * y2) * (1 - d * x2 * x3 * y2 * y3) * y1) * ((1 + d * x1 * x2 * y1 * y2) * (1 - d * x1 * x2 * y1 * y2) + d * (x1 * y2 + x2 * y1) * (y1 * y2 + x1 * x2) * x3 * y3)) = B at key ⊢
  grind
set_option maxHeartbeats 4000000 in
theorem assoc_y {pp : Nat} [NeZero pp] (d x1 y1 x2 y2 x3 y3 nx12 ny12 p12 m12 nx23 ny23 p23 m23 : Fin pp)
    (h1 : nx12 = x1 * y2 + x2 * y1) (h2 : ny12 = y1 * y2 + x1 * x2) (h3 : p12 = 1 + d * x1 * x2 * y1 * y2) (h4 : m12 = 1 - d * x1 * x2 * y1 * y2)
    (h5 : nx23 = x2 * y3 + x3 * y2) (h6 : ny23 = y2 * y3 + x2 * x3) (h7 : p23 = 1 + d * x2 * x3 * y2 * y3) (h8 : m23 = 1 - d * x2 * x3 * y2 * y3)
    (E1 : y1*y1 - x1*x1 - 1 - d * x1*x1 * y1*y1 = 0) (E2 : y2*y2 - x2*x2 - 1 - d * x2*x2 * y2*y2 = 0) (E3 : y3*y3 - x3*x3 - 1 - d * x3*x3 * y3*y3 = 0) :
    (ny12 * p12 * y3 + nx12 * m12 * x3) * (p23 * m23 - d * nx23 * ny23 * x1 * y1) = (y1 * ny23 * p23 + x1 * nx23 * m23) * (p12 * m12 - d * nx12 * ny12 * x3 * y3) := by
  subst h1 h2 h3 h4 h5 h6 h7 h8
  have key : ((y1 * y2 + x1 * x2) * (1 + d * x1 * x2 * y1 * y2) * y3 + (x1 * y2 + x2 * y1) * (1 - d * x1 * x2 * y1 * y2) * x3) * ((1 + d * x2 * x3 * y2 * y3) * (1 - d * x2 * x3 * y2 * y3) - d * (x2 * y3 + x3 * y2) * (y2 * y3 + x2 * x3) * x1 * y1)
      - (y1 * (y2 * y3 + x2 * x3) * (1 + d * x2 * x3 * y2 * y3) + x1 * (x2 * y3 + x3 * y2) * (1 - d * x2 * x3 * y2 * y3)) * ((1 + d * x1 * x2 * y1 * y2) * (1 - d * x1 * x2 * y1 * y2) - d * (x1 * y2 + x2 * y1) * (y1 * y2 + x1 * x2) * x3 * y3)
      = (d*d*x1*x2*x2*x2*x2*x3*y2*y2*y2*y3*y3 + d*d*x1*x2*x2*x2*x3*x3*y2*y2*y2*y2*y3 - d*d*x2*x2*x2*x2*x3*x3*y1*y2*y2*y2*y3 - d*d*x2*x2*x2*x3*y1*y2*y2*y2*y2*y3*y3 + d*x1*x2*x2*x2*x2*x3*y2*y3*y3 + d*x1*x2*x2*x2*y2*y2*y3*y3*y3 - d*x1*x2*x2*x2*y2*y2*y3 - d*x1*x2*x2*x3*x3*x3*y2*y2*y2 - d*x1*x2*x2*x3*y2*y2*y2 - d*x1*x2*x3*x3*y2*y2*y2*y2*y3 - d*x2*x2*x2*x2*x3*x3*y1*y2*y3 - d*x2*x2*x2*x3*x3*x3*y1*y2*y2 - d*x2*x2*x2*x3*y1*y2*y2 + d*x2*x2*y1*y2*y2*y2*y3*y3*y3 - d*x2*x2*y1*y2*y2*y2*y3 + d*x2*x3*y1*y2*y2*y2*y2*y3*y3) * (y1*y1 - x1*x1 - 1 - d * x1*x1 * y1*y1)
      + (d*d*x1*x1*x2*x2*x3*x3*y1*y2*y3*y3*y3 - d*d*x1*x1*x2*x3*x3*x3*y1*y2*y2*y3*y3 - d*d*x1*x2*x2*x3*x3*x3*y1*y1*y2*y3*y3 + d*d*x1*x2*x3*x3*y1*y1*y2*y2*y3*y3*y3 - d*x1*x1*x1*x2*x2*x3*y2*y3*y3 - d*x1*x1*x1*x2*x3*x3*y2*y2*y3 + d*x1*x1*x1*x2*x3*x3*y3*y3*y3 + d*x1*x1*x1*x3*x3*x3*y2*y3*y3 + d*x1*x1*x2*x2*x3*x3*y1*y2*y3 + d*x1*x1*x2*x3*x3*x3*y1*y3*y3 + d*x1*x1*x2*x3*y1*y2*y2*y3*y3 + d*x1*x1*x3*x3*y1*y2*y3*y3*y3 + d*x1*x2*x2*x3*y1*y1*y2*y3*y3 - d*x1*x2*x2*x3*y2*y3*y3 + d*x1*x2*x3*x3*y1*y1*y2*y2*y3 - d*x1*x2*x3*x3*y1*y1*y3*y3*y3 - d*x1*x2*x3*x3*y2*y2*y3 + d*x1*x2*x3*x3*y3*y3*y3 - d*x1*x3*x3*x3*y1*y1*y2*y3*y3 + d*x1*x3*x3*x3*y2*y3*y3 - d*x2*x2*x3*x3*y1*y1*y1*y2*y3 + d*x2*x2*x3*x3*y1*y2*y3 - d*x2*x3*x3*x3*y1*y1*y1*y3*y3 + d*x2*x3*x3*x3*y1*y3*y3 - d*x2*x3*y1*y1*y1*y2*y2*y3*y3 + d*x2*x3*y1*y2*y2*y3*y3 - d*x3*x3*y1*y1*y1*y2*y3*y3*y3 + d*x3*x3*y1*y2*y3*y3*y3 + x1*x1*x1*x2*x3*x3*y3 - x1*x1*x1*x2*y3*y3*y3 + x1*x1*x1*x2*y3 + x1*x1*x1*x3*x3*x3*y2 - x1*x1*x1*x3*y2*y3*y3 + x1*x1*x1*x3*y2 + x1*x1*x2*x3*x3*x3*y1 - x1*x1*x2*x3*y1*y3*y3 + x1*x1*x2*x3*y1 + x1*x1*x3*x3*y1*y2*y3 - x1*x1*y1*y2*y3*y3*y3 + x1*x1*y1*y2*y3 - x1*x2*x3*x3*y1*y1*y3 + x1*x2*x3*x3*y3 + x1*x2*y1*y1*y3*y3*y3 - x1*x2*y1*y1*y3 - x1*x2*y3*y3*y3 + x1*x2*y3 - x1*x3*x3*x3*y1*y1*y2 + x1*x3*x3*x3*y2 + x1*x3*y1*y1*y2*y3*y3 - x1*x3*y1*y1*y2 - x1*x3*y2*y3*y3 + x1*x3*y2 - x2*x3*x3*x3*y1*y1*y1 + x2*x3*x3*x3*y1 + x2*x3*y1*y1*y1*y3*y3 - x2*x3*y1*y1*y1 - x2*x3*y1*y3*y3 + x2*x3*y1 - x3*x3*y1*y1*y1*y2*y3 + x3*x3*y1*y2*y3 + y1*y1*y1*y2*y3*y3*y3 - y1*y1*y1*y2*y3 - y1*y2*y3*y3*y3 + y1*y2*y3) * (y2*y2 - x2*x2 - 1 - d * x2*x2 * y2*y2)
      + (-d*x1*x1*x2*x2*y1*y2*y3 + d*x1*x1*x2*x3*y1*y2*y2 + d*x1*x2*x2*x3*y1*y1*y2 - d*x1*x2*y1*y1*y2*y2*y3 - x1*x1*x1*x2*x2*x2*y3 - x1*x1*x1*x2*x2*x3*y2 + x1*x1*x1*x2*y2*y2*y3 - x1*x1*x1*x2*y3 + x1*x1*x1*x3*y2*y2*y2 - x1*x1*x1*x3*y2 - x1*x1*x2*x2*x2*x3*y1 - x1*x1*x2*x2*y1*y2*y3 + x1*x1*x2*x3*y1*y2*y2 - x1*x1*x2*x3*y1 + x1*x1*y1*y2*y2*y2*y3 - x1*x1*y1*y2*y3 + x1*x2*x2*x2*y1*y1*y3 - x1*x2*x2*x2*y3 + x1*x2*x2*x3*y1*y1*y2 - x1*x2*x2*x3*y2 - x1*x2*y1*y1*y2*y2*y3 + x1*x2*y1*y1*y3 + x1*x2*y2*y2*y3 - x1*x2*y3 - x1*x3*y1*y1*y2*y2*y2 + x1*x3*y1*y1*y2 + x1*x3*y2*y2*y2 - x1*x3*y2 + x2*x2*x2*x3*y1*y1*y1 - x2*x2*x2*x3*y1 + x2*x2*y1*y1*y1*y2*y3 - x2*x2*y1*y2*y3 - x2*x3*y1*y1*y1*y2*y2 + x2*x3*y1*y1*y1 + x2*x3*y1*y2*y2 - x2*x3*y1 - y1*y1*y1*y2*y2*y2*y3 + y1*y1*y1*y2*y3 + y1*y2*y2*y2*y3 - y1*y2*y3) * (y3*y3 - x3*x3 - 1 - d * x3*x3 * y3*y3) := by grind
  rw [E1, E2, E3] at key
  generalize (((y1 * y2 + x1 * x2) * (1 + d * x1 * x2 * y1 * y2) * y3 + (x1 * y2 + x2 * y1) * (1 - d * x1 * x2 * y1 * y2) * x3) * ((1 + d * x2 * x3 * y2 * y3) * (1 - d * x2 * x3 * y2 * y3) - d * (x2 * y3 + x3 * y2) * (y2 * y3 + x2 * x3) * x1 * y1)) = A at key ⊢
  generalize ((y1 * (y2 * y3 + x2 * x3) * (1 + d * x2 * x3 * y2 * y3) + x1 * (x2 * y3 + x3 * y2) * (1 - d * x2 * x3 * y2 * y3)) * ((1 + d * x1 * x2 * y1 * y2) * (1 - d * x1 * x2 * y1 * y2) - d * (x1 * y2 + x2 * y1) * (y1 * y2 + x1 * x2) * x3 * y3)) = B at key ⊢
  grind

theorem closed_poly {pp : Nat} [NeZero pp] (d x1 y1 x2 y2 nx ny p m : Fin pp)
    (h1 : nx = x1 * y2 + x2 * y1) (h2 : ny = y1 * y2 + x1 * x2) (h3 : p = 1 + d * x1 * x2 * y1 * y2) (h4 : m = 1 - d * x1 * x2 * y1 * y2)
    (E1 : y1 * y1 - x1 * x1 - 1 - d * x1 * x1 * y1 * y1 = 0) (E2 : y2 * y2 - x2 * x2 - 1 - d * x2 * x2 * y2 * y2 = 0) :
    (ny * p) * (ny * p) - (nx * m) * (nx * m) = (p * m) * (p * m) + d * (nx * ny) * (nx * ny) := by
  subst h1 h2 h3 h4
  have key : ((y1 * y2 + x1 * x2) * (1 + d * x1 * x2 * y1 * y2)) * ((y1 * y2 + x1 * x2) * (1 + d * x1 * x2 * y1 * y2)) - ((x1 * y2 + x2 * y1) * (1 - d * x1 * x2 * y1 * y2)) * ((x1 * y2 + x2 * y1) * (1 - d * x1 * x2 * y1 * y2))
      - (((1 + d * x1 * x2 * y1 * y2) * (1 - d * x1 * x2 * y1 * y2)) * ((1 + d * x1 * x2 * y1 * y2) * (1 - d * x1 * x2 * y1 * y2)) + d * ((x1 * y2 + x2 * y1) * (y1 * y2 + x1 * x2)) * ((x1 * y2 + x2 * y1) * (y1 * y2 + x1 * x2)))
      = (d*d*d*x1*x1*x2*x2*x2*x2*y1*y1*y2*y2*y2*y2 - d*d*x1*x1*x2*x2*x2*x2*y2*y2*y2*y2 + d*d*x2*x2*x2*x2*y1*y1*y2*y2*y2*y2 - d*d*x2*x2*x2*x2*y2*y2*y2*y2 - d*x1*x1*x2*x2*x2*x2*y2*y2 + d*x1*x1*x2*x2*y2*y2*y2*y2 + d*x2*x2*x2*x2*y1*y1*y2*y2 - 2*d*x2*x2*x2*x2*y2*y2*y2*y2 - d*x2*x2*y1*y1*y2*y2*y2*y2 - 2*d*x2*x2*y2*y2 - 2*x2*x2*x2*x2*y2*y2 + x2*x2*x2*x2 + 2*x2*x2*y2*y2*y2*y2 - 4*x2*x2*y2*y2 + y2*y2*y2*y2) * (y1 * y1 - x1 * x1 - 1 - d * x1 * x1 * y1 * y1)
      + (d*x1*x1*x1*x1*x2*x2*y2*y2 + 2*d*x1*x1*x2*x2*y2*y2 + d*x2*x2*y1*y1*y1*y1*y2*y2 - 2*d*x2*x2*y1*y1*y2*y2 + d*x2*x2*y2*y2 + 2*x1*x1*x2*x2*y2*y2 - x1*x1*x2*x2 + x1*x1*y2*y2 - 2*x2*x2*y1*y1*y2*y2 + x2*x2*y1*y1 + 2*x2*x2*y2*y2 - x2*x2 - y1*y1*y2*y2 + y2*y2 + 1) * (y2 * y2 - x2 * x2 - 1 - d * x2 * x2 * y2 * y2) := by grind
  rw [E1, E2] at key
  generalize ((y1 * y2 + x1 * x2) * (1 + d * x1 * x2 * y1 * y2)) * ((y1 * y2 + x1 * x2) * (1 + d * x1 * x2 * y1 * y2)) - ((x1 * y2 + x2 * y1) * (1 - d * x1 * x2 * y1 * y2)) * ((x1 * y2 + x2 * y1) * (1 - d * x1 * x2 * y1 * y2)) = A at key ⊢
  generalize ((1 + d * x1 * x2 * y1 * y2) * (1 - d * x1 * x2 * y1 * y2)) * ((1 + d * x1 * x2 * y1 * y2) * (1 - d * x1 * x2 * y1 * y2)) + d * ((x1 * y2 + x2 * y1) * (y1 * y2 + x1 * x2)) * ((x1 * y2 + x2 * y1) * (y1 * y2 + x1 * x2)) = B at key ⊢
  grind

/-- what is asked of the field -/
structure Field' (pp : Nat) [NeZero pp] where
  inv : Fin pp → Fin pp
  mul_inv : ∀ a, a ≠ 0 → a * inv a = 1
  d : Fin pp
  i : Fin pp
  ii : i * i = -1
  nonsq : ∀ t, t * t ≠ d
  two : (1 : Fin pp) + 1 ≠ 0


theorem one_ne {pp : Nat} [NeZero pp] (S : Field' pp) : (1 : Fin pp) ≠ 0 := by
  intro h
  apply S.two
  grind
theorem cancel {pp : Nat} [NeZero pp] (S : Field' pp) {a b c : Fin pp} (ha : a ≠ 0) (h : a * b = a * c) : b = c := by
  have e := S.mul_inv a ha
  have : S.inv a * (a * b) = S.inv a * (a * c) := by rw [h]
  grind
theorem mul_ne {pp : Nat} [NeZero pp] (S : Field' pp) {a b : Fin pp} (ha : a ≠ 0) (hb : b ≠ 0) : a * b ≠ 0 := by
  intro h
  apply hb
  apply cancel S ha
  grind
theorem eq_zero {pp : Nat} [NeZero pp] (S : Field' pp) {a b : Fin pp} (h : a * b = 0) : a = 0 ∨ b = 0 := by
  by_cases ha : a = 0
  · exact .inl ha
  · right
    apply cancel S ha
    grind
theorem inv_one {pp : Nat} [NeZero pp] (S : Field' pp) : S.inv 1 = 1 := by
  have := S.mul_inv 1 (one_ne S)
  grind
theorem frac {pp : Nat} [NeZero pp] (S : Field' pp) {a b c f : Fin pp} (hb : b ≠ 0) (hf : f ≠ 0) (h : a * f = c * b) : a * S.inv b = c * S.inv f := by
  have e1 := S.mul_inv b hb
  have e2 := S.mul_inv f hf
  apply cancel S (mul_ne S hb hf)
  have : b * f * (a * S.inv b) = (b * S.inv b) * (a * f) := by grind
  rw [this, e1, h]
  have : b * f * (c * S.inv f) = (f * S.inv f) * (c * b) := by grind
  rw [this, e2]

/-- on the curve -/
def On {pp : Nat} [NeZero pp] (S : Field' pp) (x y : Fin pp) : Prop := y * y - x * x - 1 - S.d * x * x * y * y = 0

theorem square_no {pp : Nat} [NeZero pp] (S : Field' pp) {A B : Fin pp} (hB : B ≠ 0) (h : A * A = S.d * (B * B)) : False := by
  have e := S.mul_inv B hB
  apply S.nonsq (A * S.inv B)
  have : A * S.inv B * (A * S.inv B) = (A * A) * (S.inv B * S.inv B) := by grind
  rw [this, h]
  have : S.d * (B * B) * (S.inv B * S.inv B) = S.d * ((B * S.inv B) * (B * S.inv B)) := by grind
  rw [this, e]; grind

theorem complete_key {pp : Nat} [NeZero pp] (d i x1 y1 x2 y2 e : Fin pp) (ii : i * i = -1) (E1 : y1 * y1 - x1 * x1 - 1 - d * x1 * x1 * y1 * y1 = 0) (E2 : y2 * y2 - x2 * x2 - 1 - d * x2 * x2 * y2 * y2 = 0)
    (he : e = d * x1 * x2 * y1 * y2) (h1 : e * e = 1) (s : Fin pp) (hs : s * s = 1) :
    (i * x1 + s * e * y1) * (i * x1 + s * e * y1) = d * ((x1 * y1 * (i * x2 + s * y2)) * (x1 * y1 * (i * x2 + s * y2))) := by
  have a1 : (i * x1 + s * e * y1) * (i * x1 + s * e * y1) = (i * i) * (x1 * x1) + 2 * i * s * e * x1 * y1 + (s * s) * (e * e) * (y1 * y1) := by grind
  have a2 : d * ((x1 * y1 * (i * x2 + s * y2)) * (x1 * y1 * (i * x2 + s * y2))) = d * (x1 * x1) * (y1 * y1) * ((i * i) * (x2 * x2) + (s * s) * (y2 * y2)) + 2 * i * s * x1 * y1 * (d * x1 * x2 * y1 * y2) := by grind
  rw [a1, a2, ← he, ii, hs, h1]
  have a3 : y2 * y2 - x2 * x2 = 1 + d * x2 * x2 * y2 * y2 := by grind
  have a4 : d * (x1 * x1) * (y1 * y1) * (-1 * (x2 * x2) + 1 * (y2 * y2)) = d * (x1 * x1) * (y1 * y1) * (y2 * y2 - x2 * x2) := by grind
  rw [a4, a3]
  have a5 : d * (x1 * x1) * (y1 * y1) * (1 + d * x2 * x2 * y2 * y2) = d * (x1 * x1) * (y1 * y1) + (d * x1 * x2 * y1 * y2) * (d * x1 * x2 * y1 * y2) := by grind
  rw [a5, ← he, h1]
  grind

/-- no divisor of a sum is 0 -/
theorem complete {pp : Nat} [NeZero pp] (S : Field' pp) {x1 y1 x2 y2 : Fin pp} (h1 : On S x1 y1) (h2 : On S x2 y2) (he : (S.d * x1 * x2 * y1 * y2) * (S.d * x1 * x2 * y1 * y2) = 1) : False := by
  have hne : S.d * x1 * x2 * y1 * y2 ≠ 0 := by
    intro h
    rw [h] at he
    apply one_ne S
    grind
  have hxy : x1 * y1 ≠ 0 := by
    intro h
    apply hne
    have : S.d * x1 * x2 * y1 * y2 = S.d * x2 * y2 * (x1 * y1) := by grind
    rw [this, h]; grind
  have k1 := complete_key S.d S.i x1 y1 x2 y2 _ S.ii h1 h2 rfl he 1 (by grind)
  have k2 := complete_key S.d S.i x1 y1 x2 y2 _ S.ii h1 h2 rfl he (-1) (by grind)
  by_cases c1 : S.i * x2 + 1 * y2 = 0
  · by_cases c2 : S.i * x2 + -1 * y2 = 0
    · have e1 : ((1 : Fin pp) + 1) * y2 = 0 := by grind
      have y0 : y2 = 0 := by
        rcases eq_zero S e1 with h | h
        · exact absurd h S.two
        · exact h
      apply hne
      rw [y0]; grind
    · exact square_no S (mul_ne S hxy c2) k2
  · exact square_no S (mul_ne S hxy c1) k1
theorem plus_ne {pp : Nat} [NeZero pp] (S : Field' pp) {x1 y1 x2 y2 : Fin pp} (h1 : On S x1 y1) (h2 : On S x2 y2) : 1 + S.d * x1 * x2 * y1 * y2 ≠ 0 := by
  intro h
  apply complete S h1 h2
  have : S.d * x1 * x2 * y1 * y2 = -1 := by grind
  rw [this]; grind
theorem minus_ne {pp : Nat} [NeZero pp] (S : Field' pp) {x1 y1 x2 y2 : Fin pp} (h1 : On S x1 y1) (h2 : On S x2 y2) : 1 - S.d * x1 * x2 * y1 * y2 ≠ 0 := by
  intro h
  apply complete S h1 h2
  have : S.d * x1 * x2 * y1 * y2 = 1 := by grind
  rw [this]; grind

def addX {pp : Nat} [NeZero pp] (S : Field' pp) (x1 y1 x2 y2 : Fin pp) : Fin pp := (x1 * y2 + x2 * y1) * S.inv (1 + S.d * x1 * x2 * y1 * y2)
def addY {pp : Nat} [NeZero pp] (S : Field' pp) (x1 y1 x2 y2 : Fin pp) : Fin pp := (y1 * y2 + x1 * x2) * S.inv (1 - S.d * x1 * x2 * y1 * y2)

theorem addX_mul {pp : Nat} [NeZero pp] (S : Field' pp) {x1 y1 x2 y2 : Fin pp} (h1 : On S x1 y1) (h2 : On S x2 y2) : addX S x1 y1 x2 y2 * (1 + S.d * x1 * x2 * y1 * y2) = x1 * y2 + x2 * y1 := by
  have e := S.mul_inv _ (plus_ne S h1 h2)
  unfold addX
  generalize 1 + S.d * x1 * x2 * y1 * y2 = p at e ⊢
  grind
theorem addY_mul {pp : Nat} [NeZero pp] (S : Field' pp) {x1 y1 x2 y2 : Fin pp} (h1 : On S x1 y1) (h2 : On S x2 y2) : addY S x1 y1 x2 y2 * (1 - S.d * x1 * x2 * y1 * y2) = y1 * y2 + x1 * x2 := by
  have e := S.mul_inv _ (minus_ne S h1 h2)
  unfold addY
  generalize 1 - S.d * x1 * x2 * y1 * y2 = p at e ⊢
  grind

theorem closed {pp : Nat} [NeZero pp] (S : Field' pp) {x1 y1 x2 y2 : Fin pp} (h1 : On S x1 y1) (h2 : On S x2 y2) : On S (addX S x1 y1 x2 y2) (addY S x1 y1 x2 y2) := by
  have eX := addX_mul S h1 h2
  have eY := addY_mul S h1 h2
  have hp := plus_ne S h1 h2
  have hm := minus_ne S h1 h2
  have key := closed_poly S.d x1 y1 x2 y2 _ _ _ _ rfl rfl rfl rfl h1 h2
  rw [← eX, ← eY] at key
  generalize addX S x1 y1 x2 y2 = X at key ⊢
  generalize addY S x1 y1 x2 y2 = Y at key ⊢
  generalize 1 + S.d * x1 * x2 * y1 * y2 = p at key hp
  generalize 1 - S.d * x1 * x2 * y1 * y2 = m at key hm
  unfold On
  have hn := mul_ne S (mul_ne S hp hm) (mul_ne S hp hm)
  apply cancel S hn
  have : p * m * (p * m) * (Y * Y - X * X - 1 - S.d * X * X * Y * Y) = ((Y * m * p) * (Y * m * p) - (X * p * m) * (X * p * m)) - ((p * m) * (p * m) + S.d * ((X * p) * (Y * m)) * ((X * p) * (Y * m))) := by grind
  rw [this, key]; grind

theorem addX_comm {pp : Nat} [NeZero pp] (S : Field' pp) (x1 y1 x2 y2 : Fin pp) : addX S x1 y1 x2 y2 = addX S x2 y2 x1 y1 := by
  unfold addX
  have e1 : x1 * y2 + x2 * y1 = x2 * y1 + x1 * y2 := by grind
  have e2 : 1 + S.d * x1 * x2 * y1 * y2 = 1 + S.d * x2 * x1 * y2 * y1 := by grind
  rw [e1, e2]
theorem addY_comm {pp : Nat} [NeZero pp] (S : Field' pp) (x1 y1 x2 y2 : Fin pp) : addY S x1 y1 x2 y2 = addY S x2 y2 x1 y1 := by
  unfold addY
  have e1 : y1 * y2 + x1 * x2 = y2 * y1 + x2 * x1 := by grind
  have e2 : 1 - S.d * x1 * x2 * y1 * y2 = 1 - S.d * x2 * x1 * y2 * y1 := by grind
  rw [e1, e2]

theorem assoc_frac {pp : Nat} [NeZero pp] (S : Field' pp) (X12 Y12 X23 Y23 p12 m12 p23 m23 x1 y1 x3 y3 nx12 ny12 nx23 ny23 : Fin pp) (hp12 : p12 ≠ 0) (hm12 : m12 ≠ 0) (hp23 : p23 ≠ 0) (hm23 : m23 ≠ 0)
    (a1 : X12 * p12 = nx12) (a2 : Y12 * m12 = ny12) (a3 : X23 * p23 = nx23) (a4 : Y23 * m23 = ny23) (s : Fin pp)
    (L R : Fin pp) (hL : L * (p12 * m12) = nx12 * m12 * y3 + x3 * ny12 * p12) (hR : R * (p23 * m23) = x1 * ny23 * p23 + nx23 * m23 * y1)
    (key : (nx12 * m12 * y3 + x3 * ny12 * p12) * (p23 * m23 + s * S.d * nx23 * ny23 * x1 * y1) = (x1 * ny23 * p23 + nx23 * m23 * y1) * (p12 * m12 + s * S.d * nx12 * ny12 * x3 * y3)) :
    L * (1 + s * S.d * x1 * X23 * y1 * Y23) = R * (1 + s * S.d * X12 * x3 * Y12 * y3) := by
  have hn := mul_ne S (mul_ne S hp12 hm12) (mul_ne S hp23 hm23)
  apply cancel S hn
  have e1 : (1 + s * S.d * x1 * X23 * y1 * Y23) * (p23 * m23) = p23 * m23 + s * S.d * nx23 * ny23 * x1 * y1 := by rw [← a3, ← a4]; grind
  have e2 : (1 + s * S.d * X12 * x3 * Y12 * y3) * (p12 * m12) = p12 * m12 + s * S.d * nx12 * ny12 * x3 * y3 := by rw [← a1, ← a2]; grind
  have e3 : p12 * m12 * (p23 * m23) * (L * (1 + s * S.d * x1 * X23 * y1 * Y23)) = (L * (p12 * m12)) * ((1 + s * S.d * x1 * X23 * y1 * Y23) * (p23 * m23)) := by grind
  have e4 : p12 * m12 * (p23 * m23) * (R * (1 + s * S.d * X12 * x3 * Y12 * y3)) = (R * (p23 * m23)) * ((1 + s * S.d * X12 * x3 * Y12 * y3) * (p12 * m12)) := by grind
  rw [e3, e4, e1, e2, hL, hR, key]
theorem assoc_fracY {pp : Nat} [NeZero pp] (S : Field' pp) (X12 Y12 X23 Y23 p12 m12 p23 m23 x1 y1 x3 y3 nx12 ny12 nx23 ny23 : Fin pp) (hp12 : p12 ≠ 0) (hm12 : m12 ≠ 0) (hp23 : p23 ≠ 0) (hm23 : m23 ≠ 0)
    (a1 : X12 * p12 = nx12) (a2 : Y12 * m12 = ny12) (a3 : X23 * p23 = nx23) (a4 : Y23 * m23 = ny23)
    (L R : Fin pp) (hL : L * (p12 * m12) = ny12 * p12 * y3 + nx12 * m12 * x3) (hR : R * (p23 * m23) = y1 * ny23 * p23 + x1 * nx23 * m23)
    (key : (ny12 * p12 * y3 + nx12 * m12 * x3) * (p23 * m23 - S.d * nx23 * ny23 * x1 * y1) = (y1 * ny23 * p23 + x1 * nx23 * m23) * (p12 * m12 - S.d * nx12 * ny12 * x3 * y3)) :
    L * (1 - S.d * x1 * X23 * y1 * Y23) = R * (1 - S.d * X12 * x3 * Y12 * y3) := by
  have hn := mul_ne S (mul_ne S hp12 hm12) (mul_ne S hp23 hm23)
  apply cancel S hn
  have e1 : (1 - S.d * x1 * X23 * y1 * Y23) * (p23 * m23) = p23 * m23 - S.d * nx23 * ny23 * x1 * y1 := by rw [← a3, ← a4]; grind
  have e2 : (1 - S.d * X12 * x3 * Y12 * y3) * (p12 * m12) = p12 * m12 - S.d * nx12 * ny12 * x3 * y3 := by rw [← a1, ← a2]; grind
  have e3 : p12 * m12 * (p23 * m23) * (L * (1 - S.d * x1 * X23 * y1 * Y23)) = (L * (p12 * m12)) * ((1 - S.d * x1 * X23 * y1 * Y23) * (p23 * m23)) := by grind
  have e4 : p12 * m12 * (p23 * m23) * (R * (1 - S.d * X12 * x3 * Y12 * y3)) = (R * (p23 * m23)) * ((1 - S.d * X12 * x3 * Y12 * y3) * (p12 * m12)) := by grind
  rw [e3, e4, e1, e2, hL, hR, key]

theorem addX_assoc {pp : Nat} [NeZero pp] (S : Field' pp) {x1 y1 x2 y2 x3 y3 : Fin pp} (h1 : On S x1 y1) (h2 : On S x2 y2) (h3 : On S x3 y3) :
    addX S (addX S x1 y1 x2 y2) (addY S x1 y1 x2 y2) x3 y3 = addX S x1 y1 (addX S x2 y2 x3 y3) (addY S x2 y2 x3 y3) := by
  have c12 := closed S h1 h2
  have c23 := closed S h2 h3
  have d1 := plus_ne S c12 h3
  have d2 := plus_ne S h1 c23
  have eX12 := addX_mul S h1 h2
  have eY12 := addY_mul S h1 h2
  have eX23 := addX_mul S h2 h3
  have eY23 := addY_mul S h2 h3
  have hp12 := plus_ne S h1 h2
  have hm12 := minus_ne S h1 h2
  have hp23 := plus_ne S h2 h3
  have hm23 := minus_ne S h2 h3
  have key := assoc_x S.d x1 y1 x2 y2 x3 y3 _ _ _ _ _ _ _ _ rfl rfl rfl rfl rfl rfl rfl rfl h1 h2 h3
  unfold addX at d1 d2 ⊢
  refine frac S d1 d2 ?_
  change (addX S x1 y1 x2 y2 * y3 + x3 * addY S x1 y1 x2 y2) * (1 + S.d * x1 * addX S x2 y2 x3 y3 * y1 * addY S x2 y2 x3 y3) = (x1 * addY S x2 y2 x3 y3 + addX S x2 y2 x3 y3 * y1) * (1 + S.d * addX S x1 y1 x2 y2 * x3 * addY S x1 y1 x2 y2 * y3)
  generalize addX S x1 y1 x2 y2 = X12 at *
  generalize addY S x1 y1 x2 y2 = Y12 at *
  generalize addX S x2 y2 x3 y3 = X23 at *
  generalize addY S x2 y2 x3 y3 = Y23 at *
  generalize 1 + S.d * x1 * x2 * y1 * y2 = p12 at *
  generalize 1 - S.d * x1 * x2 * y1 * y2 = m12 at *
  generalize 1 + S.d * x2 * x3 * y2 * y3 = p23 at *
  generalize 1 - S.d * x2 * x3 * y2 * y3 = m23 at *
  have one1 : (1 : Fin pp) * S.d = S.d := by grind
  have := assoc_frac S X12 Y12 X23 Y23 p12 m12 p23 m23 x1 y1 x3 y3 _ _ _ _ hp12 hm12 hp23 hm23 eX12 eY12 eX23 eY23 1 (X12 * y3 + x3 * Y12) (x1 * Y23 + X23 * y1)
    (by rw [← eX12, ← eY12]; grind) (by rw [← eX23, ← eY23]; grind) (by rw [one1]; exact key)
  rw [one1] at this
  exact this
theorem addY_assoc {pp : Nat} [NeZero pp] (S : Field' pp) {x1 y1 x2 y2 x3 y3 : Fin pp} (h1 : On S x1 y1) (h2 : On S x2 y2) (h3 : On S x3 y3) :
    addY S (addX S x1 y1 x2 y2) (addY S x1 y1 x2 y2) x3 y3 = addY S x1 y1 (addX S x2 y2 x3 y3) (addY S x2 y2 x3 y3) := by
  have c12 := closed S h1 h2
  have c23 := closed S h2 h3
  have d1 := minus_ne S c12 h3
  have d2 := minus_ne S h1 c23
  have eX12 := addX_mul S h1 h2
  have eY12 := addY_mul S h1 h2
  have eX23 := addX_mul S h2 h3
  have eY23 := addY_mul S h2 h3
  have hp12 := plus_ne S h1 h2
  have hm12 := minus_ne S h1 h2
  have hp23 := plus_ne S h2 h3
  have hm23 := minus_ne S h2 h3
  have key := assoc_y S.d x1 y1 x2 y2 x3 y3 _ _ _ _ _ _ _ _ rfl rfl rfl rfl rfl rfl rfl rfl h1 h2 h3
  unfold addY at d1 d2 ⊢
  refine frac S d1 d2 ?_
  change (addY S x1 y1 x2 y2 * y3 + addX S x1 y1 x2 y2 * x3) * (1 - S.d * x1 * addX S x2 y2 x3 y3 * y1 * addY S x2 y2 x3 y3) = (y1 * addY S x2 y2 x3 y3 + x1 * addX S x2 y2 x3 y3) * (1 - S.d * addX S x1 y1 x2 y2 * x3 * addY S x1 y1 x2 y2 * y3)
  generalize addX S x1 y1 x2 y2 = X12 at *
  generalize addY S x1 y1 x2 y2 = Y12 at *
  generalize addX S x2 y2 x3 y3 = X23 at *
  generalize addY S x2 y2 x3 y3 = Y23 at *
  generalize 1 + S.d * x1 * x2 * y1 * y2 = p12 at *
  generalize 1 - S.d * x1 * x2 * y1 * y2 = m12 at *
  generalize 1 + S.d * x2 * x3 * y2 * y3 = p23 at *
  generalize 1 - S.d * x2 * x3 * y2 * y3 = m23 at *
  exact assoc_fracY S X12 Y12 X23 Y23 p12 m12 p23 m23 x1 y1 x3 y3 _ _ _ _ hp12 hm12 hp23 hm23 eX12 eY12 eX23 eY23 (Y12 * y3 + X12 * x3) (y1 * Y23 + x1 * X23)
    (by rw [← eX12, ← eY12]; grind) (by rw [← eX23, ← eY23]; grind) key

/-- points -/
structure Pt {pp : Nat} [NeZero pp] (S : Field' pp) where
  x : Fin pp
  y : Fin pp
  on : On S x y
theorem Pt.ext' {pp : Nat} [NeZero pp] (S : Field' pp) {a b : Pt S} (hx : a.x = b.x) (hy : a.y = b.y) : a = b := by
  obtain ⟨ax, ay, ah⟩ := a
  obtain ⟨bx, bY, bh⟩ := b
  simp only at hx hy
  subst hx hy
  rfl
def add {pp : Nat} [NeZero pp] (S : Field' pp) (a b : Pt S) : Pt S := ⟨addX S a.x a.y b.x b.y, addY S a.x a.y b.x b.y, closed S a.on b.on⟩
def zero {pp : Nat} [NeZero pp] (S : Field' pp) : Pt S := ⟨0, 1, by unfold On; grind⟩
def neg {pp : Nat} [NeZero pp] (S : Field' pp) (a : Pt S) : Pt S := ⟨-a.x, a.y, by have := a.on; unfold On at *; grind⟩
theorem add_assoc {pp : Nat} [NeZero pp] (S : Field' pp) (a b c : Pt S) : add S (add S a b) c = add S a (add S b c) := Pt.ext' S (addX_assoc S a.on b.on c.on) (addY_assoc S a.on b.on c.on)
theorem add_comm {pp : Nat} [NeZero pp] (S : Field' pp) (a b : Pt S) : add S a b = add S b a := Pt.ext' S (addX_comm S _ _ _ _) (addY_comm S _ _ _ _)
theorem add_zero {pp : Nat} [NeZero pp] (S : Field' pp) (a : Pt S) : add S a (zero S) = a := by
  refine Pt.ext' S ?_ ?_
  · show addX S a.x a.y 0 1 = a.x
    unfold addX
    have e1 : 1 + S.d * a.x * 0 * a.y * 1 = 1 := by grind
    rw [e1, inv_one S]; grind
  · show addY S a.x a.y 0 1 = a.y
    unfold addY
    have e1 : 1 - S.d * a.x * 0 * a.y * 1 = 1 := by grind
    rw [e1, inv_one S]; grind
theorem zero_add {pp : Nat} [NeZero pp] (S : Field' pp) (a : Pt S) : add S (zero S) a = a := by rw [add_comm, add_zero]
theorem add_neg {pp : Nat} [NeZero pp] (S : Field' pp) (a : Pt S) : add S a (neg S a) = zero S := by
  refine Pt.ext' S ?_ ?_
  · show addX S a.x a.y (-a.x) a.y = 0
    unfold addX
    have e1 : a.x * a.y + -a.x * a.y = 0 := by grind
    rw [e1]; grind
  · show addY S a.x a.y (-a.x) a.y = 1
    have h := a.on
    have hne : 1 - S.d * a.x * -a.x * a.y * a.y ≠ 0 := minus_ne S a.on (neg S a).on
    have e := S.mul_inv _ hne
    unfold addY
    unfold On at h
    have e1 : a.y * a.y + a.x * -a.x = 1 - S.d * a.x * -a.x * a.y * a.y := by grind
    rw [e1, e]
theorem neg_add {pp : Nat} [NeZero pp] (S : Field' pp) (a b : Pt S) : neg S (add S a b) = add S (neg S a) (neg S b) := by
  refine Pt.ext' S ?_ ?_
  · show -addX S a.x a.y b.x b.y = addX S (-a.x) a.y (-b.x) b.y
    unfold addX
    have e1 : 1 + S.d * -a.x * -b.x * a.y * b.y = 1 + S.d * a.x * b.x * a.y * b.y := by grind
    rw [e1]; grind
  · show addY S a.x a.y b.x b.y = addY S (-a.x) a.y (-b.x) b.y
    unfold addY
    have e1 : 1 - S.d * -a.x * -b.x * a.y * b.y = 1 - S.d * a.x * b.x * a.y * b.y := by grind
    have e2 : a.y * b.y + -a.x * -b.x = a.y * b.y + a.x * b.x := by grind
    rw [e1, e2]

/-- so many times a point -/
def mul {pp : Nat} [NeZero pp] (S : Field' pp) : Nat → Pt S → Pt S
  | 0, _ => zero S
  | n + 1, a => add S (mul S n a) a
theorem mul_add {pp : Nat} [NeZero pp] (S : Field' pp) (m n : Nat) (a : Pt S) : mul S (m + n) a = add S (mul S m a) (mul S n a) := by
  induction n with
  | zero => exact (add_zero S _).symm
  | succ n ih =>
    show add S (mul S (m + n) a) a = _
    rw [ih, add_assoc]; rfl
theorem mul_mul {pp : Nat} [NeZero pp] (S : Field' pp) (m n : Nat) (a : Pt S) : mul S (m * n) a = mul S m (mul S n a) := by
  induction m with
  | zero => rw [Nat.zero_mul]; rfl
  | succ m ih =>
    rw [Nat.succ_mul, mul_add, ih]; rfl
theorem mul_zero {pp : Nat} [NeZero pp] (S : Field' pp) (n : Nat) : mul S n (zero S) = zero S := by
  induction n with
  | zero => rfl
  | succ n ih =>
    show add S (mul S n (zero S)) (zero S) = _
    rw [ih, add_zero]
theorem mul_one {pp : Nat} [NeZero pp] (S : Field' pp) (a : Pt S) : mul S 1 a = a := zero_add S a
/-- modulo a number of which the point's multiple is the zero -/
theorem mul_mod {pp : Nat} [NeZero pp] (S : Field' pp) {q : Nat} {a : Pt S} (h : mul S q a = zero S) (n : Nat) : mul S (n % q) a = mul S n a := by
  conv => rhs; rw [← Nat.div_add_mod n q, mul_add, Nat.mul_comm, mul_mul, h, mul_zero, zero_add]
/-- three numbers that stand for a point: x / z, y / z -/
def Rep {pp : Nat} [NeZero pp] (S : Field' pp) (X Y Z : Fin pp) (p : Pt S) : Prop := Z ≠ 0 ∧ X = p.x * Z ∧ Y = p.y * Z
theorem Rep.add {pp : Nat} [NeZero pp] (S : Field' pp) {X1 Y1 Z1 X2 Y2 Z2 : Fin pp} {p q : Pt S} (h1 : Rep S X1 Y1 Z1 p) (h2 : Rep S X2 Y2 Z2 q) (z whole change more less : Fin pp)
    (hz : z = Z1 * Z2) (hw : whole = z * z) (hc : change = S.d * (X1 * X2) * (Y1 * Y2)) (hm : more = whole + change) (hl : less = whole - change) :
    Rep S (z * (X1 * Y2 + X2 * Y1) * less) (z * (Y1 * Y2 + X1 * X2) * more) (more * less) (Ed.add S p q) := by
  obtain ⟨n1, rfl, rfl⟩ := h1
  obtain ⟨n2, rfl, rfl⟩ := h2
  have hp := plus_ne S p.on q.on
  have hq := minus_ne S p.on q.on
  have eX := addX_mul S p.on q.on
  have eY := addY_mul S p.on q.on
  have nz : z ≠ 0 := by rw [hz]; exact mul_ne S n1 n2
  have e1 : change = (S.d * p.x * q.x * p.y * q.y) * (z * z) := by rw [hc, hz]; grind
  have e2 : more = (1 + S.d * p.x * q.x * p.y * q.y) * (z * z) := by rw [hm, hw, e1]; grind
  have e3 : less = (1 - S.d * p.x * q.x * p.y * q.y) * (z * z) := by rw [hl, hw, e1]; grind
  refine ⟨?_, ?_, ?_⟩
  · rw [e2, e3]; exact mul_ne S (mul_ne S hp (mul_ne S nz nz)) (mul_ne S hq (mul_ne S nz nz))
  · show z * (p.x * Z1 * (q.y * Z2) + q.x * Z2 * (p.y * Z1)) * less = addX S p.x p.y q.x q.y * (more * less)
    rw [e2]
    have : addX S p.x p.y q.x q.y * ((1 + S.d * p.x * q.x * p.y * q.y) * (z * z) * less) = (addX S p.x p.y q.x q.y * (1 + S.d * p.x * q.x * p.y * q.y)) * (z * z) * less := by grind
    rw [this, eX, hz]; grind
  · show z * (p.y * Z1 * (q.y * Z2) + p.x * Z1 * (q.x * Z2)) * more = addY S p.x p.y q.x q.y * (more * less)
    rw [e3]
    have : addY S p.x p.y q.x q.y * (more * ((1 - S.d * p.x * q.x * p.y * q.y) * (z * z))) = (addY S p.x p.y q.x q.y * (1 - S.d * p.x * q.x * p.y * q.y)) * (z * z) * more := by grind
    rw [this, eY, hz]; grind
theorem Rep.zero {pp : Nat} [NeZero pp] (S : Field' pp) : Rep S 0 1 1 (Ed.zero S) := by
  refine ⟨one_ne S, ?_, ?_⟩
  · show (0 : Fin pp) = 0 * 1
    grind
  · show (1 : Fin pp) = 1 * 1
    grind
theorem Rep.neg {pp : Nat} [NeZero pp] (S : Field' pp) {X Y Z : Fin pp} {p : Pt S} (h : Rep S X Y Z p) : Rep S (-X) Y Z (Ed.neg S p) := by
  obtain ⟨n, rfl, rfl⟩ := h
  refine ⟨n, ?_, rfl⟩
  show -(p.x * Z) = -p.x * Z
  grind
theorem Rep.of {pp : Nat} [NeZero pp] (S : Field' pp) (p : Pt S) : Rep S p.x p.y 1 p := by
  refine ⟨one_ne S, ?_, ?_⟩ <;> grind
theorem Rep.x {pp : Nat} [NeZero pp] (S : Field' pp) {X Y Z : Fin pp} {p : Pt S} (h : Rep S X Y Z p) : X * S.inv Z = p.x := by
  obtain ⟨n, rfl, rfl⟩ := h
  have := S.mul_inv Z n
  grind
theorem Rep.y {pp : Nat} [NeZero pp] (S : Field' pp) {X Y Z : Fin pp} {p : Pt S} (h : Rep S X Y Z p) : Y * S.inv Z = p.y := by
  obtain ⟨n, rfl, rfl⟩ := h
  have := S.mul_inv Z n
  grind

/-- a number by its bits, the highest first -/
def bitsVal : List Bool → Nat → Nat
  | [], n => n
  | b :: l, n => bitsVal l (2 * n + (if b then 1 else 0))
theorem mul_twice {pp : Nat} [NeZero pp] (S : Field' pp) (n : Nat) (a : Pt S) : Ed.add S (mul S n a) (mul S n a) = mul S (2 * n) a := by
  rw [Nat.two_mul, mul_add]
theorem mul_succ {pp : Nat} [NeZero pp] (S : Field' pp) (n : Nat) (a : Pt S) : Ed.add S (mul S n a) a = mul S (n + 1) a := rfl

end Go.Proofs.YtclpbaokadfhhaaGreatDoor.Ed

namespace Go.Proofs.YtclpbaokadfhhaaGreatDoor.Gf

theorem P_pos : 0 < Pr.P := by unfold Pr.P; omega
def Pm : Nat := 57896044618658097711785492504343953926634992332820282019728792003956564819948
abbrev Fp : Type := Fin (Pm + 1)
def ofN (n : Nat) : Fp := Fin.ofNat (Pm + 1) n
def toN (a : Fp) : Nat := Fin.val (n := Pm + 1) a
theorem toN_lt (a : Fp) : toN a < Pr.P := Fin.isLt (n := Pm + 1) a
theorem toN_ofN (n : Nat) : toN (ofN n) = n % Pr.P := rfl
theorem ofN_toN (a : Fp) : ofN (toN a) = a := Fin.ext (Nat.mod_eq_of_lt (toN_lt a))
theorem toN_inj {a b : Fp} (h : toN a = toN b) : a = b := Fin.ext h
theorem ofN_eq {a b : Nat} : ofN a = ofN b ↔ a % Pr.P = b % Pr.P :=
  ⟨fun h => by rw [← toN_ofN, ← toN_ofN, h], fun h => toN_inj (by rw [toN_ofN, toN_ofN, h])⟩
theorem ofN_add (a b : Nat) : ofN (a + b) = ofN a + ofN b := by
  apply toN_inj
  show (a + b) % Pr.P = (a % Pr.P + b % Pr.P) % Pr.P
  rw [← Nat.add_mod]
theorem ofN_mul (a b : Nat) : ofN (a * b) = ofN a * ofN b := by
  apply toN_inj
  show (a * b) % Pr.P = (a % Pr.P * (b % Pr.P)) % Pr.P
  rw [← Nat.mul_mod]
theorem ofN_zero : ofN 0 = 0 := rfl
theorem ofN_one : ofN 1 = 1 := rfl
theorem ofN_mod (n : Nat) : ofN (n % Pr.P) = ofN n := by rw [ofN_eq, Nat.mod_mod]
theorem ofN_sub {a b c : Nat} (h : (c + b) % Pr.P = a % Pr.P) : ofN c = ofN a - ofN b := by
  have : ofN c + ofN b = ofN a := by rw [← ofN_add, ofN_eq, h]
  rw [← this]
  generalize ofN c = x
  generalize ofN b = y
  grind
theorem ne_zero {a : Fp} (h : a ≠ 0) : toN a % Pr.P ≠ 0 := by
  intro e
  apply h
  rw [← ofN_toN a, ← ofN_zero, ofN_eq, e, Nat.zero_mod]

/-- powers -/
def pw (a : Fp) : Nat → Fp
  | 0 => 1
  | n + 1 => pw a n * a
theorem ofN_pow (a : Nat) : ∀ n : Nat, ofN (a ^ n) = pw (ofN a) n
  | 0 => rfl
  | n + 1 => by rw [Nat.pow_succ, ofN_mul, ofN_pow a n]; rfl
theorem pw_add (a : Fp) (m : Nat) : ∀ n : Nat, pw a (m + n) = pw a m * pw a n
  | 0 => by
    show pw a m = pw a m * 1
    generalize pw a m = x
    grind
  | n + 1 => by
    show pw a (m + n) * a = pw a m * (pw a n * a)
    rw [pw_add a m n]
    generalize pw a m = x
    generalize pw a n = y
    grind
theorem pw_mul_base (a b : Fp) : ∀ n : Nat, pw (a * b) n = pw a n * pw b n
  | 0 => by
    show (1 : Fp) = 1 * 1
    grind
  | n + 1 => by
    show pw (a * b) n * (a * b) = (pw a n * a) * (pw b n * b)
    rw [pw_mul_base a b n]
    generalize pw a n = x
    generalize pw b n = y
    grind
theorem fermat {a : Fp} (h : a ≠ 0) (n : Nat) (hn : n + 1 = Pr.P) : pw a n = 1 := by
  have e := Pr.fermat (toN a) (ne_zero h)
  have e2 : Pr.P - 1 = n := by omega
  rw [e2] at e
  rw [← ofN_toN a, ← ofN_pow, ← ofN_one, ofN_eq, e]
  rfl

/-- one through a number, 0 of 0 -/
def inv (a : Fp) : Fp := pw a 57896044618658097711785492504343953926634992332820282019728792003956564819947
theorem mul_inv (a : Fp) (h : a ≠ 0) : a * inv a = 1 := by
  have e := fermat h 57896044618658097711785492504343953926634992332820282019728792003956564819948 (by unfold Pr.P; omega)
  have e2 : pw a 57896044618658097711785492504343953926634992332820282019728792003956564819948 = pw a (57896044618658097711785492504343953926634992332820282019728792003956564819947 + 1) := by congr 1
  rw [e2, pw_add] at e
  unfold inv
  have e3 : pw a 1 = a := by
    show (1 : Fp) * a = a
    grind
  rw [e3] at e
  generalize pw a 57896044618658097711785492504343953926634992332820282019728792003956564819947 = x at e ⊢
  rw [← e]
  grind
theorem ofN_inv (n e : Nat) (he : e + 2 = Pr.P) : ofN (n ^ e) = inv (ofN n) := by
  rw [ofN_pow]
  unfold inv
  have : e = 57896044618658097711785492504343953926634992332820282019728792003956564819947 := by unfold Pr.P at he; omega
  rw [this]

def D : Nat := 37095705934669439343138083508754565189542113879843219016388785533085940283555
def I : Nat := 19681161376707505956807079304988542015446066515923890162744021073123829784752
theorem two_ne : (1 : Fp) + 1 ≠ 0 := by
  intro h
  have e : ofN 2 = ofN 0 := h
  rw [ofN_eq] at e
  exact absurd e (by decide +kernel)
theorem ii : ofN I * ofN I = -1 := by
  have e : ofN (I * I + 1) = ofN 0 := by rw [ofN_eq]; decide +kernel
  rw [ofN_add, ofN_mul, ofN_one, ofN_zero] at e
  generalize ofN I = x at e ⊢
  grind
theorem half : Pr.pm Pr.P 256 D 28948022309329048855892746252171976963317496166410141009864396001978282409974 ≠ 1 := by decide +kernel
theorem nonsq (t : Fp) : t * t ≠ ofN D := by
  intro h
  have ht : t ≠ 0 := by
    intro e
    rw [e] at h
    have : ofN D = ofN 0 := by rw [← h, ofN_zero]; grind
    rw [ofN_eq] at this
    exact absurd this (by decide +kernel)
  have e := fermat ht 57896044618658097711785492504343953926634992332820282019728792003956564819948 (by unfold Pr.P; omega)
  have e2 : pw t 57896044618658097711785492504343953926634992332820282019728792003956564819948 = pw t (28948022309329048855892746252171976963317496166410141009864396001978282409974 + 28948022309329048855892746252171976963317496166410141009864396001978282409974) := by congr 1
  rw [e2, pw_add, ← pw_mul_base, h, ← ofN_pow, ← ofN_one, ofN_eq] at e
  apply half
  rw [Pr.pm_eq Pr.P 256 D _ (by omega), e]
  rfl
/-- the field and the curve -/
def S : Ed.Field' (Pm + 1) where
  inv := inv
  mul_inv := mul_inv
  d := ofN D
  i := ofN I
  ii := ii
  nonsq := nonsq
  two := two_ne

def Bx : Nat := 15112221349535400772501151409588531511454012693041857206046113283949847762202
def By : Nat := 46316835694926478169428394003475163141307993866256225615783033603165251855960
theorem B_on : Ed.On S (ofN Bx) (ofN By) := by
  show ofN By * ofN By - ofN Bx * ofN Bx - 1 - ofN D * ofN Bx * ofN Bx * ofN By * ofN By = 0
  have e : ofN (By * By) = ofN (Bx * Bx + 1 + D * Bx * Bx * By * By) := by rw [ofN_eq]; decide +kernel
  simp only [ofN_add, ofN_mul, ofN_one] at e
  generalize ofN By = y at e ⊢
  generalize ofN Bx = x at e ⊢
  generalize ofN D = d at e ⊢
  grind
abbrev Pt := Ed.Pt S
/-- B -/
def B : Pt := ⟨ofN Bx, ofN By, B_on⟩

/-- sums of three numbers each, as a closed reckoning -/
def sum3 (a b : Nat × Nat × Nat) : Nat × Nat × Nat :=
  let z := a.2.2 * b.2.2 % Pr.P
  let w := z * z % Pr.P
  let xx := a.1 * b.1 % Pr.P
  let yy := a.2.1 * b.2.1 % Pr.P
  let c := D * xx % Pr.P * yy % Pr.P
  let more := w + c
  let less := w + (Pr.P - c)
  (z * (a.1 * b.2.1 + b.1 * a.2.1) % Pr.P * less % Pr.P, z * (yy + xx) % Pr.P * more % Pr.P, more * less % Pr.P)
def Rep3 (a : Nat × Nat × Nat) (p : Pt) : Prop := Ed.Rep S (ofN a.1) (ofN a.2.1) (ofN a.2.2) p
theorem sum3_rep {a b : Nat × Nat × Nat} {p q : Pt} (h1 : Rep3 a p) (h2 : Rep3 b q) : Rep3 (sum3 a b) (Ed.add S p q) := by
  obtain ⟨x1, y1, z1⟩ := a
  obtain ⟨x2, y2, z2⟩ := b
  have h := Ed.Rep.add S h1 h2 _ _ _ _ _ rfl rfl rfl rfl rfl
  have dS : S.d = ofN D := rfl
  rw [dS] at h
  simp only at h
  have less : ∀ w c : Nat, ofN (w + (Pr.P - c % Pr.P)) = ofN w - ofN c := by
    intro w c
    apply ofN_sub
    have hlt := Nat.mod_lt c P_pos
    have e : w + (Pr.P - c % Pr.P) + c = w + (Pr.P - c % Pr.P + c % Pr.P) + Pr.P * (c / Pr.P) := by
      have := Nat.div_add_mod c Pr.P
      omega
    rw [e, Nat.sub_add_cancel (Nat.le_of_lt hlt), Nat.add_mul_mod_self_left, Nat.add_mod_right]
  show Ed.Rep S (ofN _) (ofN _) (ofN _) _
  simp only [sum3, ofN_mod, ofN_mul, ofN_add, less]
  exact h
def times3 (a : Nat × Nat × Nat) : Nat → Nat → Nat × Nat × Nat
  | 0, _ => (0, 1, 1)
  | f + 1, n => let h := times3 a f (n / 2); let s := sum3 h h; if n % 2 = 1 then sum3 s a else s
theorem times3_rep {a : Nat × Nat × Nat} {p : Pt} (h : Rep3 a p) : ∀ f n : Nat, n < 2 ^ f → Rep3 (times3 a f n) (Ed.mul S n p)
  | 0, n, hn => by
    have : n = 0 := by simpa using hn
    subst this
    exact Ed.Rep.zero S
  | f + 1, n, hn => by
    have ih := times3_rep h f (n / 2) (by rw [Nat.pow_succ] at hn; omega)
    have h2 := sum3_rep ih ih
    rw [Ed.mul_twice] at h2
    show Rep3 (if n % 2 = 1 then sum3 (sum3 (times3 a f (n / 2)) (times3 a f (n / 2))) a else sum3 (times3 a f (n / 2)) (times3 a f (n / 2))) _
    split
    · rename_i hodd
      have h3 := sum3_rep h2 h
      rw [Ed.mul_succ] at h3
      have e : 2 * (n / 2) + 1 = n := by omega
      rw [e] at h3
      exact h3
    · have e : 2 * (n / 2) = n := by omega
      rw [e] at h2
      exact h2
/-- Q -/
def Q : Nat := 7237005577332262213973186563042994240857116359379907606001950938285454250989
theorem Q_times : (let r := times3 (Bx, By, 1) 253 Q; decide (r.1 % Pr.P = 0) && decide (r.2.1 % Pr.P = r.2.2 % Pr.P)) = true := by decide +kernel
theorem QB : Ed.mul S Q B = Ed.zero S := by
  have hB : Rep3 (Bx, By, 1) B := Ed.Rep.of S B
  have h := times3_rep hB 253 Q (by decide +kernel)
  have e := Q_times
  generalize times3 (Bx, By, 1) 253 Q = r at h e
  obtain ⟨x, y, z⟩ := r
  simp only [Bool.and_eq_true, decide_eq_true_eq] at e
  obtain ⟨e1, e2⟩ := e
  obtain ⟨hz, hx, hy⟩ := h
  have hz : ofN z ≠ 0 := hz
  have hx : ofN x = (Ed.mul S Q B).x * ofN z := hx
  have hy : ofN y = (Ed.mul S Q B).y * ofN z := hy
  have k1 : ofN x = 0 := by rw [← ofN_zero, ofN_eq, e1, Nat.zero_mod]
  have k2 : ofN y = ofN z := ofN_eq.2 e2
  refine Ed.Pt.ext' S ?_ ?_
  · show (Ed.mul S Q B).x = 0
    rw [k1] at hx
    rcases Ed.eq_zero S hx.symm with h | h
    · exact h
    · exact absurd h hz
  · show (Ed.mul S Q B).y = 1
    rw [k2] at hy
    generalize (Ed.mul S Q B).y = t at hy ⊢
    generalize ofN z = u at hy hz
    have : u * t = u * 1 := by
      have e : u * 1 = u := by grind
      rw [e]
      conv => rhs; rw [hy]
      grind
    exact Ed.cancel S hz this

end Go.Proofs.YtclpbaokadfhhaaGreatDoor.Gf
