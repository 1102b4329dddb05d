/- That 2^255 - 19 is a prime, and what follows for powers: plain lemmas, no program. -/
import Init
namespace Go.Proofs.Ytclpbaokadfhhaa.Pr

/-- a prime: it has no divisors but 1 and itself -/
def IsP (n : Nat) : Prop := 2 ≤ n ∧ ∀ d, d ∣ n → d = 1 ∨ d = n

/-- a power modulo N, by squaring -/
def pm (N : Nat) : Nat → Nat → Nat → Nat
  | 0, _, _ => 1 % N
  | f + 1, a, e => if e % 2 = 1 then a * pm N f (a * a % N) (e / 2) % N else pm N f (a * a % N) (e / 2)
theorem pm_eq (N : Nat) : ∀ (f a e : Nat), e < 2 ^ f → pm N f a e = a ^ e % N
  | 0, a, e, h => by
    have : e = 0 := by simpa using h
    subst this; simp [pm]
  | f + 1, a, e, h => by
    have h2 : e / 2 < 2 ^ f := by rw [Nat.pow_succ] at h; omega
    have ih := pm_eq N f (a * a % N) (e / 2) h2
    have e1 : (a * a) ^ (e / 2) = a ^ (2 * (e / 2)) := by rw [Nat.pow_mul, Nat.pow_two]
    rw [pm, ih, ← Nat.pow_mod, e1]
    split
    · rename_i h3
      conv => rhs; rw [show e = 2 * (e / 2) + 1 by omega, Nat.pow_succ, Nat.mul_comm]
      rw [Nat.mul_mod_mod]
    · rename_i h3
      conv => rhs; rw [show e = 2 * (e / 2) by omega]

theorem least {p : Nat → Prop} : ∀ n, p n → ∃ m, p m ∧ ∀ k, k < m → ¬ p k := by
  intro n
  induction n using Nat.strongRecOn with
  | ind n ih =>
    intro hn
    by_cases h : ∃ k, k < n ∧ p k
    · obtain ⟨k, hk, hp⟩ := h
      exact ih k hk hp
    · exact ⟨n, hn, fun k hk hp => h ⟨k, hk, hp⟩⟩

theorem pigeon : ∀ (n : Nat) (f : Nat → Nat), (∀ i, i < n → f i < n) → (∀ i j, i < n → j < n → f i = f j → i = j) → ∀ a, a < n → ∃ i, i < n ∧ f i = a
  | 0, _, _, _, a, ha => by omega
  | n + 1, f, hr, hi, a, ha => by
    have key : ∀ i, i < n → f i = n → f n < n := by
      intro i h1 h2
      have := hr n (by omega)
      have h3 : f n ≠ n := fun e => by have := hi i n (by omega) (by omega) (by rw [h2, e]); omega
      omega
    have ih := pigeon n (fun i => if f i = n then f n else f i)
      (by
        intro i h1
        show (if f i = n then f n else f i) < n
        split
        · exact key i h1 (by assumption)
        · have := hr i (by omega); omega)
      (by
        intro i j h1 h2 h3
        have h3 : (if f i = n then f n else f i) = (if f j = n then f n else f j) := h3
        by_cases c1 : f i = n
        · by_cases c2 : f j = n
          · exact hi i j (by omega) (by omega) (by rw [c1, c2])
          · rw [if_pos c1, if_neg c2] at h3
            have := hi n j (by omega) (by omega) h3; omega
        · by_cases c2 : f j = n
          · rw [if_neg c1, if_pos c2] at h3
            have := hi i n (by omega) (by omega) h3; omega
          · rw [if_neg c1, if_neg c2] at h3
            exact hi i j (by omega) (by omega) h3)
    by_cases ab : a = f n
    · exact ⟨n, by omega, ab.symm⟩
    · by_cases an : a = n
      · have hb : f n < n := by have := hr n (by omega); omega
        obtain ⟨i, h1, h2⟩ := ih (f n) hb
        have h2 : (if f i = n then f n else f i) = f n := h2
        by_cases c : f i = n
        · exact ⟨i, by omega, by omega⟩
        · rw [if_neg c] at h2
          have := hi i n (by omega) (by omega) h2; omega
      · obtain ⟨i, h1, h2⟩ := ih a (by omega)
        have h2 : (if f i = n then f n else f i) = a := h2
        by_cases c : f i = n
        · rw [if_pos c] at h2; exact absurd h2.symm ab
        · rw [if_neg c] at h2; exact ⟨i, by omega, h2⟩

def prod : List Nat → Nat
  | [] => 1
  | a :: l => a * prod l

theorem coprime_prod (t : Nat) : ∀ L : List Nat, (∀ q ∈ L, Nat.gcd t q = 1) → Nat.gcd t (prod L) = 1
  | [], _ => by simp [prod]
  | a :: l, h => by
    have h1 : Nat.Coprime t a := h a (by simp)
    have h2 : Nat.Coprime t (prod l) := coprime_prod t l (fun q hq => h q (by simp [hq]))
    exact Nat.Coprime.mul_right h1 h2

/-- a divisor of a product of primes that is not 1 has one of them -/
theorem has_prime (t : Nat) (L : List Nat) (hL : ∀ q ∈ L, IsP q) (ht : t ∣ prod L) (h1 : t ≠ 1) : ∃ q, q ∈ L ∧ q ∣ t := by
  by_cases h : ∃ q, q ∈ L ∧ q ∣ t
  · exact h
  · exfalso
    have : Nat.gcd t (prod L) = 1 := by
      apply coprime_prod
      intro q hq
      rcases (hL q hq).2 (Nat.gcd t q) (Nat.gcd_dvd_right t q) with e | e
      · exact e
      · exact absurd ⟨q, hq, by have := Nat.gcd_dvd_left t q; rwa [e] at this⟩ h
    rw [Nat.gcd_eq_left ht] at this
    exact h1 this

theorem mul1 {N : Nat} {a b : Nat} (ha : a % N = 1) (hb : b % N = 1) (hN : 2 ≤ N) : a * b % N = 1 := by
  rw [Nat.mul_mod, ha, hb, Nat.mul_one, Nat.mod_eq_of_lt (by omega)]
theorem pow1 {N : Nat} {a : Nat} (ha : a % N = 1) (hN : 2 ≤ N) (k : Nat) : a ^ k % N = 1 := by
  rw [Nat.pow_mod, ha, Nat.one_pow, Nat.mod_eq_of_lt (by omega)]
theorem one_mul' {N : Nat} {a b : Nat} (ha : a % N = 1) : a * b % N = b % N := by
  rw [Nat.mul_mod, ha, Nat.one_mul, Nat.mod_mod]

theorem lucas {N g : Nat} (L : List Nat) (hN : 3 ≤ N) (hL : ∀ q ∈ L, IsP q) (hprod : prod L = N - 1) (h1 : g ^ (N - 1) % N = 1) (hne : ∀ q ∈ L, g ^ ((N - 1) / q) % N ≠ 1) :
    ∀ a, a % N ≠ 0 → a ^ (N - 1) % N = 1 := by
  obtain ⟨m, ⟨hm0, hm1⟩, hmin⟩ := least (p := fun k => 0 < k ∧ g ^ k % N = 1) (N - 1) ⟨by omega, h1⟩
  -- the order divides N - 1
  have hdiv : (N - 1) % m = 0 := by
    have hlt := Nat.mod_lt (N - 1) hm0
    by_cases hz : (N - 1) % m = 0
    · exact hz
    · exfalso
      apply hmin ((N - 1) % m) hlt
      refine ⟨by omega, ?_⟩
      have e : g ^ (N - 1) = (g ^ m) ^ ((N - 1) / m) * g ^ ((N - 1) % m) := by
        rw [← Nat.pow_mul, ← Nat.pow_add, Nat.div_add_mod]
      rw [e, one_mul' (pow1 hm1 (by omega) _)] at h1
      exact h1
  have hmN : m = N - 1 := by
    have e : N - 1 = m * ((N - 1) / m) := by have := Nat.div_add_mod (N - 1) m; omega
    by_cases ht : (N - 1) / m = 1
    · rw [ht] at e; omega
    · exfalso
      have hd : (N - 1) / m ∣ prod L := by rw [hprod]; exact ⟨m, by rw [Nat.mul_comm]; exact e⟩
      obtain ⟨q, hq, s, hs⟩ := has_prime _ L hL hd ht
      have hq2 := (hL q hq).1
      apply hne q hq
      have e2 : (N - 1) / q = m * s := by
        rw [hs] at e
        rw [e, Nat.mul_left_comm, Nat.mul_div_cancel_left _ (by omega)]
      rw [e2, Nat.pow_mul]
      exact pow1 hm1 (by omega) s
  have hunit : ∀ i, i < N - 1 → g ^ (N - 1 - i) * g ^ i % N = 1 := by
    intro i hi
    rw [← Nat.pow_add, Nat.sub_add_cancel (by omega)]; exact h1
  have hinj : ∀ i j, i < j → j < N - 1 → g ^ i % N = g ^ j % N → False := by
    intro i j hij hj he
    apply hmin (j - i) (by omega)
    refine ⟨by omega, ?_⟩
    have h2 := hunit i (by omega)
    rw [Nat.mul_mod, he, ← Nat.mul_mod, ← Nat.pow_add] at h2
    have e : N - 1 - i + j = (N - 1) + (j - i) := by omega
    rw [e, Nat.pow_add, one_mul' h1] at h2
    exact h2
  have hnz : ∀ i, i < N - 1 → g ^ i % N ≠ 0 := by
    intro i hi hz
    have h2 := hunit i hi
    rw [Nat.mul_mod, hz] at h2
    simp at h2
  intro a ha
  have hlt : a % N < N := Nat.mod_lt _ (by omega)
  obtain ⟨i, hi, he⟩ := pigeon (N - 1) (fun i => g ^ i % N - 1)
    (by
      intro i hi
      have := Nat.mod_lt (g ^ i) (show N > 0 by omega)
      show g ^ i % N - 1 < N - 1
      have := hnz i hi
      omega)
    (by
      intro i j hi hj he
      have he : g ^ i % N - 1 = g ^ j % N - 1 := he
      have a1 := hnz i hi
      have a2 := hnz j hj
      have e : g ^ i % N = g ^ j % N := by omega
      rcases Nat.lt_trichotomy i j with h | h | h
      · exact (hinj i j h hj e).elim
      · exact h
      · exact (hinj j i h hi e.symm).elim)
    (a % N - 1) (by omega)
  have he : g ^ i % N - 1 = a % N - 1 := he
  have := hnz i hi
  have e : a % N = g ^ i % N := by omega
  rw [Nat.pow_mod, e, ← Nat.pow_mod, ← Nat.pow_mul, Nat.mul_comm, Nat.pow_mul]
  exact pow1 h1 (by omega) i

theorem isP_of {N : Nat} (hN : 3 ≤ N) (h : ∀ a, a % N ≠ 0 → a ^ (N - 1) % N = 1) : IsP N := by
  refine ⟨by omega, ?_⟩
  intro d hd
  by_cases h1 : d = N
  · exact .inr h1
  · left
    have hle := Nat.le_of_dvd (by omega) hd
    have h0 : d ≠ 0 := by
      rintro rfl
      have := Nat.eq_zero_of_zero_dvd hd; omega
    have hp := h d (by rw [Nat.mod_eq_of_lt (by omega)]; exact h0)
    have h2 : d ∣ d ^ (N - 1) := ⟨d ^ (N - 2), by rw [Nat.mul_comm, ← Nat.pow_succ]; congr 1; omega⟩
    have h3 : d ∣ d ^ (N - 1) % N := (Nat.dvd_mod_iff hd).2 h2
    rw [hp] at h3
    exact Nat.dvd_one.1 h3
/-- a certificate, as a closed reckoning -/
def okCert (N g : Nat) (L : List Nat) : Bool :=
  decide (3 ≤ N) && decide (N < 2 ^ 256) && decide (prod L = N - 1) && decide (pm N 256 g (N - 1) = 1) && L.all fun q => decide (pm N 256 g ((N - 1) / q) ≠ 1)
theorem of_cert {N g : Nat} {L : List Nat} (h : okCert N g L = true) (hL : ∀ q ∈ L, IsP q) : ∀ a, a % N ≠ 0 → a ^ (N - 1) % N = 1 := by
  simp only [okCert, Bool.and_eq_true, decide_eq_true_eq, List.all_eq_true] at h
  obtain ⟨⟨⟨⟨h1, h2⟩, h3⟩, h4⟩, h5⟩ := h
  refine lucas (g := g) L h1 hL h3 ?_ ?_
  · rw [← pm_eq N 256 g (N - 1) (by omega)]; exact h4
  · intro q hq
    have := h5 q hq
    rw [pm_eq N 256 g _ (Nat.lt_of_le_of_lt (Nat.div_le_self _ _) (by omega))] at this
    exact this

/-- small ones, by trying -/
def noDiv (n : Nat) : Nat → Nat → Bool
  | 0, _ => true
  | f + 1, k => decide (n % k ≠ 0) && noDiv n f (k + 1)
theorem noDiv_of (n : Nat) : ∀ (f k : Nat), noDiv n f k = true → ∀ j, k ≤ j → j < k + f → n % j ≠ 0
  | 0, k, _, j, h1, h2 => by omega
  | f + 1, k, h, j, h1, h2 => by
    simp only [noDiv, Bool.and_eq_true, decide_eq_true_eq] at h
    by_cases e : j = k
    · subst e; exact h.1
    · exact noDiv_of n f (k + 1) h.2 j (by omega) (by omega)
theorem isP_small (n f : Nat) (h : noDiv n f 2 = true) (h2 : 2 ≤ n) (hf : n < (f + 2) * (f + 2)) : IsP n := by
  refine ⟨h2, ?_⟩
  intro d hd
  obtain ⟨e, he⟩ := hd
  have hno : ∀ j, 2 ≤ j → j < 2 + f → ¬ j ∣ n := fun j h1 h3 h4 => noDiv_of n f 2 h j h1 h3 (Nat.mod_eq_zero_of_dvd h4)
  by_cases h1 : d = 1
  · exact .inl h1
  by_cases h3 : e = 1
  · right; rw [he, h3, Nat.mul_one]
  exfalso
  have d0 : d ≠ 0 := by rintro rfl; omega
  have e0 : e ≠ 0 := by rintro rfl; omega
  have hd : ¬ d < 2 + f := fun h4 => hno d (by omega) h4 ⟨e, he⟩
  have he' : ¬ e < 2 + f := fun h4 => hno e (by omega) h4 ⟨d, by rw [he, Nat.mul_comm]⟩
  have := Nat.mul_le_mul (show f + 2 ≤ d by omega) (show f + 2 ≤ e by omega)
  omega

/-- several small ones at once: each with how far to try -/
theorem smalls (l : List Nat) (h : l.all (fun n => noDiv n 1500 2 || (noDiv n (n - 2) 2)) = true) (h2 : l.all (fun n => decide (2 ≤ n) && decide (n < 2000000)) = true) : ∀ q ∈ l, IsP q := by
  intro q hq
  have a := List.all_eq_true.1 h q hq
  have b := List.all_eq_true.1 h2 q hq
  simp only [Bool.and_eq_true, decide_eq_true_eq, Bool.or_eq_true] at a b
  rcases a with a | a
  · exact isP_small q 1500 a b.1 (by omega)
  · refine isP_small q (q - 2) a b.1 ?_
    have : q - 2 + 2 = q := by omega
    rw [this]
    have := Nat.mul_le_mul b.1 (Nat.le_refl q)
    omega

theorem sm : ∀ q ∈ [2, 3, 5, 7, 13, 19, 31, 47, 103, 107, 127, 223, 353, 991], IsP q := smalls _ (by decide +kernel) (by decide +kernel)
theorem sm2 : ∀ q ∈ [2437, 4153, 57467, 65147, 75707, 132049, 430751, 569003, 1923133], IsP q := smalls _ (by decide +kernel) (by decide +kernel)
theorem p1 : IsP 8574133 := isP_of (by omega) (of_cert (g := 2) (L := [2, 2, 3, 7, 103, 991]) (by decide +kernel) (by
  intro q hq; exact sm q (by simp only [List.mem_cons, List.not_mem_nil, or_false] at hq ⊢; omega)))
theorem p2 : IsP 2773320623 := isP_of (by omega) (of_cert (g := 5) (L := [2, 2437, 569003]) (by decide +kernel) (by
  intro q hq; simp only [List.mem_cons, List.not_mem_nil, or_false] at hq
  rcases hq with rfl | rfl | rfl
  · exact sm 2 (by simp)
  · exact sm2 _ (by simp)
  · exact sm2 _ (by simp)))
theorem p3 : IsP 72106336199 := isP_of (by omega) (of_cert (g := 7) (L := [2, 13, 2773320623]) (by decide +kernel) (by
  intro q hq; simp only [List.mem_cons, List.not_mem_nil, or_false] at hq
  rcases hq with rfl | rfl | rfl
  · exact sm 2 (by simp)
  · exact sm _ (by simp)
  · exact p2))
theorem p4 : IsP 1919519569386763 := isP_of (by omega) (of_cert (g := 2) (L := [2, 3, 7, 19, 47, 47, 127, 8574133]) (by decide +kernel) (by
  intro q hq; simp only [List.mem_cons, List.not_mem_nil, or_false] at hq
  by_cases h : q = 8574133
  · subst h; exact p1
  · exact sm q (by simp only [List.mem_cons, List.not_mem_nil, or_false]; omega)))
theorem p5 : IsP 31757755568855353 := isP_of (by omega) (of_cert (g := 10) (L := [2, 2, 2, 3, 31, 107, 223, 4153, 430751]) (by decide +kernel) (by
  intro q hq; simp only [List.mem_cons, List.not_mem_nil, or_false] at hq
  by_cases h : q = 4153 ∨ q = 430751
  · exact sm2 q (by simp only [List.mem_cons, List.not_mem_nil, or_false]; omega)
  · exact sm q (by simp only [List.mem_cons, List.not_mem_nil, or_false]; omega)))
theorem p6 : IsP 75445702479781427272750846543864801 := isP_of (by omega) (of_cert (g := 7) (L := [2, 2, 2, 2, 2, 3, 3, 5, 5, 75707, 1919519569386763, 72106336199]) (by decide +kernel) (by
  intro q hq; simp only [List.mem_cons, List.not_mem_nil, or_false] at hq
  by_cases h : q = 1919519569386763
  · subst h; exact p4
  by_cases h : q = 72106336199
  · subst h; exact p3
  by_cases h : q = 75707
  · subst h; exact sm2 _ (by simp)
  · exact sm q (by simp only [List.mem_cons, List.not_mem_nil, or_false]; omega)))
theorem p7 : IsP 74058212732561358302231226437062788676166966415465897661863160754340907 := isP_of (by omega) (of_cert (g := 2) (L := [2, 3, 353, 57467, 132049, 1923133, 31757755568855353, 75445702479781427272750846543864801]) (by decide +kernel) (by
  intro q hq; simp only [List.mem_cons, List.not_mem_nil, or_false] at hq
  by_cases h : q = 31757755568855353
  · subst h; exact p5
  by_cases h : q = 75445702479781427272750846543864801
  · subst h; exact p6
  by_cases h : q = 2 ∨ q = 3 ∨ q = 353
  · exact sm q (by simp only [List.mem_cons, List.not_mem_nil, or_false]; omega)
  · exact sm2 q (by simp only [List.mem_cons, List.not_mem_nil, or_false]; omega)))

def P : Nat := 57896044618658097711785492504343953926634992332820282019728792003956564819949
theorem fermat : ∀ a, a % P ≠ 0 → a ^ (P - 1) % P = 1 := of_cert (g := 2) (L := [2, 2, 3, 65147, 74058212732561358302231226437062788676166966415465897661863160754340907]) (by decide +kernel) (by
  intro q hq; simp only [List.mem_cons, List.not_mem_nil, or_false] at hq
  by_cases h : q = 74058212732561358302231226437062788676166966415465897661863160754340907
  · subst h; exact p7
  by_cases h : q = 65147
  · subst h; exact sm2 _ (by simp)
  · exact sm q (by simp only [List.mem_cons, List.not_mem_nil, or_false]; omega))
theorem prime : IsP P := isP_of (by unfold P; omega) fermat

end Go.Proofs.Ytclpbaokadfhhaa.Pr
