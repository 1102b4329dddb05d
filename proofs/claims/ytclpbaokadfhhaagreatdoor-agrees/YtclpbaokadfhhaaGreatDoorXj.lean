/- Several texts as one: RFval, Sc. -/
import Derived.Test.YtclpbaokadfhhaaGreatDoorZg
import Init
namespace Go.Proofs.YtclpbaokadfhhaaGreatDoor
namespace Fd
def sm (f : Nat → Int) : Nat → Int
  | 0 => 0
  | k + 1 => sm f k + 65536 ^ k * f k
def vl (l : List Int) : Int := sm (fun i => l.getD i 0) 16
def PI : Int := 57896044618658097711785492504343953926634992332820282019728792003956564819949
theorem sm_succ (f : Nat → Int) (k : Nat) : sm f (k + 1) = sm f k + 65536 ^ k * f k := rfl
theorem sm_congr {f g : Nat → Int} : ∀ k, (∀ j, j < k → f j = g j) → sm f k = sm g k
  | 0, _ => rfl
  | k + 1, h => by rw [sm, sm, sm_congr k (fun j hj => h j (by omega)), h k (by omega)]
theorem sm_add (f g : Nat → Int) : ∀ k, sm (fun i => f i + g i) k = sm f k + sm g k
  | 0 => rfl
  | k + 1 => by rw [sm, sm, sm, sm_add f g k, Int.mul_add]; omega
theorem sm_sub (f g : Nat → Int) : ∀ k, sm (fun i => f i - g i) k = sm f k - sm g k
  | 0 => rfl
  | k + 1 => by rw [sm, sm, sm, sm_sub f g k, Int.mul_sub]; omega
theorem sm_mul (c : Int) (f : Nat → Int) : ∀ k, sm (fun i => c * f i) k = c * sm f k
  | 0 => by simp [sm]
  | k + 1 => by
    rw [sm, sm, sm_mul c f k, Int.mul_add]
    congr 1
    rw [← Int.mul_assoc, Int.mul_comm (65536 ^ k) c, Int.mul_assoc]
theorem sm_split (f : Nat → Int) (m : Nat) : ∀ k, sm f (m + k) = sm f m + 65536 ^ m * sm (fun j => f (m + j)) k
  | 0 => by simp [sm]
  | k + 1 => by
    rw [← Nat.add_assoc, sm, sm_split f m k, sm, Int.mul_add, Int.pow_add, Int.mul_assoc]; omega
theorem sm_set (l : List Int) (i : Nat) (x : Int) (hi : i < l.length) : ∀ n, i < n → sm (fun j => (l.set i x).getD j 0) n = sm (fun j => l.getD j 0) n + 65536 ^ i * (x - l.getD i 0)
  | 0, h => by omega
  | n + 1, h => by
    rw [sm, sm]
    by_cases e : i = n
    · subst e
      rw [getD_set_self _ _ _ hi, sm_congr i (g := fun j => l.getD j 0) (fun j hj => getD_set_ne _ _ _ _ (by omega)), Int.mul_sub]
      omega
    · rw [getD_set_ne _ _ _ _ e, sm_set l i x hi n (by omega)]; omega
theorem vl_set {l : List Int} (hl : l.length = 16) (i : Nat) (x : Int) (hi : i < 16) : vl (l.set i x) = vl l + 65536 ^ i * (x - l.getD i 0) := sm_set l i x (by omega) 16 hi
theorem step_val (l : List Int) (hl : l.length = 16) (i : Nat) (hi : i < 16) : ∃ k, vl (step l i) + PI * k = vl l := by
  have hp : (put1 l i).length = 16 := by rw [put1_length, hl]
  have e1 : vl (put1 l i) = vl l + 65536 ^ i * (-(l.getD i 0 / 65536 * 65536)) := by
    unfold put1; rw [vl_set hl i _ hi]; congr 2; omega
  unfold step
  by_cases h15 : i < 15
  · rw [if_pos h15, vl_set hp (i + 1) _ (by omega), e1]
    refine ⟨0, ?_⟩
    rw [show (put1 l i).getD (i + 1) 0 + l.getD i 0 / 65536 - (put1 l i).getD (i + 1) 0 = l.getD i 0 / 65536 by omega]
    generalize l.getD i 0 / 65536 = c
    rw [Int.pow_succ]
    generalize (65536 : Int) ^ i = P
    rw [Int.mul_assoc P 65536 c, Int.mul_neg, Int.mul_comm c 65536]
    omega
  · have e15 : i = 15 := by omega
    subst e15
    rw [if_neg (by omega), vl_set hp 0 _ (by omega), e1]
    rw [show (put1 l 15).getD 0 0 + 38 * (l.getD 15 0 / 65536) - (put1 l 15).getD 0 0 = 38 * (l.getD 15 0 / 65536) by omega]
    generalize l.getD 15 0 / 65536 = c
    refine ⟨2 * c, ?_⟩
    rw [show (65536 : Int) ^ 15 = 1766847064778384329583297500742918515827483896875618958121606201292619776 by decide, show (65536 : Int) ^ 0 = 1 by decide]
    unfold PI
    omega
theorem pass_val (l : List Int) (hl : l.length = 16) : ∀ i, i ≤ 16 → ∃ k, vl (pass l i) + PI * k = vl l
  | 0, _ => ⟨0, by rw [pass]; omega⟩
  | i + 1, h => by
    obtain ⟨k, hk⟩ := pass_val l hl i (by omega)
    obtain ⟨m, hm⟩ := step_val (pass l i) (by rw [pass_length, hl]) i (by omega)
    exact ⟨k + m, by rw [pass, Int.mul_add]; omega⟩
theorem carry_val (l : List Int) (hl : l.length = 16) : ∃ k, vl (carry l) + PI * k = vl l := by
  obtain ⟨k, hk⟩ := pass_val l hl 16 (by omega)
  obtain ⟨m, hm⟩ := pass_val (pass l 16) (by rw [pass_length, hl]) 16 (by omega)
  refine ⟨k + m, ?_⟩
  have e : carry l = pass (pass l 16) 16 := rfl
  rw [e, Int.mul_add]; omega
theorem plus_val (a b : List Int) (ha : a.length = 16) : ∃ k, vl (plus a b) + PI * k = vl a + vl b := by
  obtain ⟨k, hk⟩ := carry_val (add a b) (by unfold add; rw [opTo_length, ha])
  refine ⟨k, ?_⟩
  have e : vl (add a b) = vl a + vl b := by
    unfold vl; rw [← sm_add]
    exact sm_congr 16 (fun j hj => by unfold add; rw [opTo_at _ _ _ _ _ (by omega) (by omega), if_pos hj])
  unfold plus; rw [hk, e]
theorem minus_val (a b : List Int) (ha : a.length = 16) : ∃ k, vl (minus a b) + PI * k = vl a - vl b := by
  obtain ⟨k, hk⟩ := carry_val (sub a b) (by unfold sub; rw [opTo_length, ha])
  refine ⟨k, ?_⟩
  have e : vl (sub a b) = vl a - vl b := by
    unfold vl; rw [← sm_sub]
    exact sm_congr 16 (fun j hj => by unfold sub; rw [opTo_at _ _ _ _ _ (by omega) (by omega), if_pos hj])
  unfold minus; rw [hk, e]
def vl31 (t : List Int) : Int := sm (fun i => t.getD i 0) 31
theorem rowTo_val (a b t : List Int) (ht : t.length = 31) (i : Nat) (hi : i < 16) : ∀ k, k ≤ 16 → vl31 (rowTo a b t i k) = vl31 t + 65536 ^ i * (a.getD i 0 * sm (fun j => b.getD j 0) k)
  | 0, _ => by simp [rowTo, sm]
  | k + 1, hk => by
    have ih := rowTo_val a b t ht i hi k (by omega)
    have hl := rowTo_length a b t i k
    unfold vl31 at ih ⊢
    rw [rowTo, sm_set _ _ _ (by omega) 31 (by omega), ih, sm_succ (fun j => b.getD j 0) k]
    rw [show (rowTo a b t i k).getD (i + k) 0 + a.getD i 0 * b.getD k 0 - (rowTo a b t i k).getD (i + k) 0 = a.getD i 0 * b.getD k 0 by omega]
    rw [Int.mul_add, Int.mul_add, Int.pow_add]
    generalize (65536 : Int) ^ i = X
    generalize (65536 : Int) ^ k = Y
    generalize a.getD i 0 = u
    generalize b.getD k 0 = v
    generalize sm (fun j => b.getD j 0) k = s
    rw [show X * Y * (u * v) = X * (u * (Y * v)) by rw [Int.mul_assoc, ← Int.mul_assoc Y u v, Int.mul_comm Y u, Int.mul_assoc u Y v]]
    omega
theorem rowsTo_val (a b : List Int) : ∀ i, i ≤ 16 → vl31 (rowsTo a b i) = sm (fun j => a.getD j 0) i * vl b
  | 0, _ => by
    rw [rowsTo, sm, Int.zero_mul]
    unfold vl31
    have : ∀ k, sm (fun i => none31.getD i 0) k = 0 := by
      intro k
      induction k with
      | zero => rfl
      | succ k ih =>
        rw [sm, ih]
        have : none31.getD k 0 = 0 := none_at 31 k
        rw [this]; simp
    exact this 31
  | i + 1, h => by
    rw [rowsTo, rowTo_val a b _ (rowsTo_length a b i) i (by omega) 16 (by omega), rowsTo_val a b i (by omega), sm_succ (fun j => a.getD j 0) i, Int.add_mul]
    show _ + 65536 ^ i * (a.getD i 0 * vl b) = _ + 65536 ^ i * a.getD i 0 * vl b
    rw [Int.mul_assoc]
theorem foldTo_at (t : List Int) : ∀ k i, k ≤ 16 → i < k → (foldTo t k).getD i 0 = if i < 15 then t.getD i 0 + 38 * t.getD (i + 16) 0 else t.getD i 0
  | 0, _, _, h => by omega
  | k + 1, i, hk, h => by
    rw [foldTo]
    by_cases e : k = i
    · subst e; rw [getD_set_self _ _ _ (by rw [foldTo_length]; omega)]
    · rw [getD_set_ne _ _ _ _ e, foldTo_at t k i (by omega) (by omega)]
theorem fold_val (t : List Int) : ∃ k, vl (foldTo t 16) + PI * k = vl31 t := by
  have e1 : vl (foldTo t 16) = sm (fun i => t.getD i 0) 16 + 38 * sm (fun j => t.getD (16 + j) 0) 15 := by
    unfold vl
    rw [sm_succ (fun i => (foldTo t 16).getD i 0) 15, sm_succ (fun i => t.getD i 0) 15, sm_congr (f := fun i => (foldTo t 16).getD i 0) 15 (g := fun i => t.getD i 0 + 38 * t.getD (16 + i) 0) (fun j hj => by rw [foldTo_at t 16 j (by omega) (by omega), if_pos hj, Nat.add_comm j 16])]
    rw [sm_add (fun i => t.getD i 0) (fun i => 38 * t.getD (16 + i) 0) 15, sm_mul, foldTo_at t 16 15 (by omega) (by omega), if_neg (by omega)]
    omega
  have e2 : vl31 t = sm (fun i => t.getD i 0) 16 + 65536 ^ 16 * sm (fun j => t.getD (16 + j) 0) 15 := sm_split _ 16 15
  refine ⟨2 * sm (fun j => t.getD (16 + j) 0) 15, ?_⟩
  rw [e1, e2, show (65536 : Int) ^ 16 = 115792089237316195423570985008687907853269984665640564039457584007913129639936 by decide]
  unfold PI
  omega
theorem by_val (a b : List Int) : ∃ k, vl (by_ a b) + PI * k = vl a * vl b := by
  obtain ⟨k, hk⟩ := carry_val (foldTo (rowsTo a b 16) 16) (foldTo_length _ _)
  obtain ⟨m, hm⟩ := fold_val (rowsTo a b 16)
  have e := rowsTo_val a b 16 (by omega)
  refine ⟨k + m, ?_⟩
  have e2 : sm (fun j => a.getD j 0) 16 = vl a := rfl
  rw [e2] at e
  unfold by_
  rw [Int.mul_add, ← e]; omega
theorem lessTo_at (a : List Int) : ∀ k i, k ≤ 16 → i < k → (lessTo a k).getD i 0 = (a.getD i 0 - pPart i + bw a i) % 65536
  | 0, _, _, h => by omega
  | k + 1, i, hk, h => by
    rw [lessTo]
    by_cases e : k = i
    · subst e; rw [getD_set_self _ _ _ (by rw [lessTo_length]; omega)]
    · rw [getD_set_ne _ _ _ _ e, lessTo_at a k i (by omega) (by omega)]
theorem lessTo_val (a : List Int) : ∀ k, k ≤ 16 → sm (fun j => (lessTo a 16).getD j 0) k + 65536 ^ k * bw a k = sm (fun j => a.getD j 0) k - sm pPart k
  | 0, _ => by simp [sm, bw]
  | k + 1, hk => by
    have ih := lessTo_val a k (by omega)
    rw [sm, sm, sm, lessTo_at a 16 k (by omega) (by omega), bw, Int.pow_succ]
    have hd := Int.emod_add_mul_ediv (a.getD k 0 - pPart k + bw a k) 65536
    generalize (a.getD k 0 - pPart k + bw a k) % 65536 = r at hd ⊢
    generalize (a.getD k 0 - pPart k + bw a k) / 65536 = c at hd ⊢
    have : 65536 ^ k * r + 65536 ^ k * 65536 * c = 65536 ^ k * (a.getD k 0 - pPart k + bw a k) := by
      rw [← hd, Int.mul_add, Int.mul_assoc]
    rw [Int.mul_add, Int.mul_sub] at this
    omega
theorem p_sum : sm pPart 16 = PI := by decide +kernel
theorem sm_bd (f : Nat → Int) : ∀ k, (∀ j, j < k → 0 ≤ f j ∧ f j ≤ 65535) → 0 ≤ sm f k ∧ sm f k < 65536 ^ k
  | 0, _ => by simp [sm]
  | k + 1, h => by
    obtain ⟨h1, h2⟩ := sm_bd f k (fun j hj => h j (by omega))
    obtain ⟨h3, h4⟩ := h k (by omega)
    rw [sm, Int.pow_succ]
    have hp : (0 : Int) ≤ 65536 ^ k := Int.le_of_lt (Int.pow_pos (by decide))
    have h5 : 0 ≤ 65536 ^ k * f k := Int.mul_nonneg hp h3
    have h6 : 65536 ^ k * f k ≤ 65536 ^ k * 65535 := Int.mul_le_mul_of_nonneg_left h4 hp
    omega
theorem norm_bd {a : List Int} (h : Norm a) : 0 ≤ vl a ∧ vl a < 115792089237316195423570985008687907853269984665640564039457584007913129639936 := by
  have := sm_bd (fun i => a.getD i 0) 16 (fun j _ => h.2 j)
  rw [show (65536 : Int) ^ 16 = 115792089237316195423570985008687907853269984665640564039457584007913129639936 by decide] at this
  exact this
theorem less_val {a : List Int} (h : Norm a) : vl (less a) = if PI ≤ vl a then vl a - PI else vl a := by
  have hv := lessTo_val a 16 (by omega)
  rw [p_sum, show (65536 : Int) ^ 16 = 115792089237316195423570985008687907853269984665640564039457584007913129639936 by decide] at hv
  have hb := bw_bd a h 16
  have hl := norm_bd ⟨lessTo_length a 16, lessTo_bd a 16⟩
  have ha := norm_bd h
  have e1 : sm (fun j => (lessTo a 16).getD j 0) 16 = vl (lessTo a 16) := rfl
  have e2 : sm (fun j => a.getD j 0) 16 = vl a := rfl
  rw [e1, e2] at hv
  have hP : PI = 57896044618658097711785492504343953926634992332820282019728792003956564819949 := rfl
  unfold less
  have : bw a 16 = 0 ∨ bw a 16 = -1 := by omega
  rcases this with e | e
  · rw [e] at hv
    rw [if_pos e, if_pos (by omega)]; omega
  · rw [e] at hv
    rw [if_neg (by omega), if_neg (by omega)]
theorem lowest_val {a : List Int} (h : Norm a) : vl (less (less a)) = vl a % PI := by
  have h1 := norm_bd h
  have hP : PI = 57896044618658097711785492504343953926634992332820282019728792003956564819949 := rfl
  rw [less_val (less_norm a h), less_val h]
  by_cases c1 : PI ≤ vl a
  · rw [if_pos c1]
    by_cases c2 : PI ≤ vl a - PI
    · rw [if_pos c2]
      have : vl a = (vl a - PI - PI) + PI * 2 := by omega
      rw [this, Int.add_mul_emod_self_left, Int.emod_eq_of_lt (by omega) (by omega)]; omega
    · rw [if_neg c2]
      have : vl a = (vl a - PI) + PI * 1 := by omega
      rw [this, Int.add_mul_emod_self_left, Int.emod_eq_of_lt (by omega) (by omega)]; omega
  · rw [if_neg c1, if_neg c1, Int.emod_eq_of_lt (by omega) (by omega)]
end Fd
end Go.Proofs.YtclpbaokadfhhaaGreatDoor
namespace Go.Proofs.YtclpbaokadfhhaaGreatDoor.Sc
abbrev W := BitVec 64
def md : List W := [6346243789798364141, 1503914060200516822, 0, 1152921504606846976]
def addTo (a b : List W) : Nat → List W × W
  | 0 => (a, 0)
  | k + 1 => ((addTo a b k).1.set k ((addTo a b k).1.getD k 0 + b.getD k 0 + (addTo a b k).2), BitVec.ofNat 64 ((((addTo a b k).1.getD k 0).toNat + (b.getD k 0).toNat + (addTo a b k).2.toNat) / 18446744073709551616))
def less (x y b : W) : W := if x.toNat < y.toNat + b.toNat then 1 else 0
def subTo (a : List W) : Nat → List W × W
  | 0 => ([0, 0, 0, 0], 0)
  | k + 1 => ((subTo a k).1.set k (a.getD k 0 - md.getD k 0 - (subTo a k).2), less (a.getD k 0) (md.getD k 0) (subTo a k).2)
def pickTo (a l : List W) (m : W) : Nat → List W
  | 0 => a
  | k + 1 => (pickTo a l m k).set k (((pickTo a l m k).getD k 0 &&& m) ||| (l.getD k 0 &&& ~~~m))
def lowered (a : List W) : List W := pickTo a (subTo a 4).1 (-(subTo a 4).2) 4
def plus (a b : List W) : List W := lowered (addTo a b 4).1
def bit (a : List W) (at' : Nat) : W := (a.getD (at' / 64) 0 >>> (at' % 64)) &&& 1
def bitOf (s : List UInt8) (k : Nat) : W := BitVec.ofNat 64 ((s.getD (k / 8) 0).toNat / 2 ^ (k % 8) % 2)
def ofTo (s : List UInt8) : Nat → List W
  | 0 => [0, 0, 0, 0]
  | k + 1 => plus (plus (ofTo s k) (ofTo s k)) [bitOf s (8 * s.length - 1 - k), 0, 0, 0]
def of (s : List UInt8) : List W := ofTo s (8 * s.length)
def num : List UInt8 → Nat
  | [] => 0
  | x :: l => x.toNat + 256 * num l
theorem num_lt : ∀ s : List UInt8, num s < 2 ^ (8 * s.length)
  | [] => by simp [num]
  | x :: l => by
    have h := num_lt l; have := x.toNat_lt
    rw [num, List.length_cons, Nat.mul_add, Nat.pow_add, Nat.mul_comm]
    generalize 2 ^ (8 * l.length) = X at *
    omega
theorem num_inj : ∀ {a b : List UInt8}, a.length = b.length → num a = num b → a = b
  | [], [], _, _ => rfl
  | x :: l, y :: m, hl, h => by
    rw [num, num] at h
    have := x.toNat_lt; have := y.toNat_lt
    have e : x = y := UInt8.toNat.inj (by omega)
    rw [e, num_inj (a := l) (b := m) (by simpa using hl) (by omega)]
end Go.Proofs.YtclpbaokadfhhaaGreatDoor.Sc
