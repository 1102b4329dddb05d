/- Texts of letters: base 64, lines, and what is read of them: plain lemmas, no program. -/
import Derived.Lib.SplitLaws
import Derived.Lib.TrimByte
namespace Go.Proofs.YtclpbaokadfhhabDoor.Tx

/-- the letters of base 64 -/
def alpha : List UInt8 := [65, 66, 67, 68, 69, 70, 71, 72, 73, 74, 75, 76, 77, 78, 79, 80, 81, 82, 83, 84, 85, 86, 87, 88, 89, 90, 97, 98, 99, 100, 101, 102, 103, 104, 105, 106, 107, 108, 109, 110, 111, 112, 113, 114, 115, 116, 117, 118, 119, 120, 121, 122, 48, 49, 50, 51, 52, 53, 54, 55, 56, 57, 43, 47]
def al (x : UInt8) : UInt8 := alpha.getD x.toNat 0
/-- the number of a letter, 255 of what is none -/
def val (x : UInt8) : UInt8 := (Lib.indexByte alpha x % 256).toNat.toUInt8

def four : List UInt8 → List UInt8
  | [a] => [al (a >>> 2), al ((a &&& 3) <<< 4), 61, 61]
  | [a, b] => [al (a >>> 2), al ((a &&& 3) <<< 4 ||| b >>> 4), al ((b &&& 15) <<< 2), 61]
  | [a, b, c] => [al (a >>> 2), al ((a &&& 3) <<< 4 ||| b >>> 4), al ((b &&& 15) <<< 2 ||| c >>> 6), al (c &&& 63)]
  | _ => [61, 61, 61, 61]

def enc : List UInt8 → List UInt8
  | [] => []
  | [a] => four [a]
  | [a, b] => four [a, b]
  | a :: b :: c :: r => four [a, b, c] ++ enc r

def threeOf : List UInt8 → List UInt8
  | [a, b, c, d] => [val a <<< 2 ||| val b >>> 4, val b <<< 4 ||| val c >>> 2, val c <<< 6 ||| val d]
  | [a, b, c] => [val a <<< 2 ||| val b >>> 4, val b <<< 4 ||| val c >>> 2]
  | [a, b] => [val a <<< 2 ||| val b >>> 4]
  | _ => []
def three (f : List UInt8) : List UInt8 := threeOf (Lib.trimRightB f 61)

def dec : List UInt8 → List UInt8
  | a :: b :: c :: d :: r => three [a, b, c, d] ++ dec r
  | _ => []

theorem al_fact : ∀ i : Fin 64, al i.val.toUInt8 ≠ 61 ∧ val (al i.val.toUInt8) = i.val.toUInt8 ∧ al i.val.toUInt8 ≠ 10 := by decide +kernel
theorem al_of (x : UInt8) (h : x.toNat < 64) : al x ≠ 61 ∧ val (al x) = x ∧ al x ≠ 10 := by
  have := al_fact ⟨x.toNat, h⟩
  simpa using this

theorem sh2 : ∀ i : Fin 256, (i.val.toUInt8 >>> 2).toNat < 64 ∧ (i.val.toUInt8 &&& 63).toNat < 64 ∧ ((i.val.toUInt8 &&& 3) <<< 4).toNat < 64 ∧ ((i.val.toUInt8 &&& 15) <<< 2).toNat < 64
    ∧ (i.val.toUInt8 >>> 4).toNat < 16 ∧ (i.val.toUInt8 >>> 6).toNat < 4 := by decide +kernel
theorem sh_of (x : UInt8) : (x >>> 2).toNat < 64 ∧ (x &&& 63).toNat < 64 ∧ ((x &&& 3) <<< 4).toNat < 64 ∧ ((x &&& 15) <<< 2).toNat < 64 ∧ (x >>> 4).toNat < 16 ∧ (x >>> 6).toNat < 4 := by
  have := sh2 ⟨x.toNat, x.toNat_lt⟩
  simpa using this
theorem or4 : ∀ (i : Fin 256) (j : Fin 16), ((i.val.toUInt8 &&& 3) <<< 4 ||| j.val.toUInt8).toNat < 64
    ∧ (i.val.toUInt8 >>> 2) <<< 2 ||| ((i.val.toUInt8 &&& 3) <<< 4 ||| j.val.toUInt8) >>> 4 = i.val.toUInt8 := by decide +kernel
theorem or4_of (x y : UInt8) (h : y.toNat < 16) : ((x &&& 3) <<< 4 ||| y).toNat < 64 ∧ (x >>> 2) <<< 2 ||| ((x &&& 3) <<< 4 ||| y) >>> 4 = x := by
  have := or4 ⟨x.toNat, x.toNat_lt⟩ ⟨y.toNat, h⟩
  simpa using this
theorem or6 : ∀ (i : Fin 256) (j : Fin 4), ((i.val.toUInt8 &&& 15) <<< 2 ||| j.val.toUInt8).toNat < 64 := by decide +kernel
theorem or6_of (x y : UInt8) (h : y.toNat < 4) : ((x &&& 15) <<< 2 ||| y).toNat < 64 := by
  have := or6 ⟨x.toNat, x.toNat_lt⟩ ⟨y.toNat, h⟩
  simpa using this
theorem mid : ∀ (i : Fin 4) (j : Fin 256) (k : Fin 4), (i.val.toUInt8 <<< 4 ||| j.val.toUInt8 >>> 4) <<< 4 ||| ((j.val.toUInt8 &&& 15) <<< 2 ||| k.val.toUInt8) >>> 2 = j.val.toUInt8 := by decide +kernel
theorem and3 : ∀ i : Fin 256, (i.val.toUInt8 &&& 3).toNat < 4 := by decide +kernel
theorem mid_of (x y z : UInt8) (hz : z.toNat < 4) : ((x &&& 3) <<< 4 ||| y >>> 4) <<< 4 ||| ((y &&& 15) <<< 2 ||| z) >>> 2 = y := by
  have hx : (x &&& 3).toNat < 4 := by have := and3 ⟨x.toNat, x.toNat_lt⟩; simpa using this
  have := mid ⟨(x &&& 3).toNat, hx⟩ ⟨y.toNat, y.toNat_lt⟩ ⟨z.toNat, hz⟩
  simpa only [UInt8.ofNat_toNat, Nat.toUInt8_eq] using this
theorem low : ∀ (i : Fin 16) (j : Fin 256), (i.val.toUInt8 <<< 2 ||| j.val.toUInt8 >>> 6) <<< 6 ||| (j.val.toUInt8 &&& 63) = j.val.toUInt8 := by decide +kernel
theorem and15 : ∀ i : Fin 256, (i.val.toUInt8 &&& 15).toNat < 16 := by decide +kernel
theorem low_of (x y : UInt8) : ((x &&& 15) <<< 2 ||| y >>> 6) <<< 6 ||| (y &&& 63) = y := by
  have hx : (x &&& 15).toNat < 16 := by have := and15 ⟨x.toNat, x.toNat_lt⟩; simpa using this
  have := low ⟨(x &&& 15).toNat, hx⟩ ⟨y.toNat, y.toNat_lt⟩
  simpa only [UInt8.ofNat_toNat, Nat.toUInt8_eq] using this

theorem trim4 (p q r s : UInt8) (h : s ≠ 61) : Lib.trimRightB [p, q, r, s] 61 = [p, q, r, s] := by
  simp [Lib.trimRightB, h]
theorem trim3 (p q r : UInt8) (h : r ≠ 61) : Lib.trimRightB [p, q, r, 61] 61 = [p, q, r] := by
  simp [Lib.trimRightB, h]
theorem trim2 (p q : UInt8) (h : q ≠ 61) : Lib.trimRightB [p, q, 61, 61] 61 = [p, q] := by
  simp [Lib.trimRightB, h]

theorem three_four1 (a : UInt8) : three (four [a]) = [a] := by
  obtain ⟨h1, h2, h3, h4, h5, h6⟩ := sh_of a
  have z : (0 : UInt8).toNat < 16 := by decide
  obtain ⟨e1, e2⟩ := or4_of a 0 z
  rw [UInt8.or_zero] at e1 e2
  have a1 := al_of _ h1
  have a2 := al_of _ e1
  show threeOf (Lib.trimRightB [_, _, 61, 61] 61) = _
  rw [trim2 _ _ a2.1, threeOf, a1.2.1, a2.2.1, e2]
theorem three_four2 (a b : UInt8) : three (four [a, b]) = [a, b] := by
  obtain ⟨h1, h2, h3, h4, h5, h6⟩ := sh_of a
  obtain ⟨i1, i2, i3, i4, i5, i6⟩ := sh_of b
  obtain ⟨e1, e2⟩ := or4_of a _ i5
  have z : (0 : UInt8).toNat < 4 := by decide
  have f1 := or6_of b 0 z
  have g1 := mid_of a b 0 z
  rw [UInt8.or_zero] at f1 g1
  have a1 := al_of _ h1
  have a2 := al_of _ e1
  have a3 := al_of _ f1
  show threeOf (Lib.trimRightB [_, _, _, 61] 61) = _
  rw [trim3 _ _ _ a3.1, threeOf, a1.2.1, a2.2.1, a3.2.1, e2, g1]
theorem three_four3 (a b c : UInt8) : three (four [a, b, c]) = [a, b, c] := by
  obtain ⟨h1, h2, h3, h4, h5, h6⟩ := sh_of a
  obtain ⟨i1, i2, i3, i4, i5, i6⟩ := sh_of b
  obtain ⟨j1, j2, j3, j4, j5, j6⟩ := sh_of c
  obtain ⟨e1, e2⟩ := or4_of a _ i5
  have f1 := or6_of b _ j6
  have a1 := al_of _ h1
  have a2 := al_of _ e1
  have a3 := al_of _ f1
  have a4 := al_of _ j2
  show threeOf (Lib.trimRightB [_, _, _, _] 61) = _
  rw [trim4 _ _ _ _ a4.1, threeOf, a1.2.1, a2.2.1, a3.2.1, a4.2.1, e2, mid_of a b _ j6, low_of]

theorem dec_four (f : List UInt8) (hf : f.length = 4) (r : List UInt8) : dec (f ++ r) = three f ++ dec r := by
  match f, hf with
  | [a, b, c, d], _ => rfl
theorem four_length (l : List UInt8) : (four l).length = 4 := by unfold four; split <;> rfl

theorem dec_enc : ∀ l : List UInt8, dec (enc l) = l
  | [] => rfl
  | [a] => by
    have := dec_four (four [a]) (four_length _) []
    rw [List.append_nil, three_four1] at this
    exact this
  | [a, b] => by
    have := dec_four (four [a, b]) (four_length _) []
    rw [List.append_nil, three_four2] at this
    exact this
  | a :: b :: c :: r => by
    rw [enc, dec_four _ (four_length _), three_four3, dec_enc r]; rfl

theorem enc_length : ∀ l : List UInt8, (enc l).length = 4 * ((l.length + 2) / 3)
  | [] => rfl
  | [a] => by rw [enc, four_length]; simp only [List.length_cons, List.length_nil]
  | [a, b] => by rw [enc, four_length]; simp only [List.length_cons, List.length_nil]
  | a :: b :: c :: r => by
    rw [enc, List.length_append, four_length, enc_length r]; simp only [List.length_cons]; omega

theorem four_no (l : List UInt8) : (10 : UInt8) ∉ four l := by
  unfold four
  split
  · rename_i a
    have h1 := al_of _ (sh_of a).1
    have h2 := al_of _ (sh_of a).2.2.1
    simp only [List.mem_cons, List.not_mem_nil, or_false, not_or]
    exact ⟨fun h => h1.2.2 h.symm, fun h => h2.2.2 h.symm, by decide, by decide⟩
  · rename_i a b
    have h1 := al_of _ (sh_of a).1
    have h2 := al_of _ (or4_of a _ (sh_of b).2.2.2.2.1).1
    have h3 := al_of _ (sh_of b).2.2.2.1
    simp only [List.mem_cons, List.not_mem_nil, or_false, not_or]
    exact ⟨fun h => h1.2.2 h.symm, fun h => h2.2.2 h.symm, fun h => h3.2.2 h.symm, by decide⟩
  · rename_i a b c
    have h1 := al_of _ (sh_of a).1
    have h2 := al_of _ (or4_of a _ (sh_of b).2.2.2.2.1).1
    have h3 := al_of _ (or6_of b _ (sh_of c).2.2.2.2.2)
    have h4 := al_of _ (sh_of c).2.1
    simp only [List.mem_cons, List.not_mem_nil, or_false, not_or]
    exact ⟨fun h => h1.2.2 h.symm, fun h => h2.2.2 h.symm, fun h => h3.2.2 h.symm, fun h => h4.2.2 h.symm⟩
  · decide
theorem enc_no : ∀ l : List UInt8, (10 : UInt8) ∉ enc l
  | [] => by simp [enc]
  | [a] => four_no _
  | [a, b] => four_no _
  | a :: b :: c :: r => by
    rw [enc, List.mem_append, not_or]
    exact ⟨four_no _, enc_no r⟩

/-- one round of the loop that writes base 64 -/
theorem enc_step (l : List UInt8) (h : l ≠ []) : enc l = four (l.take (min 3 l.length)) ++ enc (l.drop (min 3 l.length)) := by
  match l, h with
  | [a], _ => rfl
  | [a, b], _ => rfl
  | a :: b :: c :: r, _ =>
    have : min 3 (a :: b :: c :: r).length = 3 := by simp only [List.length_cons]; omega
    rw [this, enc]; rfl

theorem dec_step (l : List UInt8) (h : 4 ≤ l.length) : dec l = three (l.take 4) ++ dec (l.drop 4) := by
  have := dec_four (l.take 4) (by rw [List.length_take]; omega) (l.drop 4)
  rwa [List.take_append_drop] at this
theorem dec_short (l : List UInt8) (h : l.length < 4) : dec l = [] := by
  match l, h with
  | [], _ => rfl
  | [a], _ => rfl
  | [a, b], _ => rfl
  | [a, b, c], _ => rfl

/-- what a line of base 64 says, and whether it is one -/
def lineOf (l : List UInt8) : List UInt8 × Bool := if l = [] ∨ 64 < l.length then ([], false) else (dec l, enc (dec l) == l)

theorem lineOf_enc (b : List UInt8) (h0 : b ≠ []) (h : b.length ≤ 48) : lineOf (enc b) = (b, true) := by
  have h1 := enc_length b
  have h2 : 1 ≤ b.length := by cases b; exact absurd rfl h0; simp
  have h3 : ¬ (enc b = [] ∨ 64 < (enc b).length) := by
    rintro (h | h)
    · rw [h] at h1; simp only [List.length_nil] at h1; omega
    · omega
  unfold lineOf
  rw [if_neg h3, dec_enc]
  simp

def chunkF : Nat → List UInt8 → List (List UInt8)
  | 0, _ => []
  | n + 1, l => if l = [] then [] else l.take 48 :: chunkF n (l.drop 48)
theorem chunkF_more : ∀ (n m : Nat) (l : List UInt8), l.length ≤ n → l.length ≤ m → chunkF n l = chunkF m l
  | 0, 0, _, _, _ => rfl
  | 0, m + 1, l, h, _ => by
    have : l = [] := List.length_eq_zero_iff.1 (by omega)
    rw [this]; rfl
  | n + 1, 0, l, _, h => by
    have : l = [] := List.length_eq_zero_iff.1 (by omega)
    rw [this]; rfl
  | n + 1, m + 1, l, hn, hm => by
    rw [chunkF, chunkF]
    by_cases h : l = []
    · rw [if_pos h, if_pos h]
    · have hl : l.length ≠ 0 := fun e => h (List.length_eq_zero_iff.1 e)
      rw [if_neg h, if_neg h, chunkF_more n m (l.drop 48) (by rw [List.length_drop]; omega) (by rw [List.length_drop]; omega)]
def chunk (l : List UInt8) : List (List UInt8) := chunkF l.length l
theorem chunk_nil : chunk [] = [] := rfl
theorem chunk_cons (l : List UInt8) (h : l ≠ []) : chunk l = l.take 48 :: chunk (l.drop 48) := by
  have hl : l.length ≠ 0 := fun e => h (List.length_eq_zero_iff.1 e)
  show chunkF l.length l = l.take 48 :: chunkF (l.drop 48).length (l.drop 48)
  rw [chunkF_more l.length (l.length + 1) l (Nat.le_refl _) (by omega), chunkF, if_neg h, chunkF_more l.length (l.drop 48).length (l.drop 48) (by rw [List.length_drop]; omega) (Nat.le_refl _)]

/-- lines, each with its newline -/
def unlines : List (List UInt8) → List UInt8
  | [] => []
  | l :: r => l ++ 10 :: unlines r
theorem unlines_append : ∀ a b : List (List UInt8), unlines (a ++ b) = unlines a ++ unlines b
  | [], b => rfl
  | l :: r, b => by simp [unlines, unlines_append r b]

def firstL : List UInt8 := [45, 45, 45, 45, 45, 66, 69, 71, 73, 78, 32, 77, 73, 83, 83, 73, 86, 69, 45, 45, 45, 45, 45]
def lastL : List UInt8 := [45, 45, 45, 45, 45, 69, 78, 68, 32, 77, 73, 83, 83, 73, 86, 69, 45, 45, 45, 45, 45]
def linesOf (b : List UInt8) : List (List UInt8) := firstL :: ((chunk b).map enc ++ [lastL])
/-- the text of a letter -/
def text (b : List UInt8) : List UInt8 := unlines (linesOf b)

/-- what lines say up to the one that only the last can be: the bytes, and how many lines -/
def innR : List (List UInt8) → List UInt8 × Nat
  | [] => ([], 0)
  | l :: r =>
    let (b, right) := lineOf l
    if right = false then ([], 0)
    else if b.length < 48 then (b, 1)
    else
      let (x, n) := innR r
      (b ++ x, n + 1)

/-- what is read of whole lines and of what stands behind them -/
def rd (ls : List (List UInt8)) (b : List UInt8) : List UInt8 × Nat × Bool :=
  match ls with
  | [] => ([], 0, false)
  | l :: r =>
    if l ≠ firstL then ([], 0, false)
    else
      let (x, n) := innR r
      match r[n]? with
      | none => ([], n + 1, false)
      | some z => if z ≠ lastL then ([], n + 1, false) else if n + 1 < r.length ∨ b ≠ [] then ([], n + 2, false) else (x, 0, true)

theorem lastL_not : lineOf lastL = ([], false) ∨ (lineOf lastL).2 = false := by decide +kernel
theorem lastL_right : (lineOf lastL).2 = false := by decide +kernel
theorem innR_last (r : List (List UInt8)) : innR (lastL :: r) = ([], 0) := by
  unfold innR
  have := lastL_right
  generalize lineOf lastL = x at this
  obtain ⟨b, c⟩ := x
  simp only at this
  subst this
  rfl

theorem innR_stop {l : List UInt8} (r : List (List UInt8)) (h : (lineOf l).2 = false) : innR (l :: r) = ([], 0) := by
  unfold innR
  generalize lineOf l = x at h
  obtain ⟨b, c⟩ := x
  simp only at h
  subst h
  rfl
theorem innR_short {l : List UInt8} (r : List (List UInt8)) (h : (lineOf l).2 = true) (h2 : (lineOf l).1.length < 48) : innR (l :: r) = ((lineOf l).1, 1) := by
  unfold innR
  generalize lineOf l = x at h h2
  obtain ⟨b, c⟩ := x
  simp only at h h2
  subst h
  simp [h2]
theorem innR_full {l : List UInt8} (r : List (List UInt8)) (h : (lineOf l).2 = true) (h2 : ¬ (lineOf l).1.length < 48) : innR (l :: r) = ((lineOf l).1 ++ (innR r).1, (innR r).2 + 1) := by
  rw [innR]
  generalize lineOf l = x at h h2
  obtain ⟨b, c⟩ := x
  simp only at h h2
  subst h
  simp [h2]

theorem innR_text (n : Nat) : ∀ (b : List UInt8) (r : List (List UInt8)), b.length ≤ n → innR ((chunk b).map enc ++ lastL :: r) = (b, (chunk b).length) := by
  induction n with
  | zero =>
    intro b r h
    have : b = [] := by simpa using h
    subst this
    rw [chunk_nil]; exact innR_last r
  | succ n ih =>
    intro b r h
    by_cases h0 : b = []
    · subst h0; rw [chunk_nil]; exact innR_last r
    · have h1 : 1 ≤ b.length := by cases b; exact absurd rfl h0; simp
      have h2 : b.take 48 ≠ [] := by
        intro e
        have : (b.take 48).length = 0 := by rw [e]; rfl
        rw [List.length_take] at this; omega
      have hl := lineOf_enc (b.take 48) h2 (by rw [List.length_take]; omega)
      rw [chunk_cons b h0]
      show innR (enc (b.take 48) :: _) = _
      by_cases h3 : b.length < 48
      · have e1 : b.take 48 = b := List.take_of_length_le (by omega)
        have e2 : b.drop 48 = [] := List.drop_of_length_le (by omega)
        rw [innR_short _ (by rw [hl]) (by rw [hl]; rw [List.length_take]; omega), hl, e1, e2, chunk_nil]; rfl
      · have e1 : (b.take 48).length = 48 := by rw [List.length_take]; omega
        have ih' := ih (b.drop 48) r (by rw [List.length_drop]; omega)
        rw [innR_full _ (by rw [hl]) (by rw [hl]; simp only; omega), hl]
        show (b.take 48 ++ (innR ((chunk (b.drop 48)).map enc ++ lastL :: r)).1, (innR ((chunk (b.drop 48)).map enc ++ lastL :: r)).2 + 1) = _
        rw [ih']
        simp only [List.take_append_drop, List.length_cons]

/-- lines cut off ahead of the last one: all of them are taken -/
theorem innR_cut (n : Nat) : ∀ (b : List UInt8) (k : Nat), b.length ≤ n → k ≤ (chunk b).length → (innR (((chunk b).map enc).take k)).2 = k := by
  induction n with
  | zero =>
    intro b k h hk
    have : b = [] := by simpa using h
    subst this
    rw [chunk_nil] at hk ⊢
    have : k = 0 := by simpa using hk
    subst this; rfl
  | succ n ih =>
    intro b k h hk
    by_cases h0 : b = []
    · subst h0
      rw [chunk_nil] at hk ⊢
      have : k = 0 := by simpa using hk
      subst this; rfl
    · have h1 : 1 ≤ b.length := by cases b; exact absurd rfl h0; simp
      have h2 : b.take 48 ≠ [] := by
        intro e
        have : (b.take 48).length = 0 := by rw [e]; rfl
        rw [List.length_take] at this; omega
      have hl := lineOf_enc (b.take 48) h2 (by rw [List.length_take]; omega)
      cases k with
      | zero => simp [innR]
      | succ k =>
        rw [chunk_cons b h0] at hk ⊢
        show (innR (enc (b.take 48) :: _)).2 = _
        by_cases h3 : b.length < 48
        · have e2 : b.drop 48 = [] := List.drop_of_length_le (by omega)
          rw [e2, chunk_nil] at hk
          have : k = 0 := by simp only [List.length_cons, List.length_nil] at hk; omega
          subst this
          rw [innR_short _ (by rw [hl]) (by rw [hl]; rw [List.length_take]; omega)]
        · have e1 : (b.take 48).length = 48 := by rw [List.length_take]; omega
          have ih' := ih (b.drop 48) k (by rw [List.length_drop]; omega) (by simp only [List.length_cons] at hk; omega)
          rw [innR_full _ (by rw [hl]) (by rw [hl]; simp only; omega)]
          show (innR (((chunk (b.drop 48)).map enc).take k)).2 + 1 = k + 1
          rw [ih']

theorem rd_text (b : List UInt8) : rd (linesOf b) [] = (b, 0, true) := by
  have h1 := innR_text b.length b [] (Nat.le_refl _)
  unfold rd linesOf
  simp only [ne_eq, not_true_eq_false, if_false, h1]
  rw [List.getElem?_append_right (by simp)]
  simp
theorem rd_more (b : List UInt8) (z : List UInt8) : rd (linesOf b ++ [z]) [] = ([], (linesOf b).length, false) := by
  have h1 := innR_text b.length b [z] (Nat.le_refl _)
  have e : linesOf b ++ [z] = firstL :: ((chunk b).map enc ++ lastL :: [z]) := by simp [linesOf]
  rw [e]
  unfold rd
  simp only [ne_eq, not_true_eq_false, if_false, h1]
  rw [List.getElem?_append_right (by simp)]
  simp [linesOf]
theorem rd_cut (b z : List UInt8) (m : Nat) (hm : m < (linesOf b).length) : rd ((linesOf b).take m) z = ([], m, false) := by
  cases m with
  | zero => rfl
  | succ k =>
    have hk : k ≤ (chunk b).length := by simp [linesOf] at hm; omega
    have e : (linesOf b).take (k + 1) = firstL :: ((chunk b).map enc).take k := by
      simp [linesOf, List.take_append, Nat.sub_eq_zero_of_le hk]
    have h1 := innR_cut b.length b k (Nat.le_refl _) hk
    rw [e]
    unfold rd
    simp only [ne_eq, not_true_eq_false, if_false]
    generalize innR (((chunk b).map enc).take k) = x at h1
    obtain ⟨x, n⟩ := x
    simp only at h1
    subst h1
    simp only
    rw [List.getElem?_eq_none (by simp; omega)]

/-- a text and its whole lines -/
theorem count_unlines : ∀ (ls : List (List UInt8)) (b : List UInt8), (∀ l ∈ ls, (10 : UInt8) ∉ l) → (10 : UInt8) ∉ b → (unlines ls ++ b).count 10 = ls.length
  | [], b, _, hb => by simpa [unlines, List.count_eq_zero] using hb
  | l :: r, b, h, hb => by
    have ih := count_unlines r b (fun x hx => h x (by simp [hx])) hb
    have h0 : l.count 10 = 0 := List.count_eq_zero.2 (h l (by simp))
    rw [List.count_append] at ih
    simp only [unlines, List.append_assoc, List.cons_append, List.count_append, List.count_cons, h0, List.length_cons]
    simp only [BEq.rfl, if_true]
    omega

theorem cut_unlines : ∀ (ls : List (List UInt8)) (k : Nat), (∀ l ∈ ls, (10 : UInt8) ∉ l) → k < (unlines ls).length →
    ∃ m b, m < ls.length ∧ (10 : UInt8) ∉ b ∧ (unlines ls).take k = unlines (ls.take m) ++ b
  | [], k, _, hk => by simp [unlines] at hk
  | l :: r, k, h, hk => by
    by_cases h1 : k ≤ l.length
    · refine ⟨0, l.take k, by simp, fun hm => h l (by simp) (List.mem_of_mem_take hm), ?_⟩
      simp [unlines, List.take_append, Nat.sub_eq_zero_of_le h1]
    · have hk2 : k - l.length - 1 < (unlines r).length := by
        simp only [unlines, List.length_append, List.length_cons] at hk; omega
      obtain ⟨m, b, hm, hb, e⟩ := cut_unlines r (k - l.length - 1) (fun x hx => h x (by simp [hx])) hk2
      refine ⟨m + 1, b, by simp only [List.length_cons]; omega, hb, ?_⟩
      obtain ⟨j, hj⟩ : ∃ j, k = l.length + 1 + j := ⟨k - l.length - 1, by omega⟩
      subst hj
      have e3 : l.length + 1 + j - l.length - 1 = j := by omega
      rw [e3] at e
      have e4 : l.length + 1 + j - l.length = j + 1 := by omega
      rw [unlines, List.take_append, List.take_of_length_le (by omega), e4, List.take_succ_cons, e]
      simp [unlines]

theorem linesOf_no (b : List UInt8) : ∀ l ∈ linesOf b, (10 : UInt8) ∉ l := by
  intro l hl
  simp only [linesOf, List.mem_cons, List.mem_append, List.mem_map, List.not_mem_nil, or_false] at hl
  rcases hl with rfl | ⟨x, _, rfl⟩ | rfl
  · decide
  · exact enc_no x
  · decide
theorem chunk_le (n : Nat) : ∀ b : List UInt8, b.length ≤ n → ∀ x ∈ chunk b, x.length ≤ 48 := by
  induction n with
  | zero =>
    intro b h x hx
    have : b = [] := by simpa using h
    subst this
    rw [chunk_nil] at hx; cases hx
  | succ n ih =>
    intro b h x hx
    by_cases h0 : b = []
    · subst h0; rw [chunk_nil] at hx; cases hx
    · have h1 : 1 ≤ b.length := by cases b; exact absurd rfl h0; simp
      rw [chunk_cons b h0, List.mem_cons] at hx
      rcases hx with rfl | hx
      · rw [List.length_take]; omega
      · exact ih (b.drop 48) (by rw [List.length_drop]; omega) x hx
theorem linesOf_short (b : List UInt8) : ∀ l ∈ linesOf b, l.length ≤ 64 := by
  intro l hl
  simp only [linesOf, List.mem_cons, List.mem_append, List.mem_map, List.not_mem_nil, or_false] at hl
  rcases hl with rfl | ⟨x, hx, rfl⟩ | rfl
  · decide
  · have := chunk_le b.length b (Nat.le_refl _) x hx
    rw [enc_length]; omega
  · decide
theorem chunk_length (n : Nat) : ∀ b : List UInt8, b.length ≤ n → (chunk b).length = (b.length + 47) / 48 := by
  induction n with
  | zero =>
    intro b h
    have : b = [] := by simpa using h
    subst this
    rw [chunk_nil]; rfl
  | succ n ih =>
    intro b h
    by_cases h0 : b = []
    · subst h0; rw [chunk_nil]; rfl
    · have h1 : 1 ≤ b.length := by cases b; exact absurd rfl h0; simp
      rw [chunk_cons b h0, List.length_cons, ih (b.drop 48) (by rw [List.length_drop]; omega), List.length_drop]; omega
theorem linesOf_length (b : List UInt8) : (linesOf b).length = 2 + (4 * ((b.length + 2) / 3) + 63) / 64 := by
  simp only [linesOf, List.length_cons, List.length_append, List.length_map, List.length_nil, chunk_length b.length b (Nat.le_refl _)]
  omega

/-- every text is whole lines and something behind them -/
theorem lines_exist : ∀ t : List UInt8, ∃ ls b, (∀ l ∈ ls, (10 : UInt8) ∉ l) ∧ (10 : UInt8) ∉ b ∧ t = unlines ls ++ b
  | [] => ⟨[], [], by simp, by simp, rfl⟩
  | x :: r => by
    obtain ⟨ls, b, h1, h2, e⟩ := lines_exist r
    by_cases hx : x = 10
    · subst hx
      exact ⟨[] :: ls, b, by simpa using h1, h2, by rw [e]; rfl⟩
    · cases ls with
      | nil => exact ⟨[], x :: b, by simp, by simp [h2, Ne.symm hx], by rw [e]; rfl⟩
      | cons l ls =>
        refine ⟨(x :: l) :: ls, b, ?_, h2, by rw [e]; rfl⟩
        intro y hy
        simp only [List.mem_cons] at hy
        rcases hy with rfl | hy
        · have := h1 l (by simp)
          simp [this, Ne.symm hx]
        · exact h1 y (by simp [hy])

/-- the shelf's way to part a text at newlines -/
theorem index_one (c : UInt8) (l r : List UInt8) (h : c ∉ l) : Lib.index (l ++ c :: r) [c] = (l.length : Int) := by
  induction l with
  | nil =>
    show Lib.index (c :: r) [c] = _
    rw [Lib.index]; simp [List.isPrefixOf]
  | cons x l ih =>
    have hx : x ≠ c := fun e => h (by simp [e])
    have ih' := ih (fun e => h (by simp [e]))
    show Lib.index (x :: (l ++ c :: r)) [c] = _
    have hp : ([c] : List UInt8).isPrefixOf (x :: (l ++ c :: r)) = false := by simp [List.isPrefixOf, Ne.symm hx]
    rw [Lib.index, hp, ih']
    have h2 : ((l.length : Int) == -1) = false := by simp
    rw [h2]; simp
theorem split_lines : ∀ (ls : List (List UInt8)) (b : List UInt8), (∀ l ∈ ls, (10 : UInt8) ∉ l) → Lib.splitK [10] 0 ls.length (unlines ls ++ b) = ls ++ [b]
  | [], b, _ => rfl
  | l :: r, b, h => by
    have ih := split_lines r b (fun x hx => h x (by simp [hx]))
    have e : unlines (l :: r) ++ b = l ++ 10 :: (unlines r ++ b) := by simp [unlines]
    rw [e, List.length_cons, Lib.splitK, index_one 10 l _ (h l (by simp))]
    have h2 : ((l.length : Int) == -1) = false := by simp
    rw [h2]
    simp only [Bool.false_eq_true, if_false, Int.toNat_natCast, Nat.add_zero, List.take_left', List.length_singleton]
    have e2 : (l ++ 10 :: (unlines r ++ b)).drop (l.length + 1) = unlines r ++ b := by
      rw [List.drop_append, List.drop_of_length_le (by omega)]
      have : l.length + 1 - l.length = 1 := by omega
      rw [this]; rfl
    rw [e2, ih]; rfl
theorem splitB_lines (s : ByteArray) (ls : List (List UInt8)) (b : List UInt8) (hs : s.data.toList = unlines ls ++ b) (h : ∀ l ∈ ls, (10 : UInt8) ∉ l) (hb : (10 : UInt8) ∉ b) :
    Lib.countB s ⟨#[10]⟩ = ls.length ∧ Lib.splitB ⟨#[10]⟩ 0 (Lib.countB s ⟨#[10]⟩) s = (ls ++ [b]).map fun l => (⟨l.toArray⟩ : ByteArray) := by
  have e1 : Lib.countB s ⟨#[10]⟩ = ls.length := by
    have : Lib.countB s ⟨#[10]⟩ = Lib.count s.data.toList [10] := rfl
    rw [this, hs, Lib.count_one, count_unlines ls b h hb]
  refine ⟨e1, ?_⟩
  rw [e1]
  have e2 := Lib.splitB_data ⟨#[10]⟩ 0 ls.length s
  have e3 : (⟨#[10]⟩ : ByteArray).data.toList = [10] := rfl
  rw [hs, e3, split_lines ls b h] at e2
  have e4 : ((Lib.splitB ⟨#[10]⟩ 0 ls.length s).map (·.data.toList)).map (fun l => (⟨l.toArray⟩ : ByteArray)) = Lib.splitB ⟨#[10]⟩ 0 ls.length s := by
    rw [List.map_map]
    conv => rhs; rw [← List.map_id (Lib.splitB ⟨#[10]⟩ 0 ls.length s)]
    apply List.map_congr_left
    intro x _
    rfl
  rw [← e4, e2]

end Go.Proofs.YtclpbaokadfhhabDoor.Tx
