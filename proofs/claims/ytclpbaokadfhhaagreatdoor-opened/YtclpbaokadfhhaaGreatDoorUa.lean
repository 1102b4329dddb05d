/- Several texts as one: Bd, Tx, Ln1, Ln2. -/
import Derived.Test.YtclpbaokadfhhaaGreatDoorShelf
import Derived.Test.YtclpbaokadfhhaaGreatDoorZa
import Derived.Lib.FrozenHead
import Derived.Shelf.Strings.Builder1
import Derived.Lib.SplitLaws
import Derived.Lib.TrimByte
namespace Go.Proofs.YtclpbaokadfhhaaGreatDoor
open Go.RowKit Go.Shelf

/-- block b is a builder that holds these bytes; what lies below B is not its own -/
abbrev Bld (B b : Nat) (l : List UInt8) (w : World) : Prop := Lib.IsBuilderF 90 5 B b (Lib.byteCells l) w

theorem Tryz.sizeBuilder : (Tryz.prog.info? 90).map (·.size) = some 2 := by kernel_rfl
theorem bytes_cells (l : List UInt8) (s : ByteArray) : Lib.byteCells l ++ Lib.strCells s = Lib.byteCells (l ++ s.data.toList) := by
  simp [Lib.byteCells, Lib.strCells]

set_option maxHeartbeats 1000000 in
set_option maxRecDepth 100000 in
theorem bd_copy_used (b : Nat) (w : World) (h0 : w.cell? ⟨b, 0, none⟩ = some (.pointer (some ⟨b, 0, none⟩))) :
    Calls Tryz.prog 135 #[.pointer (some ⟨b, 0, none⟩)] w fun e w' => e = .returned (.tuple #[]) ∧ w' = w := by
  obtain ⟨j, hj, _⟩ := Option.map_eq_some_iff.1 Tryz.sizeBuilder
  go_enter Tryz.func135, Tryz.ntmps135
  go_wp2
  rw [Lib.run_neq_ptr_same w _ Tryz.underlying88 hj]
  go_wp2
  go_end0
  exact ⟨rfl, rfl⟩

set_option maxHeartbeats 1000000 in
set_option maxRecDepth 100000 in
theorem bd_copy_fresh (b : Nat) (w : World) (h0 : w.cell? ⟨b, 0, none⟩ = some (.pointer none)) (hsh : w.shape? b = some (90, 2)) (hfz : w.frozen? ⟨b, 0, none⟩ = false) :
    Calls Tryz.prog 135 #[.pointer (some ⟨b, 0, none⟩)] w fun e w' => e = .returned (.tuple #[]) ∧ w' = w.setCell ⟨b, 0, none⟩ (.pointer (some ⟨b, 0, none⟩)) := by
  obtain ⟨j, hj, hjs⟩ := Option.map_eq_some_iff.1 Tryz.sizeBuilder
  go_enter Tryz.func135, Tryz.ntmps135
  go_wp2
  rw [Lib.run_to_unsafe w ⟨b, 0, none⟩ Tryz.underlying88 Tryz.underlying190 hj (by rw [hjs]; decide) hsh (Nat.zero_lt_succ 1)]
  simp only [Result.andThen]
  rw [Oper.upon_value]
  go_wp2
  rw [run_callFunc_extern Tryz.func190 (by kernel_rfl) (by kernel_rfl) (by kernel_rfl) (e := Extern.AbiNoEscape.same) (by kernel_rfl)]
  rw [Lib.run_noEscape]
  simp only [Result.andThen]
  rw [Oper.upon_value]
  go_wp2
  rw [Lib.run_from_unsafe w ⟨b, 0, none⟩ Tryz.underlying190 Tryz.underlying88 hj hsh (by kernel_rfl)]
  simp only [Result.andThen]
  rw [Oper.upon_value]
  go_wp2
  go_end0
  exact ⟨rfl, rfl⟩

theorem bd_copy (B b : Nat) (l : List Value) (w : World) (h : Lib.IsBuilderF 90 5 B b l w) :
    Calls Tryz.prog 135 #[.pointer (some ⟨b, 0, none⟩)] w fun e w' => e = .returned (.tuple #[]) ∧ (Lib.BuilderAtF 90 5 B b (.pointer (some ⟨b, 0, none⟩)) l w' ∧ Below B w w') := by
  rcases h with h | h
  · refine (bd_copy_fresh b w h.cell0 h.shape h.frozen0).mono ?_
    rintro e w' ⟨rfl, rfl⟩
    exact ⟨rfl, h.used _, (Below.refl B w).setCell (p := ⟨b, 0, none⟩) h.1 _⟩
  · refine (bd_copy_used b w h.cell0).mono ?_
    rintro e w' ⟨rfl, rfl⟩
    exact ⟨rfl, h, Below.refl B _⟩

set_option maxHeartbeats 2000000 in
set_option maxRecDepth 100000 in
theorem bd_write0 (B b : Nat) (bs : List Value) (s : ByteArray) (w : World) (h : Lib.IsBuilderF 90 5 B b bs w) (hlen : bs.length + s.size ≤ 140737488355328) (hBw : B ≤ w.heap.size) :
    Calls Tryz.prog 69 #[.pointer (some ⟨b, 0, none⟩), .string s] w fun e w' => e = .returned (.tuple #[.int .i64 s.size, .nilIface]) ∧ (Lib.BuilderAtF 90 5 B b (.pointer (some ⟨b, 0, none⟩)) (bs ++ Lib.strCells s) w' ∧ Below B w w') := by
  obtain ⟨i0, hi, hz0, hz1, hz2⟩ := info_parts Tryz.infoByte
  go_enter Tryz.func69, Tryz.ntmps69
  go_wp2_with (go_at_call 135; refine (bd_copy B b bs _ h).mono ?_)
  rintro e w1 ⟨rfl, h1, hb1⟩
  obtain ⟨hB, v, hbk, hown, hne⟩ := h1
  have c0 : w1.cell? ⟨b, 0, none⟩ = some (.pointer (some ⟨b, 0, none⟩)) := by rw [Lib.cell_of_heap hbk]; rfl
  have c1 : w1.cell? ⟨b, 1, none⟩ = some v := by rw [Lib.cell_of_heap hbk]; rfl
  go_wp2_with (at_builtin; refine Lib.wpList_append_own_stringF _ rfl _ _ 55 9 rfl B 5 i0 Tryz.underlying55 Tryz.underlying9 hi hz0 hz1 hz2 _ _ _ rfl hown s rfl ?c3 ?c4 ?c5 ?_)
  case c3 => unfold maxLen; omega
  case c4 => omega
  case c5 => have := hb1.size; omega
  intro v' w2 hown' hgrow _
  have hlt : b < w1.heap.size := (Array.getElem?_eq_some_iff.1 hbk).1
  have hb2 : w2.heap[b]? = some (.cells #[.pointer (some ⟨b, 0, none⟩), v] 90 (0, 0)) := by
    rw [hgrow.block b hlt (fun e => hne e.symm)]
    exact hbk
  have d0 : w2.cell? ⟨b, 0, none⟩ = some (.pointer (some ⟨b, 0, none⟩)) := by rw [Lib.cell_of_heap hb2]; rfl
  have d1 : w2.cell? ⟨b, 1, none⟩ = some v := by rw [Lib.cell_of_heap hb2]; rfl
  have f1 : w2.frozen? ⟨b, 1, none⟩ = false := Lib.frozen_of_heap hb2 1
  obtain ⟨ao, n', cap, rfl⟩ : ∃ ao n' cap, v' = .slice ao n' cap := by
    rcases hown'.2 with ⟨hv, _⟩ | ⟨g, cap, cur, fz, hv, _⟩
    · exact ⟨_, _, _, hv⟩
    · exact ⟨_, _, _, hv⟩
  go_wp2
  go_ret2
  refine ⟨rfl, ?_, ?_⟩
  · exact Lib.BuilderAtF.put (T := 90) (e := 5) hB hb2 (bs' := bs ++ Lib.strCells s) (by simpa [Lib.strCells_length] using hown') (by decide)
  · exact (hb1.grown hgrow (by have := hb1.size; omega) (fun k hk => (hown.lt k hk).1)).setCell (p := ⟨b, 1, none⟩) hB _

/-- WriteString -/
theorem bd_write (B b : Nat) (l : List UInt8) (s : ByteArray) (w : World) (h : Bld B b l w) (hlen : l.length + s.size ≤ 140737488355328) (hBw : B ≤ w.heap.size) :
    Calls Tryz.prog 69 #[.pointer (some ⟨b, 0, none⟩), .string s] w fun e w' => e = .returned (.tuple #[.int .i64 s.size, .nilIface]) ∧ (Bld B b (l ++ s.data.toList) w' ∧ Below B w w') := by
  refine (bd_write0 B b _ s w h (by rw [Lib.byteCells_length]; exact hlen) hBw).mono ?_
  rintro e w' ⟨rfl, h1, h2⟩
  rw [bytes_cells] at h1
  exact ⟨rfl, .inr h1, h2⟩

/-- String -/
theorem bd_string (B b : Nat) (l : List UInt8) (w : World) (h : Bld B b l w) (hBw : B ≤ w.heap.size) :
    Calls Tryz.prog 71 #[.pointer (some ⟨b, 0, none⟩)] w fun e w' => e = .returned (.string ⟨l.toArray⟩) ∧ (Bld B b l w' ∧ Below B w w') :=
  Tryz.Builder_String_any_f B b l w h hBw

/-- var b strings.Builder -/
theorem bd_new (w : World) : Bld w.heap.size w.heap.size [] (w.alloc (.cells #[.pointer none, .slice none 0 0] 90)) := by
  refine .inl ⟨Nat.le_refl _, .slice none 0 0, heap_alloc_new w _, World.ownsRowF_nil _ _ _ _, ?_⟩
  intro e
  cases e
theorem Bld.keep {B b : Nat} {l : List UInt8} {w w' : World} (h : Bld B b l w) (hk : Below w.heap.size w w') : Bld B b l w' := by
  have one : ∀ p, Lib.BuilderAtF 90 5 B b p (Lib.byteCells l) w → Lib.BuilderAtF 90 5 B b p (Lib.byteCells l) w' := by
    rintro p ⟨hB, v, hbk, ⟨hl, hown⟩, hne⟩
    refine ⟨hB, v, ?_, ⟨hl, ?_⟩, hne⟩
    · rw [hk.block b (Array.getElem?_eq_some_iff.1 hbk).1]; exact hbk
    · rcases hown with hn | ⟨g, cap, cur, fz, hv, hb, hg, rest⟩
      · exact .inl hn
      · refine .inr ⟨g, cap, cur, fz, hv, hb, ?_, rest⟩
        rw [hk.block g (Array.getElem?_eq_some_iff.1 hg).1]; exact hg
  rcases h with h | h
  · exact .inl (one _ h)
  · exact .inr (one _ h)

end Go.Proofs.YtclpbaokadfhhaaGreatDoor

namespace Go.Proofs.YtclpbaokadfhhaaGreatDoor.Tx

/-- the letters of base 64 -/
def alpha : List UInt8 := [65, 66, 67, 68, 69, 70, 71, 72, 73, 74, 75, 76, 77, 78, 79, 80, 81, 82, 83, 84, 85, 86, 87, 88, 89, 90, 97, 98, 99, 100, 101, 102, 103, 104, 105, 106, 107, 108, 109, 110, 111, 112, 113, 114, 115, 116, 117, 118, 119, 120, 121, 122, 48, 49, 50, 51, 52, 53, 54, 55, 56, 57, 43, 47]
def al (x : UInt8) : UInt8 := alpha.getD x.toNat 0
/-- the number of a letter, 255 of what is none -/
def val (x : UInt8) : UInt8 := (Lib.indexByte alpha x % 256).toNat.toUInt8

def four : List UInt8 → List UInt8
  | [a] => [al (a >>> 2), al ((a &&& 3) <<< 4), 61, 61]
  | [a, b] => [al (a >>> 2), al ((a &&& 3) <<< 4 ||| b >>> 4), al ((b &&& 15) <<< 2), 61]
  | [a, b, c] => [al (a >>> 2), al ((a &&& 3) <<< 4 ||| b >>> 4), al ((b &&& 15) <<< 2 ||| c >>> 6), al (c &&& 63)]
  | _ => [61, 61, 61, 61]

def enc : List UInt8 → List UInt8
  | [] => []
  | [a] => four [a]
  | [a, b] => four [a, b]
  | a :: b :: c :: r => four [a, b, c] ++ enc r

def threeOf : List UInt8 → List UInt8
  | [a, b, c, d] => [val a <<< 2 ||| val b >>> 4, val b <<< 4 ||| val c >>> 2, val c <<< 6 ||| val d]
  | [a, b, c] => [val a <<< 2 ||| val b >>> 4, val b <<< 4 ||| val c >>> 2]
  | [a, b] => [val a <<< 2 ||| val b >>> 4]
  | _ => []
def three (f : List UInt8) : List UInt8 := threeOf (Lib.trimRightB f 61)

def dec : List UInt8 → List UInt8
  | a :: b :: c :: d :: r => three [a, b, c, d] ++ dec r
  | _ => []

theorem al_fact : ∀ i : Fin 64, al i.val.toUInt8 ≠ 61 ∧ val (al i.val.toUInt8) = i.val.toUInt8 ∧ al i.val.toUInt8 ≠ 10 := by decide +kernel
theorem al_of (x : UInt8) (h : x.toNat < 64) : al x ≠ 61 ∧ val (al x) = x ∧ al x ≠ 10 := by
  have := al_fact ⟨x.toNat, h⟩
  simpa using this

theorem sh2 : ∀ i : Fin 256, (i.val.toUInt8 >>> 2).toNat < 64 ∧ (i.val.toUInt8 &&& 63).toNat < 64 ∧ ((i.val.toUInt8 &&& 3) <<< 4).toNat < 64 ∧ ((i.val.toUInt8 &&& 15) <<< 2).toNat < 64
    ∧ (i.val.toUInt8 >>> 4).toNat < 16 ∧ (i.val.toUInt8 >>> 6).toNat < 4 := by decide +kernel
theorem sh_of (x : UInt8) : (x >>> 2).toNat < 64 ∧ (x &&& 63).toNat < 64 ∧ ((x &&& 3) <<< 4).toNat < 64 ∧ ((x &&& 15) <<< 2).toNat < 64 ∧ (x >>> 4).toNat < 16 ∧ (x >>> 6).toNat < 4 := by
  have := sh2 ⟨x.toNat, x.toNat_lt⟩
  simpa using this
theorem or4 : ∀ (i : Fin 256) (j : Fin 16), ((i.val.toUInt8 &&& 3) <<< 4 ||| j.val.toUInt8).toNat < 64
    ∧ (i.val.toUInt8 >>> 2) <<< 2 ||| ((i.val.toUInt8 &&& 3) <<< 4 ||| j.val.toUInt8) >>> 4 = i.val.toUInt8 := by decide +kernel
theorem or4_of (x y : UInt8) (h : y.toNat < 16) : ((x &&& 3) <<< 4 ||| y).toNat < 64 ∧ (x >>> 2) <<< 2 ||| ((x &&& 3) <<< 4 ||| y) >>> 4 = x := by
  have := or4 ⟨x.toNat, x.toNat_lt⟩ ⟨y.toNat, h⟩
  simpa using this
theorem or6 : ∀ (i : Fin 256) (j : Fin 4), ((i.val.toUInt8 &&& 15) <<< 2 ||| j.val.toUInt8).toNat < 64 := by decide +kernel
theorem or6_of (x y : UInt8) (h : y.toNat < 4) : ((x &&& 15) <<< 2 ||| y).toNat < 64 := by
  have := or6 ⟨x.toNat, x.toNat_lt⟩ ⟨y.toNat, h⟩
  simpa using this
theorem mid : ∀ (i : Fin 4) (j : Fin 256) (k : Fin 4), (i.val.toUInt8 <<< 4 ||| j.val.toUInt8 >>> 4) <<< 4 ||| ((j.val.toUInt8 &&& 15) <<< 2 ||| k.val.toUInt8) >>> 2 = j.val.toUInt8 := by decide +kernel
theorem and3 : ∀ i : Fin 256, (i.val.toUInt8 &&& 3).toNat < 4 := by decide +kernel
theorem mid_of (x y z : UInt8) (hz : z.toNat < 4) : ((x &&& 3) <<< 4 ||| y >>> 4) <<< 4 ||| ((y &&& 15) <<< 2 ||| z) >>> 2 = y := by
  have hx : (x &&& 3).toNat < 4 := by have := and3 ⟨x.toNat, x.toNat_lt⟩; simpa using this
  have := mid ⟨(x &&& 3).toNat, hx⟩ ⟨y.toNat, y.toNat_lt⟩ ⟨z.toNat, hz⟩
  simpa only [UInt8.ofNat_toNat, Nat.toUInt8_eq] using this
theorem low : ∀ (i : Fin 16) (j : Fin 256), (i.val.toUInt8 <<< 2 ||| j.val.toUInt8 >>> 6) <<< 6 ||| (j.val.toUInt8 &&& 63) = j.val.toUInt8 := by decide +kernel
theorem and15 : ∀ i : Fin 256, (i.val.toUInt8 &&& 15).toNat < 16 := by decide +kernel
theorem low_of (x y : UInt8) : ((x &&& 15) <<< 2 ||| y >>> 6) <<< 6 ||| (y &&& 63) = y := by
  have hx : (x &&& 15).toNat < 16 := by have := and15 ⟨x.toNat, x.toNat_lt⟩; simpa using this
  have := low ⟨(x &&& 15).toNat, hx⟩ ⟨y.toNat, y.toNat_lt⟩
  simpa only [UInt8.ofNat_toNat, Nat.toUInt8_eq] using this

theorem trim4 (p q r s : UInt8) (h : s ≠ 61) : Lib.trimRightB [p, q, r, s] 61 = [p, q, r, s] := by
  simp [Lib.trimRightB, h]
theorem trim3 (p q r : UInt8) (h : r ≠ 61) : Lib.trimRightB [p, q, r, 61] 61 = [p, q, r] := by
  simp [Lib.trimRightB, h]
theorem trim2 (p q : UInt8) (h : q ≠ 61) : Lib.trimRightB [p, q, 61, 61] 61 = [p, q] := by
  simp [Lib.trimRightB, h]

theorem three_four1 (a : UInt8) : three (four [a]) = [a] := by
  obtain ⟨h1, h2, h3, h4, h5, h6⟩ := sh_of a
  have z : (0 : UInt8).toNat < 16 := by decide
  obtain ⟨e1, e2⟩ := or4_of a 0 z
  rw [UInt8.or_zero] at e1 e2
  have a1 := al_of _ h1
  have a2 := al_of _ e1
  show threeOf (Lib.trimRightB [_, _, 61, 61] 61) = _
  rw [trim2 _ _ a2.1, threeOf, a1.2.1, a2.2.1, e2]
theorem three_four2 (a b : UInt8) : three (four [a, b]) = [a, b] := by
  obtain ⟨h1, h2, h3, h4, h5, h6⟩ := sh_of a
  obtain ⟨i1, i2, i3, i4, i5, i6⟩ := sh_of b
  obtain ⟨e1, e2⟩ := or4_of a _ i5
  have z : (0 : UInt8).toNat < 4 := by decide
  have f1 := or6_of b 0 z
  have g1 := mid_of a b 0 z
  rw [UInt8.or_zero] at f1 g1
  have a1 := al_of _ h1
  have a2 := al_of _ e1
  have a3 := al_of _ f1
  show threeOf (Lib.trimRightB [_, _, _, 61] 61) = _
  rw [trim3 _ _ _ a3.1, threeOf, a1.2.1, a2.2.1, a3.2.1, e2, g1]
theorem three_four3 (a b c : UInt8) : three (four [a, b, c]) = [a, b, c] := by
  obtain ⟨h1, h2, h3, h4, h5, h6⟩ := sh_of a
  obtain ⟨i1, i2, i3, i4, i5, i6⟩ := sh_of b
  obtain ⟨j1, j2, j3, j4, j5, j6⟩ := sh_of c
  obtain ⟨e1, e2⟩ := or4_of a _ i5
  have f1 := or6_of b _ j6
  have a1 := al_of _ h1
  have a2 := al_of _ e1
  have a3 := al_of _ f1
  have a4 := al_of _ j2
  show threeOf (Lib.trimRightB [_, _, _, _] 61) = _
  rw [trim4 _ _ _ _ a4.1, threeOf, a1.2.1, a2.2.1, a3.2.1, a4.2.1, e2, mid_of a b _ j6, low_of]

theorem dec_four (f : List UInt8) (hf : f.length = 4) (r : List UInt8) : dec (f ++ r) = three f ++ dec r := by
  match f, hf with
  | [a, b, c, d], _ => rfl
theorem four_length (l : List UInt8) : (four l).length = 4 := by unfold four; split <;> rfl

theorem dec_enc : ∀ l : List UInt8, dec (enc l) = l
  | [] => rfl
  | [a] => by
    have := dec_four (four [a]) (four_length _) []
    rw [List.append_nil, three_four1] at this
    exact this
  | [a, b] => by
    have := dec_four (four [a, b]) (four_length _) []
    rw [List.append_nil, three_four2] at this
    exact this
  | a :: b :: c :: r => by
    rw [enc, dec_four _ (four_length _), three_four3, dec_enc r]; rfl

theorem enc_length : ∀ l : List UInt8, (enc l).length = 4 * ((l.length + 2) / 3)
  | [] => rfl
  | [a] => by rw [enc, four_length]; simp only [List.length_cons, List.length_nil]
  | [a, b] => by rw [enc, four_length]; simp only [List.length_cons, List.length_nil]
  | a :: b :: c :: r => by
    rw [enc, List.length_append, four_length, enc_length r]; simp only [List.length_cons]; omega

theorem four_no (l : List UInt8) : (10 : UInt8) ∉ four l := by
  unfold four
  split
  · rename_i a
    have h1 := al_of _ (sh_of a).1
    have h2 := al_of _ (sh_of a).2.2.1
    simp only [List.mem_cons, List.not_mem_nil, or_false, not_or]
    exact ⟨fun h => h1.2.2 h.symm, fun h => h2.2.2 h.symm, by decide, by decide⟩
  · rename_i a b
    have h1 := al_of _ (sh_of a).1
    have h2 := al_of _ (or4_of a _ (sh_of b).2.2.2.2.1).1
    have h3 := al_of _ (sh_of b).2.2.2.1
    simp only [List.mem_cons, List.not_mem_nil, or_false, not_or]
    exact ⟨fun h => h1.2.2 h.symm, fun h => h2.2.2 h.symm, fun h => h3.2.2 h.symm, by decide⟩
  · rename_i a b c
    have h1 := al_of _ (sh_of a).1
    have h2 := al_of _ (or4_of a _ (sh_of b).2.2.2.2.1).1
    have h3 := al_of _ (or6_of b _ (sh_of c).2.2.2.2.2)
    have h4 := al_of _ (sh_of c).2.1
    simp only [List.mem_cons, List.not_mem_nil, or_false, not_or]
    exact ⟨fun h => h1.2.2 h.symm, fun h => h2.2.2 h.symm, fun h => h3.2.2 h.symm, fun h => h4.2.2 h.symm⟩
  · decide
theorem enc_no : ∀ l : List UInt8, (10 : UInt8) ∉ enc l
  | [] => by simp [enc]
  | [a] => four_no _
  | [a, b] => four_no _
  | a :: b :: c :: r => by
    rw [enc, List.mem_append, not_or]
    exact ⟨four_no _, enc_no r⟩

/-- one round of the loop that writes base 64 -/
theorem enc_step (l : List UInt8) (h : l ≠ []) : enc l = four (l.take (min 3 l.length)) ++ enc (l.drop (min 3 l.length)) := by
  match l, h with
  | [a], _ => rfl
  | [a, b], _ => rfl
  | a :: b :: c :: r, _ =>
    have : min 3 (a :: b :: c :: r).length = 3 := by simp only [List.length_cons]; omega
    rw [this, enc]; rfl

theorem dec_step (l : List UInt8) (h : 4 ≤ l.length) : dec l = three (l.take 4) ++ dec (l.drop 4) := by
  have := dec_four (l.take 4) (by rw [List.length_take]; omega) (l.drop 4)
  rwa [List.take_append_drop] at this
theorem dec_short (l : List UInt8) (h : l.length < 4) : dec l = [] := by
  match l, h with
  | [], _ => rfl
  | [a], _ => rfl
  | [a, b], _ => rfl
  | [a, b, c], _ => rfl

/-- what a line of base 64 says, and whether it is one -/
def lineOf (l : List UInt8) : List UInt8 × Bool := if l = [] ∨ 64 < l.length then ([], false) else (dec l, enc (dec l) == l)

theorem lineOf_enc (b : List UInt8) (h0 : b ≠ []) (h : b.length ≤ 48) : lineOf (enc b) = (b, true) := by
  have h1 := enc_length b
  have h2 : 1 ≤ b.length := by cases b; exact absurd rfl h0; simp
  have h3 : ¬ (enc b = [] ∨ 64 < (enc b).length) := by
    rintro (h | h)
    · rw [h] at h1; simp only [List.length_nil] at h1; omega
    · omega
  unfold lineOf
  rw [if_neg h3, dec_enc]
  simp

def chunkF : Nat → List UInt8 → List (List UInt8)
  | 0, _ => []
  | n + 1, l => if l = [] then [] else l.take 48 :: chunkF n (l.drop 48)
theorem chunkF_more : ∀ (n m : Nat) (l : List UInt8), l.length ≤ n → l.length ≤ m → chunkF n l = chunkF m l
  | 0, 0, _, _, _ => rfl
  | 0, m + 1, l, h, _ => by
    have : l = [] := List.length_eq_zero_iff.1 (by omega)
    rw [this]; rfl
  | n + 1, 0, l, _, h => by
    have : l = [] := List.length_eq_zero_iff.1 (by omega)
    rw [this]; rfl
  | n + 1, m + 1, l, hn, hm => by
    rw [chunkF, chunkF]
    by_cases h : l = []
    · rw [if_pos h, if_pos h]
    · have hl : l.length ≠ 0 := fun e => h (List.length_eq_zero_iff.1 e)
      rw [if_neg h, if_neg h, chunkF_more n m (l.drop 48) (by rw [List.length_drop]; omega) (by rw [List.length_drop]; omega)]
def chunk (l : List UInt8) : List (List UInt8) := chunkF l.length l
theorem chunk_nil : chunk [] = [] := rfl
theorem chunk_cons (l : List UInt8) (h : l ≠ []) : chunk l = l.take 48 :: chunk (l.drop 48) := by
  have hl : l.length ≠ 0 := fun e => h (List.length_eq_zero_iff.1 e)
  show chunkF l.length l = l.take 48 :: chunkF (l.drop 48).length (l.drop 48)
  rw [chunkF_more l.length (l.length + 1) l (Nat.le_refl _) (by omega), chunkF, if_neg h, chunkF_more l.length (l.drop 48).length (l.drop 48) (by rw [List.length_drop]; omega) (Nat.le_refl _)]

/-- lines, each with its newline -/
def unlines : List (List UInt8) → List UInt8
  | [] => []
  | l :: r => l ++ 10 :: unlines r
theorem unlines_append : ∀ a b : List (List UInt8), unlines (a ++ b) = unlines a ++ unlines b
  | [], b => rfl
  | l :: r, b => by simp [unlines, unlines_append r b]

def firstL : List UInt8 := [45, 45, 45, 45, 45, 66, 69, 71, 73, 78, 32, 77, 73, 83, 83, 73, 86, 69, 45, 45, 45, 45, 45]
def lastL : List UInt8 := [45, 45, 45, 45, 45, 69, 78, 68, 32, 77, 73, 83, 83, 73, 86, 69, 45, 45, 45, 45, 45]
def linesOf (b : List UInt8) : List (List UInt8) := firstL :: ((chunk b).map enc ++ [lastL])
/-- the text of a letter -/
def text (b : List UInt8) : List UInt8 := unlines (linesOf b)

/-- what lines say up to the one that only the last can be: the bytes, and how many lines -/
def innR : List (List UInt8) → List UInt8 × Nat
  | [] => ([], 0)
  | l :: r =>
    let (b, right) := lineOf l
    if right = false then ([], 0)
    else if b.length < 48 then (b, 1)
    else
      let (x, n) := innR r
      (b ++ x, n + 1)

/-- what is read of whole lines and of what stands behind them -/
def rd (ls : List (List UInt8)) (b : List UInt8) : List UInt8 × Nat × Bool :=
  match ls with
  | [] => ([], 0, false)
  | l :: r =>
    if l ≠ firstL then ([], 0, false)
    else
      let (x, n) := innR r
      match r[n]? with
      | none => ([], n + 1, false)
      | some z => if z ≠ lastL then ([], n + 1, false) else if n + 1 < r.length ∨ b ≠ [] then ([], n + 2, false) else (x, 0, true)

theorem lastL_right : (lineOf lastL).2 = false := by decide +kernel
theorem innR_last (r : List (List UInt8)) : innR (lastL :: r) = ([], 0) := by
  unfold innR
  have := lastL_right
  generalize lineOf lastL = x at this
  obtain ⟨b, c⟩ := x
  simp only at this
  subst this
  rfl

theorem innR_stop {l : List UInt8} (r : List (List UInt8)) (h : (lineOf l).2 = false) : innR (l :: r) = ([], 0) := by
  unfold innR
  generalize lineOf l = x at h
  obtain ⟨b, c⟩ := x
  simp only at h
  subst h
  rfl
theorem innR_short {l : List UInt8} (r : List (List UInt8)) (h : (lineOf l).2 = true) (h2 : (lineOf l).1.length < 48) : innR (l :: r) = ((lineOf l).1, 1) := by
  unfold innR
  generalize lineOf l = x at h h2
  obtain ⟨b, c⟩ := x
  simp only at h h2
  subst h
  simp [h2]
theorem innR_full {l : List UInt8} (r : List (List UInt8)) (h : (lineOf l).2 = true) (h2 : ¬ (lineOf l).1.length < 48) : innR (l :: r) = ((lineOf l).1 ++ (innR r).1, (innR r).2 + 1) := by
  rw [innR]
  generalize lineOf l = x at h h2
  obtain ⟨b, c⟩ := x
  simp only at h h2
  subst h
  simp [h2]

theorem innR_text (n : Nat) : ∀ (b : List UInt8) (r : List (List UInt8)), b.length ≤ n → innR ((chunk b).map enc ++ lastL :: r) = (b, (chunk b).length) := by
  induction n with
  | zero =>
    intro b r h
    have : b = [] := by simpa using h
    subst this
    rw [chunk_nil]; exact innR_last r
  | succ n ih =>
    intro b r h
    by_cases h0 : b = []
    · subst h0; rw [chunk_nil]; exact innR_last r
    · have h1 : 1 ≤ b.length := by cases b; exact absurd rfl h0; simp
      have h2 : b.take 48 ≠ [] := by
        intro e
        have : (b.take 48).length = 0 := by rw [e]; rfl
        rw [List.length_take] at this; omega
      have hl := lineOf_enc (b.take 48) h2 (by rw [List.length_take]; omega)
      rw [chunk_cons b h0]
      show innR (enc (b.take 48) :: _) = _
      by_cases h3 : b.length < 48
      · have e1 : b.take 48 = b := List.take_of_length_le (by omega)
        have e2 : b.drop 48 = [] := List.drop_of_length_le (by omega)
        rw [innR_short _ (by rw [hl]) (by rw [hl]; rw [List.length_take]; omega), hl, e1, e2, chunk_nil]; rfl
      · have e1 : (b.take 48).length = 48 := by rw [List.length_take]; omega
        have ih' := ih (b.drop 48) r (by rw [List.length_drop]; omega)
        rw [innR_full _ (by rw [hl]) (by rw [hl]; simp only; omega), hl]
        show (b.take 48 ++ (innR ((chunk (b.drop 48)).map enc ++ lastL :: r)).1, (innR ((chunk (b.drop 48)).map enc ++ lastL :: r)).2 + 1) = _
        rw [ih']
        simp only [List.take_append_drop, List.length_cons]

theorem rd_text (b : List UInt8) : rd (linesOf b) [] = (b, 0, true) := by
  have h1 := innR_text b.length b [] (Nat.le_refl _)
  unfold rd linesOf
  simp only [ne_eq, not_true_eq_false, if_false, h1]
  rw [List.getElem?_append_right (by simp)]
  simp
/-- a text and its whole lines -/
theorem count_unlines : ∀ (ls : List (List UInt8)) (b : List UInt8), (∀ l ∈ ls, (10 : UInt8) ∉ l) → (10 : UInt8) ∉ b → (unlines ls ++ b).count 10 = ls.length
  | [], b, _, hb => by simpa [unlines, List.count_eq_zero] using hb
  | l :: r, b, h, hb => by
    have ih := count_unlines r b (fun x hx => h x (by simp [hx])) hb
    have h0 : l.count 10 = 0 := List.count_eq_zero.2 (h l (by simp))
    rw [List.count_append] at ih
    simp only [unlines, List.append_assoc, List.cons_append, List.count_append, List.count_cons, h0, List.length_cons]
    simp only [BEq.rfl, if_true]
    omega

theorem linesOf_no (b : List UInt8) : ∀ l ∈ linesOf b, (10 : UInt8) ∉ l := by
  intro l hl
  simp only [linesOf, List.mem_cons, List.mem_append, List.mem_map, List.not_mem_nil, or_false] at hl
  rcases hl with rfl | ⟨x, _, rfl⟩ | rfl
  · decide
  · exact enc_no x
  · decide
theorem chunk_le (n : Nat) : ∀ b : List UInt8, b.length ≤ n → ∀ x ∈ chunk b, x.length ≤ 48 := by
  induction n with
  | zero =>
    intro b h x hx
    have : b = [] := by simpa using h
    subst this
    rw [chunk_nil] at hx; cases hx
  | succ n ih =>
    intro b h x hx
    by_cases h0 : b = []
    · subst h0; rw [chunk_nil] at hx; cases hx
    · have h1 : 1 ≤ b.length := by cases b; exact absurd rfl h0; simp
      rw [chunk_cons b h0, List.mem_cons] at hx
      rcases hx with rfl | hx
      · rw [List.length_take]; omega
      · exact ih (b.drop 48) (by rw [List.length_drop]; omega) x hx
theorem linesOf_short (b : List UInt8) : ∀ l ∈ linesOf b, l.length ≤ 64 := by
  intro l hl
  simp only [linesOf, List.mem_cons, List.mem_append, List.mem_map, List.not_mem_nil, or_false] at hl
  rcases hl with rfl | ⟨x, hx, rfl⟩ | rfl
  · decide
  · have := chunk_le b.length b (Nat.le_refl _) x hx
    rw [enc_length]; omega
  · decide
theorem chunk_length (n : Nat) : ∀ b : List UInt8, b.length ≤ n → (chunk b).length = (b.length + 47) / 48 := by
  induction n with
  | zero =>
    intro b h
    have : b = [] := by simpa using h
    subst this
    rw [chunk_nil]; rfl
  | succ n ih =>
    intro b h
    by_cases h0 : b = []
    · subst h0; rw [chunk_nil]; rfl
    · have h1 : 1 ≤ b.length := by cases b; exact absurd rfl h0; simp
      rw [chunk_cons b h0, List.length_cons, ih (b.drop 48) (by rw [List.length_drop]; omega), List.length_drop]; omega
theorem linesOf_length (b : List UInt8) : (linesOf b).length = 2 + (4 * ((b.length + 2) / 3) + 63) / 64 := by
  simp only [linesOf, List.length_cons, List.length_append, List.length_map, List.length_nil, chunk_length b.length b (Nat.le_refl _)]
  omega

/-- the shelf's way to part a text at newlines -/
theorem index_one (c : UInt8) (l r : List UInt8) (h : c ∉ l) : Lib.index (l ++ c :: r) [c] = (l.length : Int) := by
  induction l with
  | nil =>
    show Lib.index (c :: r) [c] = _
    rw [Lib.index]; simp [List.isPrefixOf]
  | cons x l ih =>
    have hx : x ≠ c := fun e => h (by simp [e])
    have ih' := ih (fun e => h (by simp [e]))
    show Lib.index (x :: (l ++ c :: r)) [c] = _
    have hp : ([c] : List UInt8).isPrefixOf (x :: (l ++ c :: r)) = false := by simp [List.isPrefixOf, Ne.symm hx]
    rw [Lib.index, hp, ih']
    have h2 : ((l.length : Int) == -1) = false := by simp
    rw [h2]; simp
theorem split_lines : ∀ (ls : List (List UInt8)) (b : List UInt8), (∀ l ∈ ls, (10 : UInt8) ∉ l) → Lib.splitK [10] 0 ls.length (unlines ls ++ b) = ls ++ [b]
  | [], b, _ => rfl
  | l :: r, b, h => by
    have ih := split_lines r b (fun x hx => h x (by simp [hx]))
    have e : unlines (l :: r) ++ b = l ++ 10 :: (unlines r ++ b) := by simp [unlines]
    rw [e, List.length_cons, Lib.splitK, index_one 10 l _ (h l (by simp))]
    have h2 : ((l.length : Int) == -1) = false := by simp
    rw [h2]
    simp only [Bool.false_eq_true, if_false, Int.toNat_natCast, Nat.add_zero, List.take_left', List.length_singleton]
    have e2 : (l ++ 10 :: (unlines r ++ b)).drop (l.length + 1) = unlines r ++ b := by
      rw [List.drop_append, List.drop_of_length_le (by omega)]
      have : l.length + 1 - l.length = 1 := by omega
      rw [this]; rfl
    rw [e2, ih]; rfl
theorem splitB_lines (s : ByteArray) (ls : List (List UInt8)) (b : List UInt8) (hs : s.data.toList = unlines ls ++ b) (h : ∀ l ∈ ls, (10 : UInt8) ∉ l) (hb : (10 : UInt8) ∉ b) :
    Lib.countB s ⟨#[10]⟩ = ls.length ∧ Lib.splitB ⟨#[10]⟩ 0 (Lib.countB s ⟨#[10]⟩) s = (ls ++ [b]).map fun l => (⟨l.toArray⟩ : ByteArray) := by
  have e1 : Lib.countB s ⟨#[10]⟩ = ls.length := by
    have : Lib.countB s ⟨#[10]⟩ = Lib.count s.data.toList [10] := rfl
    rw [this, hs, Lib.count_one, count_unlines ls b h hb]
  refine ⟨e1, ?_⟩
  rw [e1]
  have e2 := Lib.splitB_data ⟨#[10]⟩ 0 ls.length s
  have e3 : (⟨#[10]⟩ : ByteArray).data.toList = [10] := rfl
  rw [hs, e3, split_lines ls b h] at e2
  have e4 : ((Lib.splitB ⟨#[10]⟩ 0 ls.length s).map (·.data.toList)).map (fun l => (⟨l.toArray⟩ : ByteArray)) = Lib.splitB ⟨#[10]⟩ 0 ls.length s := by
    rw [List.map_map]
    conv => rhs; rw [← List.map_id (Lib.splitB ⟨#[10]⟩ 0 ls.length s)]
    apply List.map_congr_left
    intro x _
    rfl
  rw [← e4, e2]

end Go.Proofs.YtclpbaokadfhhaaGreatDoor.Tx

namespace Go.Proofs.YtclpbaokadfhhaaGreatDoor
open Go.RowKit

/-- a byte as the number that a slot holds -/
def Y (x : UInt8) : Int := x.toNat
theorem Y_lo (x : UInt8) : 0 ≤ Y x := by unfold Y; omega
theorem and8 (x y : UInt8) : bits BinOp.and IntKind.u8 (Y x) (Y y) = Y (x &&& y) := by
  show IntKind.u8.wrap ((BitVec.ofInt 8 (x.toNat : Int) &&& BitVec.ofInt 8 (y.toNat : Int)).toNat : Int) = _
  unfold Y
  rw [BitVec.ofInt_natCast, BitVec.ofInt_natCast, BitVec.toNat_and, UInt8.toNat_and]
  have h1 := x.toNat_lt
  have h2 := y.toNat_lt
  have h3 := (x &&& y).toNat_lt
  rw [UInt8.toNat_and] at h3
  simp only [BitVec.toNat_ofNat]
  rw [Nat.mod_eq_of_lt (by omega), Nat.mod_eq_of_lt (by omega), IntKind.wrap_u8]
  omega
theorem or8 (x y : UInt8) : bits BinOp.or IntKind.u8 (Y x) (Y y) = Y (x ||| y) := by
  show IntKind.u8.wrap ((BitVec.ofInt 8 (x.toNat : Int) ||| BitVec.ofInt 8 (y.toNat : Int)).toNat : Int) = _
  unfold Y
  rw [BitVec.ofInt_natCast, BitVec.ofInt_natCast, BitVec.toNat_or, UInt8.toNat_or]
  have h1 := x.toNat_lt
  have h2 := y.toNat_lt
  have h3 := (x ||| y).toNat_lt
  rw [UInt8.toNat_or] at h3
  simp only [BitVec.toNat_ofNat]
  rw [Nat.mod_eq_of_lt (by omega), Nat.mod_eq_of_lt (by omega), IntKind.wrap_u8]
  omega
theorem shl8 : ∀ i : Fin 256, (∀ k : Fin 8, (i.val.toUInt8 <<< k.val.toUInt8).toNat = i.val * 2 ^ k.val % 256) := by decide +kernel
theorem shr8 : ∀ i : Fin 256, (∀ k : Fin 8, (i.val.toUInt8 >>> k.val.toUInt8).toNat = i.val / 2 ^ k.val) := by decide +kernel
theorem Y_shl (x : UInt8) (k : Fin 8) : Y x * ((2 ^ k.val : Nat) : Int) % 256 = Y (x <<< k.val.toUInt8) := by
  have := shl8 ⟨x.toNat, x.toNat_lt⟩ k
  unfold Y
  simp only [Nat.toUInt8_eq, UInt8.ofNat_toNat] at this ⊢
  rw [this]
  omega
theorem Y_shr (x : UInt8) (k : Fin 8) : Y x / ((2 ^ k.val : Nat) : Int) = Y (x >>> k.val.toUInt8) := by
  have := shr8 ⟨x.toNat, x.toNat_lt⟩ k
  unfold Y
  simp only [Nat.toUInt8_eq, UInt8.ofNat_toNat] at this ⊢
  rw [this]
  omega
abbrev alphaB : ByteArray := ⟨#[65, 66, 67, 68, 69, 70, 71, 72, 73, 74, 75, 76, 77, 78, 79, 80, 81, 82, 83, 84, 85, 86, 87, 88, 89, 90, 97, 98, 99, 100, 101, 102, 103, 104, 105, 106, 107, 108, 109, 110, 111, 112, 113, 114, 115, 116, 117, 118, 119, 120, 121, 122, 48, 49, 50, 51, 52, 53, 54, 55, 56, 57, 43, 47]⟩
theorem letter (z : UInt8) (h : z.toNat < 64) (w : World) : (Instr.index 9 (.string alphaB) (.int .u8 (Y z))).run Tryz.prog w = .ok (.int .u8 ((Tx.al z).toNat : Int)) w := by
  have e : ∀ i : Fin 64, alphaB.data.toList.getD i.val 0 = Tx.al i.val.toUInt8 := by decide +kernel
  have e1 := e ⟨z.toNat, h⟩
  have ez : z.toNat.toUInt8 = z := by simp
  rw [ez] at e1
  have hb : z.toNat < alphaB.size := h
  have h0 : (0 : Int) ≤ Y z := Y_lo z
  have h1 : Y z < (alphaB.size : Int) := by unfold Y; exact Int.ofNat_lt.2 hb
  have hy : (Y z).toNat = z.toNat := rfl
  rw [run_index_string (h := Tryz.underlying9), dif_pos ⟨h0, h1⟩]
  have e3 : alphaB[z.toNat] = Tx.al z := by
    rw [← e1]
    show alphaB.data[z.toNat] = _
    rw [List.getD_eq_getElem?_getD, List.getElem?_eq_getElem (show z.toNat < alphaB.data.toList.length from hb)]
    rfl
  have e4 : alphaB[(Y z).toNat]'(by rw [hy]; exact hb) = Tx.al z := e3
  rw [e4]

set_option maxRecDepth 100000 in
set_option maxHeartbeats 1000000 in
theorem fourOf1 (a : UInt8) (w : World) :
    Calls Tryz.prog 136 #[.string ⟨#[a]⟩] w fun e w' => e = .returned (.string ⟨(Tx.four [a]).toArray⟩) ∧ Below w.heap.size w w' := by
  have j0 : (((⟨#[a]⟩ : ByteArray)[0]'(by show 0 < 1; omega)).toNat : Int) = Y a := rfl
  have k0 : bits BinOp.and IntKind.u8 (Y a) 3 = Y (a &&& 3) := and8 a 3
  have m0 : IntKind.u8.wrap (Y (a &&& 3) * 16) = Y ((a &&& 3) <<< 4) := (IntKind.wrap_u8 _).trans (Y_shl (a &&& 3) 4)
  have o0 : bits BinOp.or IntKind.u8 (Y ((a &&& 3) <<< 4)) (0) = Y ((a &&& 3) <<< 4) := by rw [show (0 : Int) = Y 0 from rfl, or8, UInt8.or_zero]
  have x0 := letter ((a &&& 3) <<< 4) (Tx.sh_of a).2.2.1
  have s0 : Y a / (4 : Int) = Y (a >>> 2) := Y_shr a 2
  have y0 := letter (a >>> 2) (Tx.sh_of a).1
  rw [← s0] at y0
  have hs : (convert 55 9 (.slice (some ⟨w.heap.size, 0, none⟩) 4 4)).run Tryz.prog (w.alloc (.cells #[.int .u8 ((Tx.al (a >>> 2)).toNat : Int), .int .u8 ((Tx.al ((a &&& 3) <<< 4)).toNat : Int), .int .u8 61, .int .u8 61] 126)) = .ok (.string ⟨#[Tx.al (a >>> 2), Tx.al ((a &&& 3) <<< 4), 61, 61]⟩) (w.alloc (.cells #[.int .u8 ((Tx.al (a >>> 2)).toNat : Int), .int .u8 ((Tx.al ((a &&& 3) <<< 4)).toNat : Int), .int .u8 61, .int .u8 61] 126)) :=
    stringOf (Blk.new w (Bs [Tx.al (a >>> 2), Tx.al ((a &&& 3) <<< 4), 61, 61]) 126) 4 rfl
  clear s0
  go_enter Tryz.func136, Tryz.ntmps136
  go_wp2
  go_ret
  exact ⟨rfl, (Below.refl _ _).alloc (Nat.le_refl _) _⟩

set_option maxRecDepth 100000 in
set_option maxHeartbeats 1000000 in
theorem fourOf2 (a b : UInt8) (w : World) :
    Calls Tryz.prog 136 #[.string ⟨#[a, b]⟩] w fun e w' => e = .returned (.string ⟨(Tx.four [a, b]).toArray⟩) ∧ Below w.heap.size w w' := by
  have j0 : (((⟨#[a, b]⟩ : ByteArray)[0]'(by show 0 < 2; omega)).toNat : Int) = Y a := rfl
  have j1 : (((⟨#[a, b]⟩ : ByteArray)[1]'(by show 1 < 2; omega)).toNat : Int) = Y b := rfl
  have k1 : bits BinOp.and IntKind.u8 (Y b) 15 = Y (b &&& 15) := and8 b 15
  have m1 : IntKind.u8.wrap (Y (b &&& 15) * 4) = Y ((b &&& 15) <<< 2) := (IntKind.wrap_u8 _).trans (Y_shl (b &&& 15) 2)
  have o1 : bits BinOp.or IntKind.u8 (Y ((b &&& 15) <<< 2)) (0) = Y ((b &&& 15) <<< 2) := by rw [show (0 : Int) = Y 0 from rfl, or8, UInt8.or_zero]
  have x1 := letter ((b &&& 15) <<< 2) ((Tx.sh_of b).2.2.2.1)
  have s1 : Y b / (16 : Int) = Y (b >>> 4) := Y_shr b 4
  have k0 : bits BinOp.and IntKind.u8 (Y a) 3 = Y (a &&& 3) := and8 a 3
  have m0 : IntKind.u8.wrap (Y (a &&& 3) * 16) = Y ((a &&& 3) <<< 4) := (IntKind.wrap_u8 _).trans (Y_shl (a &&& 3) 4)
  have o0 : bits BinOp.or IntKind.u8 (Y ((a &&& 3) <<< 4)) (Y b / (16 : Int)) = Y ((a &&& 3) <<< 4 ||| b >>> 4) := by rw [s1]; exact or8 _ _
  have x0 := letter ((a &&& 3) <<< 4 ||| b >>> 4) (Tx.or4_of a _ (Tx.sh_of b).2.2.2.2.1).1
  have s0 : Y a / (4 : Int) = Y (a >>> 2) := Y_shr a 2
  have y0 := letter (a >>> 2) (Tx.sh_of a).1
  rw [← s0] at y0
  have hs : (convert 55 9 (.slice (some ⟨w.heap.size, 0, none⟩) 4 4)).run Tryz.prog (w.alloc (.cells #[.int .u8 ((Tx.al (a >>> 2)).toNat : Int), .int .u8 ((Tx.al ((a &&& 3) <<< 4 ||| b >>> 4)).toNat : Int), .int .u8 ((Tx.al ((b &&& 15) <<< 2)).toNat : Int), .int .u8 61] 126)) = .ok (.string ⟨#[Tx.al (a >>> 2), Tx.al ((a &&& 3) <<< 4 ||| b >>> 4), Tx.al ((b &&& 15) <<< 2), 61]⟩) (w.alloc (.cells #[.int .u8 ((Tx.al (a >>> 2)).toNat : Int), .int .u8 ((Tx.al ((a &&& 3) <<< 4 ||| b >>> 4)).toNat : Int), .int .u8 ((Tx.al ((b &&& 15) <<< 2)).toNat : Int), .int .u8 61] 126)) :=
    stringOf (Blk.new w (Bs [Tx.al (a >>> 2), Tx.al ((a &&& 3) <<< 4 ||| b >>> 4), Tx.al ((b &&& 15) <<< 2), 61]) 126) 4 rfl
  clear s0 s1
  go_enter Tryz.func136, Tryz.ntmps136
  go_wp2
  go_ret
  exact ⟨rfl, (Below.refl _ _).alloc (Nat.le_refl _) _⟩

set_option maxRecDepth 100000 in
set_option maxHeartbeats 1000000 in
theorem fourOf3 (a b c : UInt8) (w : World) :
    Calls Tryz.prog 136 #[.string ⟨#[a, b, c]⟩] w fun e w' => e = .returned (.string ⟨(Tx.four [a, b, c]).toArray⟩) ∧ Below w.heap.size w w' := by
  have j0 : (((⟨#[a, b, c]⟩ : ByteArray)[0]'(by show 0 < 3; omega)).toNat : Int) = Y a := rfl
  have j1 : (((⟨#[a, b, c]⟩ : ByteArray)[1]'(by show 1 < 3; omega)).toNat : Int) = Y b := rfl
  have j2 : (((⟨#[a, b, c]⟩ : ByteArray)[2]'(by show 2 < 3; omega)).toNat : Int) = Y c := rfl
  have k2 : bits BinOp.and IntKind.u8 (Y c) 63 = Y (c &&& 63) := and8 c 63
  have x2 := letter (c &&& 63) (Tx.sh_of c).2.1
  have s2 : Y c / (64 : Int) = Y (c >>> 6) := Y_shr c 6
  have k1 : bits BinOp.and IntKind.u8 (Y b) 15 = Y (b &&& 15) := and8 b 15
  have m1 : IntKind.u8.wrap (Y (b &&& 15) * 4) = Y ((b &&& 15) <<< 2) := (IntKind.wrap_u8 _).trans (Y_shl (b &&& 15) 2)
  have o1 : bits BinOp.or IntKind.u8 (Y ((b &&& 15) <<< 2)) (Y c / (64 : Int)) = Y ((b &&& 15) <<< 2 ||| c >>> 6) := by rw [s2]; exact or8 _ _
  have x1 := letter ((b &&& 15) <<< 2 ||| c >>> 6) (Tx.or6_of b _ (Tx.sh_of c).2.2.2.2.2)
  have s1 : Y b / (16 : Int) = Y (b >>> 4) := Y_shr b 4
  have k0 : bits BinOp.and IntKind.u8 (Y a) 3 = Y (a &&& 3) := and8 a 3
  have m0 : IntKind.u8.wrap (Y (a &&& 3) * 16) = Y ((a &&& 3) <<< 4) := (IntKind.wrap_u8 _).trans (Y_shl (a &&& 3) 4)
  have o0 : bits BinOp.or IntKind.u8 (Y ((a &&& 3) <<< 4)) (Y b / (16 : Int)) = Y ((a &&& 3) <<< 4 ||| b >>> 4) := by rw [s1]; exact or8 _ _
  have x0 := letter ((a &&& 3) <<< 4 ||| b >>> 4) (Tx.or4_of a _ (Tx.sh_of b).2.2.2.2.1).1
  have s0 : Y a / (4 : Int) = Y (a >>> 2) := Y_shr a 2
  have y0 := letter (a >>> 2) (Tx.sh_of a).1
  rw [← s0] at y0
  have hs : (convert 55 9 (.slice (some ⟨w.heap.size, 0, none⟩) 4 4)).run Tryz.prog (w.alloc (.cells #[.int .u8 ((Tx.al (a >>> 2)).toNat : Int), .int .u8 ((Tx.al ((a &&& 3) <<< 4 ||| b >>> 4)).toNat : Int), .int .u8 ((Tx.al ((b &&& 15) <<< 2 ||| c >>> 6)).toNat : Int), .int .u8 ((Tx.al (c &&& 63)).toNat : Int)] 126)) = .ok (.string ⟨#[Tx.al (a >>> 2), Tx.al ((a &&& 3) <<< 4 ||| b >>> 4), Tx.al ((b &&& 15) <<< 2 ||| c >>> 6), Tx.al (c &&& 63)]⟩) (w.alloc (.cells #[.int .u8 ((Tx.al (a >>> 2)).toNat : Int), .int .u8 ((Tx.al ((a &&& 3) <<< 4 ||| b >>> 4)).toNat : Int), .int .u8 ((Tx.al ((b &&& 15) <<< 2 ||| c >>> 6)).toNat : Int), .int .u8 ((Tx.al (c &&& 63)).toNat : Int)] 126)) :=
    stringOf (Blk.new w (Bs [Tx.al (a >>> 2), Tx.al ((a &&& 3) <<< 4 ||| b >>> 4), Tx.al ((b &&& 15) <<< 2 ||| c >>> 6), Tx.al (c &&& 63)]) 126) 4 rfl
  clear s0 s1 s2
  go_enter Tryz.func136, Tryz.ntmps136
  go_wp2
  go_ret
  exact ⟨rfl, (Below.refl _ _).alloc (Nat.le_refl _) _⟩

/-- fourOf of one, two or three bytes -/
theorem fourOf_any (s : ByteArray) (w : World) (h1 : 1 ≤ s.size) (h3 : s.size ≤ 3) :
    Calls Tryz.prog 136 #[.string s] w fun e w' => e = .returned (.string ⟨(Tx.four s.data.toList).toArray⟩) ∧ Below w.heap.size w w' := by
  obtain ⟨⟨l⟩⟩ := s
  have hl : (ByteArray.mk ⟨l⟩).size = l.length := rfl
  rw [hl] at h1 h3
  match l, h1, h3 with
  | [a], _, _ => exact fourOf1 a w
  | [a, b], _, _ => exact fourOf2 a b w
  | [a, b, c], _, _ => exact fourOf3 a b c w
  | a :: b :: c :: d :: r, _, h3 => simp only [List.length_cons] at h3; omega

end Go.Proofs.YtclpbaokadfhhaaGreatDoor

namespace Go.Proofs.YtclpbaokadfhhaaGreatDoor
open Go.RowKit

def strOf : Value → ByteArray | .string s => s | _ => ⟨#[]⟩
theorem data_extract0 (s : ByteArray) (n : Nat) : (s.extract 0 n).data.toList = s.data.toList.take n := Lib.extract_from_zero s n
theorem data_extract (s : ByteArray) (n m : Nat) (h : m = s.size) : (s.extract n m).data.toList = s.data.toList.drop n := by
  subst h; rw [Lib.extract_to_end]
theorem size_list (s : ByteArray) : s.data.toList.length = s.size := by simp

theorem emp_true {r : ByteArray} (h : r.size = 0) : r.toList.isEmpty = true := by
  rw [ByteArray.toList_eq, List.isEmpty_iff]
  exact List.eq_nil_of_length_eq_zero (by rw [size_list]; exact h)
theorem emp_false {r : ByteArray} (h : 1 ≤ r.size) : r.toList.isEmpty = false := by
  rw [ByteArray.toList_eq]
  have := size_list r
  cases hl : r.data.toList with
  | nil => rw [hl] at this; simp at this; omega
  | cons x y => rfl

set_option maxRecDepth 100000 in
set_option maxHeartbeats 1000000 in
theorem lettersOf_any (s : ByteArray) (w : World) (hs : s.size ≤ 1000000) :
    Calls Tryz.prog 70 #[.string s] w fun e w' => e = .returned (.string ⟨(Tx.enc s.data.toList).toArray⟩) ∧ Below w.heap.size w w' := by
  have hb0 := bd_new w
  have hbel0 : Below w.heap.size w (w.alloc (.cells #[.pointer none, .slice none 0 0] 90)) := (Below.refl _ _).alloc (Nat.le_refl _) _
  go_enter Tryz.func70, Tryz.ntmps70
  go_wp2
  go_loopw [0] (fun v wr => ∃ (r : ByteArray) (l : List UInt8), v = .string r ∧ r.size ≤ s.size ∧ l.length + 4 * r.size ≤ 4 * s.size ∧ l ++ Tx.enc r.data.toList = Tx.enc s.data.toList ∧ Bld w.heap.size w.heap.size l wr ∧ Below w.heap.size w wr) (fun v _ => (strOf v).size)
  case atStart => exact ⟨s, [], rfl, Nat.le_refl _, by simp, rfl, hb0, hbel0⟩
  case round =>
    clear hb0 hbel0
    obtain ⟨r, l, rfl, hr, hl, he, hb, hbel⟩ := hrel
    have hsz : wr.heap.size ≥ w.heap.size := hbel.size
    by_cases h0 : r.size = 0
    · have hemp := emp_true h0
      have e0 : r.data.toList = [] := List.eq_nil_of_length_eq_zero (by rw [size_list]; exact h0)
      have e1 : l = Tx.enc s.data.toList := by rw [← he, e0]; simp [Tx.enc]
      rw [e1] at hb
      go_wp2_with (go_at_call 71; refine (bd_string w.heap.size w.heap.size _ _ hb hsz).mono ?_)
      rintro e w' ⟨rfl, hb', hbel'⟩
      go_wp2
      go_ret
      exact ⟨rfl, hbel.trans hbel'⟩
    · have h1 : 1 ≤ r.size := by omega
      have hemp := emp_false h1
      have e0 : r.data.toList ≠ [] := fun e => by have := size_list r; rw [e] at this; simp at this; omega
      obtain ⟨n, hnm⟩ : ∃ n : Nat, n = min 3 r.size := ⟨_, rfl⟩
      have hst := Tx.enc_step r.data.toList e0
      rw [size_list, ← hnm] at hst
      have hx1 : (r.extract 0 n).size = n := by rw [ByteArray.size_extract]; omega
      have hx2 : (r.extract n r.size).size = r.size - n := by rw [ByteArray.size_extract]; omega
      have hmi : min 3 (r.size : Int) = (n : Int) := by omega
      have hn0 : (0 : Int) ≤ (n : Int) := by omega
      have hn9 : (n : Int) ≤ (r.size : Int) := by omega
      have hn8 : n ≤ r.size := by omega
      have hn7 : 1 ≤ n ∧ n ≤ 3 := by omega
      have hn7 : Hid (1 ≤ n ∧ n ≤ 3) := hn7
      clear hnm
      go_wp2_with fail
      refine (fourOf_any (r.extract 0 n) wr (by have := hn7.out; omega) (by have := hn7.out; omega)).mono ?_
      rintro e w1 ⟨rfl, hb1⟩
      rw [data_extract0]
      have hk1 := hb.keep hb1
      have hs1 : w.heap.size ≤ w1.heap.size := by have := hb1.size; omega
      have h4 : (⟨(Tx.four (r.data.toList.take n)).toArray⟩ : ByteArray).size = 4 := Tx.four_length _
      go_wp2_with fail
      refine (bd_write w.heap.size w.heap.size l ⟨(Tx.four (r.data.toList.take n)).toArray⟩ w1 hk1 (by rw [h4]; omega) hs1).mono ?_
      rintro e w2 ⟨rfl, hk2, hb2⟩
      go_wp2
      go_roundw
      case rel =>
        have hn7 := hn7.out
        refine ⟨r.extract n r.size, _, rfl, by omega, ?_, ?_, hk2, ?_⟩
        · rw [List.length_append, hx2]
          show l.length + (Tx.four (r.data.toList.take n)).length + _ ≤ _
          rw [Tx.four_length]; omega
        · rw [data_extract _ _ _ rfl, ← he, hst, List.append_assoc]
        · exact (hbel.trans (hb1.mono (by omega))).trans hb2
      case measure =>
        show (r.extract n r.size).size < r.size
        have := hn7.out
        omega

end Go.Proofs.YtclpbaokadfhhaaGreatDoor
