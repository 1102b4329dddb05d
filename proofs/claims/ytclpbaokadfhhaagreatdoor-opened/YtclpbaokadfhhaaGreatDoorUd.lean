/- Several texts as one: But, Ow2. -/
import Derived.Test.YtclpbaokadfhhaaGreatDoorZa
import Derived.Test.YtclpbaokadfhhaaGreatDoorXl
import Derived.Deep.AppendSrc
import Derived.Lib.AppendZeros
namespace Go.Proofs.YtclpbaokadfhhaaGreatDoor
open Go.RowKit

/-- w' is w but for block q, and for what is new -/
structure But (q : Nat) (w w' : World) : Prop where
  below : Below q w w'
  other : ∀ b, b < w.heap.size → b ≠ q → w'.heap[b]? = w.heap[b]?
theorem But.refl (q : Nat) (w : World) : But q w w := ⟨Below.refl _ _, fun _ _ _ => rfl⟩
theorem But.trans {q : Nat} {a b c : World} (h : But q a b) (k : But q b c) : But q a c :=
  ⟨h.below.trans k.below, fun i hi hq => (k.other i (Nat.lt_of_lt_of_le hi h.below.size) hq).trans (h.other i hi hq)⟩
theorem But.of {q : Nat} {w w' : World} (h : Below w.heap.size w w') (hq : q ≤ w.heap.size) : But q w w' := ⟨h.mono hq, fun b hb _ => h.block b hb⟩
theorem But.keep {q : Nat} {a b c : World} (h : But q a b) (k : Below b.heap.size b c) (hq : q ≤ b.heap.size) : But q a c := h.trans (But.of k hq)
theorem But.drew {q : Nat} {a w : World} (h : But q a w) : But q a w.drew := ⟨h.below.drew, h.other⟩
theorem But.alloc {q : Nat} {a w : World} (h : But q a w) (hq : q ≤ w.heap.size) (o : Obj) : But q a (w.alloc o) := h.keep ((Below.refl _ _).alloc (Nat.le_refl _) o) hq
theorem But.set {q : Nat} {a w : World} (h : But q a w) (i : Nat) (v : Value) : But q a (w.setCell ⟨q, i, none⟩ v) :=
  h.trans ⟨(Below.refl _ _).setCell (p := ⟨q, i, none⟩) (Nat.le_refl _) v, fun b _ hne => Below.heap_setCell w _ v b hne⟩
theorem But.blk {q b t : Nat} {w w' : World} {cs : Array Value} (h : But q w w') (hb : Blk w b cs t) (hne : b ≠ q) : Blk w' b cs t := by
  unfold Blk at hb ⊢
  rw [h.other b (Array.getElem?_eq_some_iff.1 hb).1 hne]; exact hb
theorem Blk.setAt {w : World} {b t : Nat} {cs cs' : Array Value} (h : Blk w b cs t) (i : Nat) (v : Value) (e : cs.setIfInBounds i v = cs') : Blk (w.setCell ⟨b, i, none⟩ v) b cs' t := by
  rw [h.set i v, e]; exact h.row _
end Go.Proofs.YtclpbaokadfhhaaGreatDoor

namespace Go.Proofs.YtclpbaokadfhhaaGreatDoor
open Go.RowKit
theorem Tryz.infoStrA : (Tryz.prog.info? 9).map (fun i => (i.zero, i.size, i.bytes)) = some (some (.string ⟨#[]⟩), 1, 16) := by kernel_rfl
theorem Ss_get (l : List ByteArray) (i : Nat) : (Ss l)[i]? = l[i]?.map Value.string := by simp [Ss]
namespace Le
def nth (R : List ByteArray) (k : Nat) : ByteArray := R.getD k ⟨#[]⟩
end Le
/-- texts in a row of memory, from its beginning on -/
def SR (w : World) (b : Nat) (R : List ByteArray) : Prop := b < w.heap.size ∧ ∀ k, k < R.length → w.cell? ⟨b, k, none⟩ = some (.string (Le.nth R k))
theorem SR.keep {w w' : World} {b : Nat} {R : List ByteArray} (h : SR w b R) (k : Below w.heap.size w w') : SR w' b R := ⟨Nat.lt_of_lt_of_le h.1 k.size, fun i hi => (k.cell (p := ⟨b, i, none⟩) h.1).trans (h.2 i hi)⟩
theorem SR.alloc {w : World} {b : Nat} {R : List ByteArray} (h : SR w b R) (o : Obj) : SR (w.alloc o) b R := h.keep ((Below.refl _ _).alloc (Nat.le_refl _) o)
theorem SR.drewN {w : World} {b : Nat} {R : List ByteArray} (h : SR w b R) (n : Nat) : SR (w.drewN n) b R := h.keep (below_drewN (Below.refl _ _) n)
/-- the slice value v has the texts l, in the row g -/
def OwnG (w : World) (g : Nat) (v : Value) (l : List ByteArray) : Prop :=
  ∃ (cap : Nat) (cur : Array Value) (fz : Nat × Nat), v = .slice (some ⟨g, 0, none⟩) l.length cap ∧ w.heap[g]? = some (.cells cur 9 fz) ∧ (fz = (0, 0) ∨ cur.size ≤ fz.1) ∧ cur.size = cap ∧ l.length ≤ cap ∧ cur.toList.take l.length = (Ss l).toList
theorem OwnG.lt {w : World} {g : Nat} {v : Value} {l : List ByteArray} (h : OwnG w g v l) : g < w.heap.size := by
  obtain ⟨cap, cur, fz, _, hh, _⟩ := h
  exact (Array.getElem?_eq_some_iff.1 hh).1
theorem OwnG.sr {w : World} {g : Nat} {v : Value} {l : List ByteArray} (h : OwnG w g v l) : SR w g l := by
  have hlt := h.lt
  obtain ⟨cap, cur, fz, _, hh, _, hcap, hlc, ht⟩ := h
  refine ⟨hlt, fun k hk => ?_⟩
  have h2 : (cur.toList.take l.length)[k]? = (Ss l).toList[k]? := by rw [ht]
  rw [List.getElem?_take_of_lt hk] at h2
  rw [cell_of_row w g k cur _ fz hh, ← Array.getElem?_toList, h2]
  unfold Le.nth
  rw [List.getD_eq_getElem?_getD, List.getElem?_eq_getElem hk]
  simp [Ss, hk]
theorem OwnG.keep {w w' : World} {g : Nat} {v : Value} {l : List ByteArray} (h : OwnG w g v l) (k : w'.heap[g]? = w.heap[g]?) : OwnG w' g v l := by
  obtain ⟨cap, cur, fz, h1, hh, h2⟩ := h
  exact ⟨cap, cur, fz, h1, by rw [k, hh], h2⟩
/-- append(l, x) -/
theorem append_str {w : World} {g : Nat} {v : Value} {l : List ByteArray} (h : OwnG w g v l) (x : ByteArray) (g1 : Nat) (hx : w.cell? ⟨g1, 0, none⟩ = some (.string x)) (hl : l.length < 1000000000) :
    ∃ v' w' g', (Builtin.append_ #[25, 25] 25 #[v, .slice (some ⟨g1, 0, none⟩) 1 1]).run Tryz.prog w = .ok v' w' ∧ OwnG w' g' v' (l ++ [x]) ∧ (g' = g ∨ g' = w.heap.size) ∧ But g w w' := by
  have hlt0 := h.lt
  obtain ⟨i, hi, hzz⟩ := Option.map_eq_some_iff.1 Tryz.infoStrA
  simp only [Prod.mk.injEq] at hzz
  obtain ⟨hz, hs, hby⟩ := hzz
  obtain ⟨cap, cur, fz, rfl, hh, hfz, hcap, hlc, ht⟩ := h
  have hone : ∀ u ∈ [Value.string x], u.oneCell' = true := by intro u hu; simp at hu; subst hu; rfl
  have hsrc : Src Tryz.prog i.size 25 (.slice (some ⟨g1, 0, none⟩) 1 1) 1 [Value.string x] w := by
    rw [hs]
    refine Src.ofSlice w Tryz.underlying25 _ 1 1 _ rfl ?_ hone
    intro j u hu
    match j, hu with
    | 0, hu => simp at hu; subst hu; simpa [Addr.add] using hx
  by_cases hroom : l.length + 1 ≤ cap
  · have hc : w.cell? ⟨g, l.length, none⟩ = cur[l.length]? := cell_of_row w g _ cur _ fz hh
    have hlt : l.length < cur.size := by omega
    have hf : w.frozen? ⟨g, l.length, none⟩ = false := by
      simp only [World.frozen?, hh]
      rcases hfz with rfl | hfz
      · simp
      · simp; omega
    have hr := run_append_room_src (P := Tryz.prog) w 25 25 25 9 i Tryz.underlying25 hi g 0 l.length cap _ 1 _ hsrc hroom
      (by intro j hj; match j, hj with | 0, _ => rw [hs]; simp [hc, hlt])
      (by intro j hj; match j, hj with | 0, _ => rw [hs]; simpa using hf)
    refine ⟨_, _, g, hr, ?_, Or.inl rfl, ?_⟩
    · rw [hs]
      have he : w.setCells g (0 + l.length * 1) [Value.string x] = w.setRow g (cur.setIfInBounds l.length (.string x)) := by
        simp only [World.setCells, Nat.zero_add, Nat.mul_one]
        exact setCell_eq_setRow w g _ cur _ fz _ hh
      rw [he]
      refine ⟨cap, _, fz, by simp, setRow_heap w g cur _ _ fz hh, by simpa using hfz, by simp [hcap], by simp; omega, ?_⟩
      apply List.ext_getElem?
      intro j
      rw [List.length_append, List.length_singleton, List.getElem?_take]
      by_cases hj : j < l.length + 1
      · rw [if_pos hj]
        by_cases hj2 : j = l.length
        · subst hj2; simp [Ss, hlt]
        · have hj3 : j < l.length := by omega
          have h2 : (cur.toList.take l.length)[j]? = (Ss l)[j]? := by rw [ht]; simp
          rw [List.getElem?_take_of_lt hj3] at h2
          have h3 : (Ss (l ++ [x]))[j]? = (Ss l)[j]? := by rw [Ss_get, Ss_get, List.getElem?_append_left hj3]
          simp only [Array.toList_setIfInBounds, List.getElem?_set]
          rw [if_neg (by omega)]
          rw [show (Ss (l ++ [x])).toList[j]? = (Ss (l ++ [x]))[j]? by simp, h3, ← h2]
      · rw [if_neg hj]
        simp [Ss]; omega
    · rw [hs]
      simp only [World.setCells, Nat.zero_add, Nat.mul_one]
      exact (But.refl _ _).set _ _
  · have hold : (Builtin.firstCells i.size l.length (.slice (some ⟨g, 0, none⟩) l.length cap)).run Tryz.prog w.drew = .ok (Ss l).toList.toArray w.drew := by
      rw [hs]
      refine run_firstCells_some w.drew 1 l.length _ l.length cap _ (by simp [Ss]) ?_
      intro j u hu
      have hj : j < l.length := by
        have := (List.getElem?_eq_some_iff.1 hu).1
        simpa [Ss] using this
      have hadd : (⟨g, 0, none⟩ : Addr).add j = ⟨g, j, none⟩ := by unfold Addr.add; split <;> simp_all
      rw [hadd]
      have h2 : (cur.toList.take l.length)[j]? = (Ss l).toList[j]? := by rw [ht]
      rw [List.getElem?_take_of_lt hj, hu] at h2
      show w.cell? _ = _
      rw [cell_of_row w g j cur _ fz hh]
      simpa using h2
    have hr := run_append_grow_src (P := Tryz.prog) w 25 25 25 9 i _ Tryz.underlying25 hi hz (some ⟨g, 0, none⟩) l.length cap (Ss l).toList hold _ 1 _ hsrc (by omega) (by omega)
      (by rw [hby]; exact growslice_fits (by omega) (by omega))
    refine ⟨_, _, w.heap.size, hr, ?_, Or.inr rfl, (But.refl _ _).drew.alloc (Nat.le_of_lt hlt0) _⟩
    have hge := grownCap_ge w (l.length + 1) cap 9
    refine ⟨grownCap w (l.length + 1) cap 9, _, (0, 0), by simp, heap_alloc_new w.drew _, .inl rfl, ?_, by simpa using hge, ?_⟩
    · simp [Ss, Builtin.zeroCells, Value.cells]; omega
    · have e1 : (l ++ [x]).length = l.length + 1 := by simp
      have e2 : ((Ss l).toList ++ [Value.string x]).length = l.length + 1 := by simp [Ss]
      rw [e1, Array.toList_append, List.take_append_of_le_length (Nat.le_of_eq e2.symm), List.take_of_length_le (Nat.le_of_eq e2)]
      simp [Ss]


/-- append(nil, x) -/
theorem append_nil {w : World} (x : ByteArray) (g1 : Nat) (hx : w.cell? ⟨g1, 0, none⟩ = some (.string x)) :
    ∃ v' w', (Builtin.append_ #[25, 25] 25 #[.slice none 0 0, .slice (some ⟨g1, 0, none⟩) 1 1]).run Tryz.prog w = .ok v' w' ∧ OwnG w' w.heap.size v' [x] ∧ Below w.heap.size w w' := by
  obtain ⟨i, hi, hzz⟩ := Option.map_eq_some_iff.1 Tryz.infoStrA
  simp only [Prod.mk.injEq] at hzz
  obtain ⟨hz, hs, hby⟩ := hzz
  have hone : ∀ u ∈ [Value.string x], u.oneCell' = true := by intro u hu; simp at hu; subst hu; rfl
  have hsrc : Src Tryz.prog i.size 25 (.slice (some ⟨g1, 0, none⟩) 1 1) 1 [Value.string x] w := by
    rw [hs]
    refine Src.ofSlice w Tryz.underlying25 _ 1 1 _ rfl ?_ hone
    intro j u hu
    match j, hu with
    | 0, hu => simp at hu; subst hu; simpa [Addr.add] using hx
  have hold : (Builtin.firstCells i.size 0 (.slice none 0 0)).run Tryz.prog w.drew = .ok ([] : List Value).toArray w.drew := by
    rw [hs]; rfl
  have hr := run_append_grow_src (P := Tryz.prog) w 25 25 25 9 i _ Tryz.underlying25 hi hz none 0 0 [] hold _ 1 _ hsrc (by omega) (by omega)
    (by rw [hby]; exact growslice_fits (by omega) (by omega))
  refine ⟨_, _, hr, ?_, (Below.refl _ _).drew.alloc (Nat.le_refl _) _⟩
  have hge := grownCap_ge w (0 + 1) 0 9
  refine ⟨grownCap w (0 + 1) 0 9, _, (0, 0), by simp, heap_alloc_new w.drew _, .inl rfl, ?_, by simpa using hge, ?_⟩
  · simp only [Nat.zero_add] at hge
    simp [Builtin.zeroCells, Value.cells]; omega
  · simp [Ss]
/-- keys and readers, in rows that stay -/
def KR (w : World) (g h : Nat) (l m : List ByteArray) (y : World) : Prop := SR y g l ∧ SR y h m ∧ Below w.heap.size w y
theorem KR.keep {w : World} {g h : Nat} {l m : List ByteArray} {y z : World} (a : KR w g h l m y) (k : Below y.heap.size y z) : KR w g h l m z := ⟨a.1.keep k, a.2.1.keep k, a.2.2.trans (k.mono a.2.2.size)⟩
theorem KR.drew {w : World} {g h : Nat} {l m : List ByteArray} {y : World} (a : KR w g h l m y) : KR w g h l m y.drew := a.keep (Below.refl _ _).drew
/-- one append whose answer is known -/
theorem wpList_app {P : Program} {ops : Array Oper} {rest : List Oper} {o : Oper} {a : Act} {w : World} {Q : Exit → Act → World → Prop} (hgd : o.guard = none) (s x : Operand) (t : TypeId)
    (ho : o.op = .call { callee := .builtin .append, args := #[s, x], argTypes := #[t, t] }) (ty : TypeId) (hty : o.type = ty) (v u : Value) (hs : a.eval s = v) (hx : a.eval x = u) (v' : Value) (w' : World)
    (hr : (Builtin.append_ #[t, t] ty #[v, u]).run P w = .ok v' w') (h : wpList P ops Q rest (a.put o.dst v') w') : wpList P ops Q (o :: rest) a w := by
  refine wpList_plain hgd fun K hK => ?_
  unfold Oper.wp execOp
  simp only [ho, hty, resolve, invoke, builtin, Sem.run_bind, Sem.run_pure, Result.andThen_ok, List.map_toArray, List.map_cons, List.map_nil, hs, hx, hr]
  exact hK _ _ h
/-- two slices of texts, of the same number, in rows of their own -/
def Two (w : World) (base : Nat) (v u : Value) (l m : List ByteArray) : Prop :=
  (l = [] ∧ m = [] ∧ v = .slice none 0 0 ∧ u = .slice none 0 0) ∨ ∃ g h, 0 < l.length ∧ g ≠ h ∧ base ≤ g ∧ base ≤ h ∧ OwnG w g v l ∧ OwnG w h u m
theorem Two.keep {w w' : World} {base : Nat} {v u : Value} {l m : List ByteArray} (h : Two w base v u l m) (k : Below w.heap.size w w') : Two w' base v u l m := by
  rcases h with h | ⟨g, q, h0, h1, h2, h3, h4, h5⟩
  · exact Or.inl h
  · exact Or.inr ⟨g, q, h0, h1, h2, h3, h4.keep (k.block g h4.lt), h5.keep (k.block q h5.lt)⟩
/-- l = append(l, x); m = append(m, y) -/
theorem two_step {w : World} {base : Nat} {v u : Value} {l m : List ByteArray} (h : Two w base v u l m) (hb : base ≤ w.heap.size) (x y : ByteArray) (hl : l.length < 1000000000) (hm : m.length < 1000000000) :
    ∃ v' w', (Builtin.append_ #[25, 25] 25 #[v, .slice (some ⟨w.heap.size, 0, none⟩) 1 1]).run Tryz.prog (w.alloc (.cells #[.string x] 9)) = .ok v' w' ∧
      ∃ u' w'', (Builtin.append_ #[25, 25] 25 #[u, .slice (some ⟨w'.heap.size, 0, none⟩) 1 1]).run Tryz.prog (w'.alloc (.cells #[.string y] 9)) = .ok u' w'' ∧
        Two w'' base v' u' (l ++ [x]) (m ++ [y]) ∧ Below base w w'' := by
  have c1 : (w.alloc (.cells #[.string x] 9)).cell? ⟨w.heap.size, 0, none⟩ = some (.string x) := cell_of_row _ _ 0 _ _ _ (heap_alloc_new w _)
  have s1 : (w.alloc (.cells #[.string x] 9)).heap.size = w.heap.size + 1 := by simp
  have b1 : Below w.heap.size w (w.alloc (.cells #[.string x] 9)) := (Below.refl _ _).alloc (Nat.le_refl _) _
  rcases h with ⟨rfl, rfl, rfl, rfl⟩ | ⟨g, q, _, hne, hg, hq, h4, h5⟩
  · obtain ⟨v', w', hr, ho, hB⟩ := append_nil (w := w.alloc (.cells #[.string x] 9)) x _ c1
    have b2 : Below w.heap.size w w' := b1.trans (hB.mono b1.size)
    have c2 : (w'.alloc (.cells #[.string y] 9)).cell? ⟨w'.heap.size, 0, none⟩ = some (.string y) := cell_of_row _ _ 0 _ _ _ (heap_alloc_new w' _)
    have b3 : Below w'.heap.size w' (w'.alloc (.cells #[.string y] 9)) := (Below.refl _ _).alloc (Nat.le_refl _) _
    obtain ⟨u', w'', hr2, ho2, hB2⟩ := append_nil (w := w'.alloc (.cells #[.string y] 9)) y _ c2
    have b4 : Below w'.heap.size w' w'' := b3.trans (hB2.mono b3.size)
    have hz := ho.lt
    have hs2 : (w'.alloc (.cells #[.string y] 9)).heap.size = w'.heap.size + 1 := by simp
    refine ⟨v', w', hr, u', w'', hr2, Or.inr ⟨_, _, by simp, ?_, ?_, ?_, ho.keep (b4.block _ hz), ho2⟩, ?_⟩
    · omega
    · omega
    · have := b2.size; omega
    · exact (b2.mono hb).trans (b4.mono (Nat.le_trans hb b2.size))
  · have h4' : OwnG (w.alloc (.cells #[.string x] 9)) g v l := h4.keep (b1.block g h4.lt)
    have h5' : OwnG (w.alloc (.cells #[.string x] 9)) q u m := h5.keep (b1.block q h5.lt)
    obtain ⟨v', w', g', hr, ho, hg', hB⟩ := append_str h4' x _ c1 hl
    have h6 : OwnG w' q u m := h5'.keep (hB.other q h5'.lt (Ne.symm hne))
    have c2 : (w'.alloc (.cells #[.string y] 9)).cell? ⟨w'.heap.size, 0, none⟩ = some (.string y) := cell_of_row _ _ 0 _ _ _ (heap_alloc_new w' _)
    have b3 : Below w'.heap.size w' (w'.alloc (.cells #[.string y] 9)) := (Below.refl _ _).alloc (Nat.le_refl _) _
    have h7 : OwnG (w'.alloc (.cells #[.string y] 9)) q u m := h6.keep (b3.block q h6.lt)
    obtain ⟨u', w'', q', hr2, ho2, hq', hB2⟩ := append_str h7 y _ c2 hm
    have hz := ho.lt
    have hz5 := h5.lt
    have hs2 : (w'.alloc (.cells #[.string y] 9)).heap.size = w'.heap.size + 1 := by simp
    have hgq : g' ≠ q := by
      rcases hg' with rfl | rfl
      · exact hne
      · omega
    have ho' : OwnG (w'.alloc (.cells #[.string y] 9)) g' v' (l ++ [x]) := ho.keep (b3.block g' hz)
    have b5 : Below base w w' := (b1.mono hb).trans (hB.below.mono hg)
    refine ⟨v', w', hr, u', w'', hr2, Or.inr ⟨g', q', by simp, ?_, ?_, ?_, ho'.keep (hB2.other g' ho'.lt hgq), ho2⟩, ?_⟩
    · rcases hq' with rfl | rfl
      · exact hgq
      · omega
    · rcases hg' with rfl | rfl <;> omega
    · have := b5.size
      rcases hq' with rfl | rfl <;> omega
    · exact b5.trans ((b3.mono (Nat.le_trans hb b5.size)).trans (hB2.below.mono hq))
end Go.Proofs.YtclpbaokadfhhaaGreatDoor
