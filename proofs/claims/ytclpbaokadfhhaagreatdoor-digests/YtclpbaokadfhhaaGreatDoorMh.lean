/- Several texts as one: Blks, Bl2. -/
import Derived.Test.YtclpbaokadfhhaaGreatDoorMg
import Derived.Test.YtclpbaokadfhhaaGreatDoorMb
namespace Go.Proofs.YtclpbaokadfhhaaGreatDoor
open Go.RowKit

abbrev BL := List (Nat × Array Value × Nat)
/-- the rows of l stand, from base on; what was there below base is as it was in w0 -/
def WS (w0 : World) (base : Nat) (l : BL) (w : World) : Prop := (∀ x ∈ l, Blk w x.1 x.2.1 x.2.2) ∧ Below base w0 w ∧ base ≤ w.heap.size ∧ (∀ x ∈ l, base ≤ x.1)

theorem WS.get {w0 w : World} {base : Nat} {l : BL} (h : WS w0 base l w) (i : Nat) {x : Nat × Array Value × Nat} (hi : l[i]? = some x) : Blk w x.1 x.2.1 x.2.2 :=
  h.1 x (List.mem_of_getElem? hi)
theorem WS.start {w : World} : WS w w.heap.size [] w := ⟨fun _ h => (by cases h), Below.refl _ _, Nat.le_refl _, fun _ h => (by cases h)⟩
theorem WS.keep {w0 w w' : World} {base : Nat} {l : BL} (h : WS w0 base l w) (k : Below w.heap.size w w') : WS w0 base l w' :=
  ⟨fun x hx => (h.1 x hx).keep k, h.2.1.trans (k.mono h.2.2.1), Nat.le_trans h.2.2.1 k.size, h.2.2.2⟩
theorem WS.drew {w0 w : World} {base : Nat} {l : BL} (h : WS w0 base l w) : WS w0 base l w.drew := ⟨h.1, h.2.1.drew, h.2.2.1, h.2.2.2⟩
theorem WS.drewN {w0 w : World} {base : Nat} {l : BL} (h : WS w0 base l w) (n : Nat) : WS w0 base l (w.drewN n) := ⟨h.1, below_drewN h.2.1 n, h.2.2.1, h.2.2.2⟩
theorem WS.alloc {w0 w : World} {base : Nat} {l : BL} (h : WS w0 base l w) (o : Obj) : WS w0 base l (w.alloc o) :=
  ⟨fun x hx => (h.1 x hx).alloc o, h.2.1.alloc h.2.2.1 o, by have := h.2.2.1; simp; omega, h.2.2.2⟩
theorem WS.push {w0 w : World} {base q t : Nat} {cs : Array Value} {l : BL} (h : WS w0 base l w) (hb : Blk w q cs t) (hq : base ≤ q) : WS w0 base ((q, cs, t) :: l) w :=
  ⟨fun x hx => by rcases List.mem_cons.1 hx with rfl | hx; exact hb; exact h.1 x hx, h.2.1, h.2.2.1, fun x hx => by rcases List.mem_cons.1 hx with rfl | hx; exact hq; exact h.2.2.2 x hx⟩
theorem WS.new {w0 w : World} {base : Nat} {l : BL} (h : WS w0 base l w) (cs : Array Value) (t : Nat) : WS w0 base ((w.heap.size, cs, t) :: l) (w.alloc (.cells cs t)) :=
  (h.alloc _).push (Blk.new _ _ _) h.2.2.1
theorem WS.sub {w0 w : World} {base : Nat} {l l' : BL} (h : WS w0 base l w) (hs : ∀ x ∈ l', x ∈ l) : WS w0 base l' w := ⟨fun x hx => h.1 x (hs x hx), h.2.1, h.2.2.1, fun x hx => h.2.2.2 x (hs x hx)⟩
theorem WS.store {w0 w : World} {base q : Nat} {l : BL} (h : WS w0 base l w) (hq : ∀ x ∈ l, x.1 ≠ q) (hb : base ≤ q) (cs : Array Value) : WS w0 base l (w.setRow q cs) :=
  ⟨fun x hx => (h.1 x hx).other (hq x hx) _, below_setRow h.2.1 hb _, by rw [size_setRow]; exact h.2.2.1, h.2.2.2⟩
/-- the first row is written over -/
theorem WS.over {w0 w : World} {base q t : Nat} {cs : Array Value} {l : BL} (h : WS w0 base ((q, cs, t) :: l) w) (hq : ∀ x ∈ l, x.1 ≠ q) (cs' : Array Value) : WS w0 base ((q, cs', t) :: l) (w.setRow q cs') :=
  ((h.sub (fun _ hx => List.mem_cons_of_mem _ hx)).store hq (h.2.2.2 _ (List.mem_cons_self ..)) cs').push ((h.1 _ (List.mem_cons_self ..)).row _) (h.2.2.2 _ (List.mem_cons_self ..))
/-- row q is written over, the others stay -/
theorem WS.upd {w0 w : World} {base : Nat} {l : BL} (h : WS w0 base l w) (q : Nat) (cs' : Array Value) (t : Nat) (l' : BL) (hq : ∃ cs, (q, cs, t) ∈ l) (hl : ∀ x ∈ l', x = (q, cs', t) ∨ (x ∈ l ∧ x.1 ≠ q)) : WS w0 base l' (w.setRow q cs') := by
  obtain ⟨cs, hm⟩ := hq
  have hb : Blk w q cs t := h.1 _ hm
  have hbase : base ≤ q := h.2.2.2 _ hm
  refine ⟨fun x hx => ?_, below_setRow h.2.1 hbase _, by rw [size_setRow]; exact h.2.2.1, fun x hx => ?_⟩
  · rcases hl x hx with rfl | ⟨h1, h2⟩
    · exact hb.row _
    · exact (h.1 x h1).other h2 _
  · rcases hl x hx with rfl | ⟨h1, _⟩
    · exact hbase
    · exact h.2.2.2 x h1
theorem WS.lt {w0 w : World} {base : Nat} {l : BL} (h : WS w0 base l w) : ∀ x ∈ l, x.1 < w.heap.size := fun x hx => (h.1 x hx).lt
theorem WS.below {w0 w : World} {base : Nat} {l : BL} (h : WS w0 base l w) : Below base w0 w := h.2.1

/-- v is a pointer to a new row, behind those of l -/
def Fresh (_w0 : World) (base : Nat) (l : BL) (cs : Array Value) (t : Nat) (v : Value) (w : World) : Prop :=
  ∃ q, v = .pointer (some ⟨q, 0, none⟩) ∧ Blk w q cs t ∧ (∀ x ∈ l, x.1 < q) ∧ base ≤ q
theorem Fresh.keep {w0 w w' : World} {base t : Nat} {l : BL} {cs : Array Value} {v : Value} (h : Fresh w0 base l cs t v w) (k : Below w.heap.size w w') : Fresh w0 base l cs t v w' := by
  obtain ⟨q, e, hb, r⟩ := h; exact ⟨q, e, hb.keep k, r⟩
theorem Fresh.alloc {w0 w : World} {base t : Nat} {l : BL} {cs : Array Value} {v : Value} (h : Fresh w0 base l cs t v w) (o : Obj) : Fresh w0 base l cs t v (w.alloc o) := by
  obtain ⟨q, e, hb, r⟩ := h; exact ⟨q, e, hb.alloc o, r⟩
theorem Fresh.mk {w0 w : World} {base : Nat} {l : BL} (h : WS w0 base l w) (cs : Array Value) (t : Nat) : Fresh w0 base l cs t (.pointer (some ⟨w.heap.size, 0, none⟩)) (w.alloc (.cells cs t)) :=
  ⟨_, rfl, Blk.new _ _ _, h.lt, h.2.2.1⟩
theorem Fresh.ne {w0 w : World} {base t : Nat} {l : BL} {cs : Array Value} {v : Value} (h : Fresh w0 base l cs t v w) : v ≠ .pointer (some ⟨w.heap.size, 0, none⟩) := by
  obtain ⟨q, rfl, hb, _⟩ := h
  intro e
  injection e with e; injection e with e; injection e with e
  have := hb.lt; omega

end Go.Proofs.YtclpbaokadfhhaaGreatDoor

namespace Go.Proofs.YtclpbaokadfhhaaGreatDoor
open Go.RowKit

/-- the rows of l stand, each another one -/
def WD (w0 : World) (base : Nat) (l : BL) (w : World) : Prop := WS w0 base l w ∧ (l.map (·.1)).Nodup
theorem WD.get {w0 w : World} {base : Nat} {l : BL} (h : WD w0 base l w) (i : Nat) {x : Nat × Array Value × Nat} (hi : l[i]? = some x) : Blk w x.1 x.2.1 x.2.2 := h.1.get i hi
theorem WD.start {w : World} : WD w w.heap.size [] w := ⟨WS.start, List.nodup_nil⟩
theorem WD.keep {w0 w w' : World} {base : Nat} {l : BL} (h : WD w0 base l w) (k : Below w.heap.size w w') : WD w0 base l w' := ⟨h.1.keep k, h.2⟩
theorem WD.drew {w0 w : World} {base : Nat} {l : BL} (h : WD w0 base l w) : WD w0 base l w.drew := ⟨h.1.drew, h.2⟩
theorem WD.alloc {w0 w : World} {base : Nat} {l : BL} (h : WD w0 base l w) (o : Obj) : WD w0 base l (w.alloc o) := ⟨h.1.alloc o, h.2⟩
theorem WD.push {w0 w : World} {base q t : Nat} {cs : Array Value} {l : BL} (h : WD w0 base l w) (hb : Blk w q cs t) (hq : base ≤ q) (hl : ∀ x ∈ l, x.1 ≠ q) : WD w0 base ((q, cs, t) :: l) w := by
  refine ⟨h.1.push hb hq, ?_⟩
  rw [List.map_cons, List.nodup_cons]
  refine ⟨fun hm => ?_, h.2⟩
  obtain ⟨x, hx, e⟩ := List.mem_map.1 hm
  exact hl x hx e
theorem WD.new {w0 w : World} {base : Nat} {l : BL} (h : WD w0 base l w) (cs : Array Value) (t : Nat) : WD w0 base ((w.heap.size, cs, t) :: l) (w.alloc (.cells cs t)) :=
  (h.alloc _).push (Blk.new _ _ _) h.1.2.2.1 (fun x hx => by have := h.1.lt x hx; omega)
theorem WD.below {w0 w : World} {base : Nat} {l : BL} (h : WD w0 base l w) : Below base w0 w := h.1.below
theorem WD.lt {w0 w : World} {base : Nat} {l : BL} (h : WD w0 base l w) : ∀ x ∈ l, x.1 < w.heap.size := h.1.lt
theorem WD.ge {w0 w : World} {base : Nat} {l : BL} (h : WD w0 base l w) (i : Nat) {x : Nat × Array Value × Nat} (hi : l[i]? = some x) : base ≤ x.1 := h.1.2.2.2 x (List.mem_of_getElem? hi)
theorem WD.sub {w0 w : World} {base : Nat} {l l' : BL} (h : WD w0 base l w) (hs : List.Sublist l' l) : WD w0 base l' w := ⟨h.1.sub (fun _ hx => hs.subset hx), (hs.map _).nodup h.2⟩
/-- row i is written over -/
theorem WD.over {w0 w : World} {base : Nat} {l : BL} (h : WD w0 base l w) (i : Nat) {q t : Nat} {cs : Array Value} (hi : l[i]? = some (q, cs, t)) (cs' : Array Value) : WD w0 base (l.set i (q, cs', t)) (w.setRow q cs') := by
  have hlt : i < l.length := (List.getElem?_eq_some_iff.1 hi).1
  have hget : l[i] = (q, cs, t) := (List.getElem?_eq_some_iff.1 hi).2
  refine ⟨h.1.upd q cs' t _ ⟨cs, List.mem_of_getElem? hi⟩ (fun x hx => ?_), ?_⟩
  · obtain ⟨j, hj⟩ := List.mem_iff_getElem?.1 hx
    by_cases hij : i = j
    · subst hij
      rw [List.getElem?_set_self hlt] at hj
      left; injection hj with hj; exact hj.symm
    · rw [List.getElem?_set_ne hij] at hj
      right
      refine ⟨List.mem_of_getElem? hj, fun e => hij ?_⟩
      have hjl : j < l.length := (List.getElem?_eq_some_iff.1 hj).1
      have hjx : l[j] = x := (List.getElem?_eq_some_iff.1 hj).2
      have e2 : (l.map (·.1))[i]'(by simpa using hlt) = (l.map (·.1))[j]'(by simpa using hjl) := by
        rw [List.getElem_map, List.getElem_map, hget, hjx, e]
      have hp := List.pairwise_iff_getElem.1 h.2
      rcases Nat.lt_trichotomy i j with hh | hh | hh
      · exact absurd e2 (hp i j (by simpa using hlt) (by simpa using hjl) hh)
      · exact hh
      · exact absurd e2.symm (hp j i (by simpa using hjl) (by simpa using hlt) hh)
  · have : (l.set i (q, cs', t)).map (·.1) = l.map (·.1) := by
      apply List.ext_getElem?
      intro j
      rw [List.getElem?_map, List.getElem?_map]
      by_cases hij : i = j
      · subst hij; rw [List.getElem?_set_self hlt, hi]; rfl
      · rw [List.getElem?_set_ne hij]
    rw [this]; exact h.2
theorem FreshD {w0 w : World} {base : Nat} {l : BL} (h : WD w0 base l w) (cs : Array Value) (t : Nat) : Fresh w0 base l cs t (.pointer (some ⟨w.heap.size, 0, none⟩)) (w.alloc (.cells cs t)) := Fresh.mk h.1 cs t
end Go.Proofs.YtclpbaokadfhhaaGreatDoor
