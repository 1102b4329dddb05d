/- Rows that stand in memory, no two the same. -/
import Derived.Test.YtclpbaokadfhhaaDoorBlks
namespace Go.Proofs.YtclpbaokadfhhaaDoor
open Go.RowKit

/-- the rows of l stand, each another one -/
def WD (w0 : World) (base : Nat) (l : BL) (w : World) : Prop := WS w0 base l w ∧ (l.map (·.1)).Nodup
theorem WD.get {w0 w : World} {base : Nat} {l : BL} (h : WD w0 base l w) (i : Nat) {x : Nat × Array Value × Nat} (hi : l[i]? = some x) : Blk w x.1 x.2.1 x.2.2 := h.1.get i hi
theorem WD.start {w : World} : WD w w.heap.size [] w := ⟨WS.start, List.nodup_nil⟩
theorem WD.keep {w0 w w' : World} {base : Nat} {l : BL} (h : WD w0 base l w) (k : Below w.heap.size w w') : WD w0 base l w' := ⟨h.1.keep k, h.2⟩
theorem WD.drew {w0 w : World} {base : Nat} {l : BL} (h : WD w0 base l w) : WD w0 base l w.drew := ⟨h.1.drew, h.2⟩
theorem WD.alloc {w0 w : World} {base : Nat} {l : BL} (h : WD w0 base l w) (o : Obj) : WD w0 base l (w.alloc o) := ⟨h.1.alloc o, h.2⟩
theorem WD.push {w0 w : World} {base q t : Nat} {cs : Array Value} {l : BL} (h : WD w0 base l w) (hb : Blk w q cs t) (hq : base ≤ q) (hl : ∀ x ∈ l, x.1 ≠ q) : WD w0 base ((q, cs, t) :: l) w := by
  refine ⟨h.1.push hb hq, ?_⟩
  rw [List.map_cons, List.nodup_cons]
  refine ⟨fun hm => ?_, h.2⟩
  obtain ⟨x, hx, e⟩ := List.mem_map.1 hm
  exact hl x hx e
theorem WD.new {w0 w : World} {base : Nat} {l : BL} (h : WD w0 base l w) (cs : Array Value) (t : Nat) : WD w0 base ((w.heap.size, cs, t) :: l) (w.alloc (.cells cs t)) :=
  (h.alloc _).push (Blk.new _ _ _) h.1.2.2.1 (fun x hx => by have := h.1.lt x hx; omega)
theorem WD.below {w0 w : World} {base : Nat} {l : BL} (h : WD w0 base l w) : Below base w0 w := h.1.below
theorem WD.lt {w0 w : World} {base : Nat} {l : BL} (h : WD w0 base l w) : ∀ x ∈ l, x.1 < w.heap.size := h.1.lt
theorem WD.ge {w0 w : World} {base : Nat} {l : BL} (h : WD w0 base l w) (i : Nat) {x : Nat × Array Value × Nat} (hi : l[i]? = some x) : base ≤ x.1 := h.1.2.2.2 x (List.mem_of_getElem? hi)
theorem WD.sub {w0 w : World} {base : Nat} {l l' : BL} (h : WD w0 base l w) (hs : List.Sublist l' l) : WD w0 base l' w := ⟨h.1.sub (fun _ hx => hs.subset hx), (hs.map _).nodup h.2⟩
/-- row i is written over -/
theorem WD.over {w0 w : World} {base : Nat} {l : BL} (h : WD w0 base l w) (i : Nat) {q t : Nat} {cs : Array Value} (hi : l[i]? = some (q, cs, t)) (cs' : Array Value) : WD w0 base (l.set i (q, cs', t)) (w.setRow q cs') := by
  have hlt : i < l.length := (List.getElem?_eq_some_iff.1 hi).1
  have hget : l[i] = (q, cs, t) := (List.getElem?_eq_some_iff.1 hi).2
  refine ⟨h.1.upd q cs' t _ ⟨cs, List.mem_of_getElem? hi⟩ (fun x hx => ?_), ?_⟩
  · obtain ⟨j, hj⟩ := List.mem_iff_getElem?.1 hx
    by_cases hij : i = j
    · subst hij
      rw [List.getElem?_set_self hlt] at hj
      left; injection hj with hj; exact hj.symm
    · rw [List.getElem?_set_ne hij] at hj
      right
      refine ⟨List.mem_of_getElem? hj, fun e => hij ?_⟩
      have hjl : j < l.length := (List.getElem?_eq_some_iff.1 hj).1
      have hjx : l[j] = x := (List.getElem?_eq_some_iff.1 hj).2
      have e2 : (l.map (·.1))[i]'(by simpa using hlt) = (l.map (·.1))[j]'(by simpa using hjl) := by
        rw [List.getElem_map, List.getElem_map, hget, hjx, e]
      have hp := List.pairwise_iff_getElem.1 h.2
      rcases Nat.lt_trichotomy i j with hh | hh | hh
      · exact absurd e2 (hp i j (by simpa using hlt) (by simpa using hjl) hh)
      · exact hh
      · exact absurd e2.symm (hp j i (by simpa using hjl) (by simpa using hlt) hh)
  · have : (l.set i (q, cs', t)).map (·.1) = l.map (·.1) := by
      apply List.ext_getElem?
      intro j
      rw [List.getElem?_map, List.getElem?_map]
      by_cases hij : i = j
      · subst hij; rw [List.getElem?_set_self hlt, hi]; rfl
      · rw [List.getElem?_set_ne hij]
    rw [this]; exact h.2
theorem FreshD {w0 w : World} {base : Nat} {l : BL} (h : WD w0 base l w) (cs : Array Value) (t : Nat) : Fresh w0 base l cs t (.pointer (some ⟨w.heap.size, 0, none⟩)) (w.alloc (.cells cs t)) := Fresh.mk h.1 cs t
end Go.Proofs.YtclpbaokadfhhaaDoor
