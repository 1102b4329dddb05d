/- Rows of bytes and of words in memory: plain lemmas, no program. -/
import Derived.Test.YtclpbaokadfhhaaSha
namespace Go.Proofs.Ytclpbaokadfhhaa
open Go.RowKit

theorem ret_int {k : IntKind} {a b : Int} (h : a = b) : Ending.returned (.int k a) = .returned (.int k b) := by rw [h]
theorem int_eq {k : IntKind} {a b : Int} (h : a = b) : Value.int k a = .int k b := by rw [h]

/-- a row of bytes as cells -/
def Bs (l : List UInt8) : Array Value := (l.map fun x => Value.int .u8 (x.toNat : Int)).toArray
/-- a row of words as cells -/
def Ws (l : List (BitVec 64)) : Array Value := (l.map fun x => Value.int .u64 (U x)).toArray

theorem Bs_size (l : List UInt8) : (Bs l).size = l.length := by simp [Bs]
theorem Ws_size (l : List (BitVec 64)) : (Ws l).size = l.length := by simp [Ws]
theorem Bs_get (l : List UInt8) (i : Nat) : (Bs l)[i]? = l[i]?.map fun x => Value.int .u8 (x.toNat : Int) := by simp [Bs]
theorem Ws_get (l : List (BitVec 64)) (i : Nat) : (Ws l)[i]? = l[i]?.map fun x => Value.int .u64 (U x) := by simp [Ws]
theorem Bs_at (l : List UInt8) (i : Nat) (h : i < l.length) : (Bs l)[i]? = some (.int .u8 ((l.getD i 0).toNat : Int)) := by
  rw [Bs_get, List.getElem?_eq_getElem h]; simp [List.getD, List.getElem?_eq_getElem h]
theorem Ws_at (l : List (BitVec 64)) (i : Nat) (h : i < l.length) : (Ws l)[i]? = some (.int .u64 (U (l.getD i 0))) := by
  rw [Ws_get, List.getElem?_eq_getElem h]; simp [List.getD, List.getElem?_eq_getElem h]
theorem Bs_set (l : List UInt8) (i : Nat) (x : UInt8) : (Bs l).setIfInBounds i (.int .u8 (x.toNat : Int)) = Bs (l.set i x) := by
  simp [Bs, List.map_set]
theorem Ws_set (l : List (BitVec 64)) (i : Nat) (x : BitVec 64) : (Ws l).setIfInBounds i (.int .u64 (U x)) = Ws (l.set i x) := by
  simp [Ws, List.map_set]

/-- block b of the world is this row, no cell of it frozen -/
def Blk (w : World) (b : Nat) (cs : Array Value) (t : TypeId) : Prop := w.heap[b]? = some (.cells cs t (0, 0))

theorem Blk.cell {w : World} {b : Nat} {cs : Array Value} {t : TypeId} (h : Blk w b cs t) (i : Nat) : w.cell? ⟨b, i, none⟩ = cs[i]? := cell_of_row w b i cs t (0, 0) h
theorem Blk.frozen {w : World} {b : Nat} {cs : Array Value} {t : TypeId} (h : Blk w b cs t) (i : Nat) : w.frozen? ⟨b, i, none⟩ = false := frozen_of_row w b i cs t h
theorem Blk.row {w : World} {b : Nat} {cs : Array Value} {t : TypeId} (h : Blk w b cs t) (cs' : Array Value) : Blk (w.setRow b cs') b cs' t := setRow_heap w b cs cs' t (0, 0) h
theorem Blk.other {w : World} {b b' : Nat} {cs : Array Value} {t : TypeId} (h : Blk w b cs t) (hb : b ≠ b') (cs' : Array Value) : Blk (w.setRow b' cs') b cs t := by
  unfold Blk; rw [setRow_other w b' b cs' hb]; exact h
theorem Blk.set {w : World} {b : Nat} {cs : Array Value} {t : TypeId} (h : Blk w b cs t) (i : Nat) (v : Value) : w.setCell ⟨b, i, none⟩ v = w.setRow b (cs.setIfInBounds i v) :=
  setCell_eq_setRow w b i cs t (0, 0) v h
theorem Blk.lt {w : World} {b : Nat} {cs : Array Value} {t : TypeId} (h : Blk w b cs t) : b < w.heap.size := by
  unfold Blk at h
  by_cases hb : b < w.heap.size
  · exact hb
  · rw [Array.getElem?_eq_none (by omega)] at h; cases h
theorem Blk.below {w w' : World} {B b : Nat} {cs : Array Value} {t : TypeId} (h : Blk w b cs t) (hw : Below B w w') (hb : b < B) : Blk w' b cs t := by
  unfold Blk; rw [hw.block b hb]; exact h
theorem Blk.drew {w : World} {b : Nat} {cs : Array Value} {t : TypeId} (h : Blk w b cs t) : Blk w.drew b cs t := h
theorem Blk.alloc {w : World} {b : Nat} {cs : Array Value} {t : TypeId} (h : Blk w b cs t) (o : Obj) : Blk (w.alloc o) b cs t := by
  unfold Blk; rw [Below.heap_alloc w o b h.lt]; exact h
theorem Blk.drewN {w : World} {b : Nat} {cs : Array Value} {t : TypeId} (h : Blk w b cs t) (n : Nat) : Blk (w.drewN n) b cs t := h
theorem Blk.keep {w w' : World} {b : Nat} {cs : Array Value} {t : TypeId} (h : Blk w b cs t) (hw : Below w.heap.size w w') : Blk w' b cs t := h.below hw h.lt
theorem Blk.new (w : World) (cs : Array Value) (t : TypeId) : Blk (w.alloc (.cells cs t)) w.heap.size cs t := heap_alloc_new w _

theorem cell_set_off (w : World) (b i j : Nat) (v : Value) (h : i ≠ j) : (w.setCell ⟨b, i, none⟩ v).cell? ⟨b, j, none⟩ = w.cell? ⟨b, j, none⟩ :=
  World.cell?_setCell_other _ _ _ _ (fun e => h (by injection e))

theorem Ws_one (l : List (BitVec 64)) : (Ws l).all (·.oneCell') = true := by
  rw [Array.all_eq_true_iff_forall_mem]
  intro v hv
  simp only [Ws, List.mem_toArray, List.mem_map] at hv
  obtain ⟨x, _, rfl⟩ := hv
  rfl

/-- how many elements a slot's slice has -/
def sliceLen : Value → Nat | .slice _ m _ => m | _ => 0

end Go.Proofs.Ytclpbaokadfhhaa
