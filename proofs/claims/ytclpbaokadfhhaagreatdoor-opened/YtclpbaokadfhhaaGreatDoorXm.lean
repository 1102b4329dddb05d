/- Several texts as one: Own, Chg. -/
import Derived.Test.YtclpbaokadfhhaaGreatDoorZa
namespace Go.Proofs.YtclpbaokadfhhaaGreatDoor
open Go.RowKit

/-- the slice value v owns the bytes l; its row may bear a mark behind its last cell -/
def OwnB (w : World) (base : Nat) (v : Value) (l : List UInt8) : Prop :=
  ∃ (g cap : Nat) (cur : Array Value) (fz : Nat × Nat), v = .slice (some ⟨g, 0, none⟩) l.length cap ∧ base ≤ g ∧ w.heap[g]? = some (.cells cur 5 fz) ∧ (fz = (0, 0) ∨ cur.size ≤ fz.1) ∧ cur.size = cap ∧ l.length ≤ cap ∧ cur.toList.take l.length = (Bs l).toList

/-- []byte(s) -/
theorem bytesOf (s : ByteArray) (base : Nat) (w : World) (hb : base ≤ w.heap.size) :
    ∃ cap w', (convert 9 55 (.string s)).run Tryz.prog w = .ok (.slice (some ⟨w.heap.size, 0, none⟩) s.size cap) w' ∧ OwnB w' base (.slice (some ⟨w.heap.size, 0, none⟩) s.size cap) s.data.toList ∧ Below w.heap.size w w' := by
  have hl : s.data.toList.length = s.size := by simp
  refine ⟨_, _, run_bytes_of_string w _ _ 5 s Tryz.underlying9 Tryz.underlying55 Tryz.underlying5, ?_, ?_⟩
  · have hge := grownCap_ge w s.size 0 5
    refine ⟨w.heap.size, _, _, _, by rw [hl], hb, heap_alloc_new w.drew _, .inr (Nat.le_refl _), ?_, by rw [hl]; exact hge, ?_⟩
    · simp [bytesRow]; omega
    · rw [hl]
      simp [bytesRow, Bs]
  · exact (Below.refl _ _).drew.alloc (Nat.le_refl _) _

/-- row g begins with the bytes l, and has room for cap; its row may bear a mark behind its last cell -/
def OwnR (w : World) (g cap : Nat) (l : List UInt8) : Prop :=
  ∃ (cur : Array Value) (fz : Nat × Nat), w.heap[g]? = some (.cells cur 5 fz) ∧ (fz = (0, 0) ∨ cur.size ≤ fz.1) ∧ cur.size = cap ∧ l.length ≤ cap ∧ cur.toList.take l.length = (Bs l).toList
theorem OwnB.at {w : World} {base g n cap : Nat} {l : List UInt8} (h : OwnB w base (.slice (some ⟨g, 0, none⟩) n cap) l) : OwnR w g cap l := by
  obtain ⟨g', cap', cur, fz, hv, hg, r⟩ := h
  injection hv with h1 h2 h3
  injection h1 with h1
  injection h1 with h1 _ _
  subst h1; subst h3
  exact ⟨cur, fz, r⟩
theorem OwnR.cell {w : World} {g cap : Nat} {l : List UInt8} (h : OwnR w g cap l) (i : Nat) (hi : i < l.length) : w.cell? ⟨g, i, none⟩ = some (.int .u8 ((l.getD i 0).toNat : Int)) := by
  obtain ⟨cur, fz, hh, _, _, _, ht⟩ := h
  rw [cell_of_row w g i cur _ fz hh]
  have h2 : (cur.toList.take l.length)[i]? = (Bs l)[i]? := by rw [ht]; simp
  rw [List.getElem?_take_of_lt hi, Bs_at l i hi] at h2
  simpa using h2
theorem OwnR.frozen {w : World} {g cap : Nat} {l : List UInt8} (h : OwnR w g cap l) (i : Nat) (hi : i < l.length) : w.frozen? ⟨g, i, none⟩ = false := by
  obtain ⟨cur, fz, hh, hfz, hs, hl, _⟩ := h
  simp only [World.frozen?, hh]
  rcases hfz with rfl | hfz
  · simp
  · simp; omega
theorem OwnR.lt {w : World} {g cap : Nat} {l : List UInt8} (h : OwnR w g cap l) : g < w.heap.size := by
  obtain ⟨cur, fz, hh, _⟩ := h
  exact (Array.getElem?_eq_some_iff.1 hh).1
theorem OwnR.below {w w' : World} {B g cap : Nat} {l : List UInt8} (h : OwnR w g cap l) (hb : Below B w w') (hB : g < B) : OwnR w' g cap l := by
  obtain ⟨cur, fz, hh, r⟩ := h
  refine ⟨cur, fz, ?_, r⟩
  rw [hb.block g hB]; exact hh
theorem OwnR.drew {w : World} {g cap : Nat} {l : List UInt8} (h : OwnR w g cap l) : OwnR w.drew g cap l := h
theorem OwnR.alloc {w : World} {g cap : Nat} {l : List UInt8} (h : OwnR w g cap l) (o : Obj) : OwnR (w.alloc o) g cap l := by
  obtain ⟨cur, fz, hh, r⟩ := h
  refine ⟨cur, fz, ?_, r⟩
  rw [Below.heap_alloc w o g (Array.getElem?_eq_some_iff.1 hh).1]; exact hh
theorem OwnR.set {w : World} {g cap : Nat} {l : List UInt8} (h : OwnR w g cap l) (i : Nat) (x : UInt8) : OwnR (w.setCell ⟨g, i, none⟩ (.int .u8 (x.toNat : Int))) g cap (l.set i x) := by
  obtain ⟨cur, fz, hh, hfz, hs, hl, ht⟩ := h
  refine ⟨cur.setIfInBounds i (.int .u8 (x.toNat : Int)), fz, ?_, by simpa using hfz, by simpa using hs, by simpa using hl, ?_⟩
  · rw [setCell_eq_setRow w g i cur _ fz _ hh]; exact setRow_heap w g cur _ _ fz hh
  · rw [← Bs_set, List.length_set, Array.toList_setIfInBounds, List.take_set, ht, Array.toList_setIfInBounds]
theorem Blk.otherCell {w : World} {b g i cap : Nat} {cs : Array Value} {t : TypeId} {l : List UInt8} (h : Blk w b cs t) (ho : OwnR w g cap l) (hne : b ≠ g) (v : Value) : Blk (w.setCell ⟨g, i, none⟩ v) b cs t := by
  obtain ⟨cur, fz, hh, _⟩ := ho
  rw [setCell_eq_setRow w g i cur _ fz _ hh]
  exact h.other hne _
/-- string(b), all of its bytes -/
theorem stringOfOwn {w : World} {g cap n : Nat} {l : List UInt8} (h : OwnR w g cap l) (hn : n = l.length) :
    (convert 55 9 (.slice (some ⟨g, 0, none⟩) n cap)).run Tryz.prog w = .ok (.string ⟨l.toArray⟩) w := by
  subst hn
  refine run_convert_bytes_back w _ _ 5 _ cap l Tryz.underlying55 Tryz.underlying5 Tryz.underlying9 ?_
  intro j hj
  have : (⟨g, 0, none⟩ : Addr).add j = ⟨g, j, none⟩ := by unfold Addr.add; split <;> simp_all
  rw [this, h.cell j hj]
  simp [List.getD, List.getElem?_eq_getElem hj]

end Go.Proofs.YtclpbaokadfhhaaGreatDoor

namespace Go.Proofs.YtclpbaokadfhhaaGreatDoor
open Go.RowKit

theorem and_byte (x y : UInt8) : bits BinOp.and IntKind.u8 (x.toNat : Int) (y.toNat : Int) = ((x &&& y).toNat : Int) := by
  show IntKind.u8.wrap ((BitVec.ofInt 8 (x.toNat : Int) &&& BitVec.ofInt 8 (y.toNat : Int)).toNat : Int) = _
  rw [BitVec.ofInt_natCast, BitVec.ofInt_natCast, BitVec.toNat_and, UInt8.toNat_and]
  have h1 := x.toNat_lt
  have h2 := y.toNat_lt
  have h3 := (x &&& y).toNat_lt
  rw [UInt8.toNat_and] at h3
  simp only [BitVec.toNat_ofNat]
  rw [Nat.mod_eq_of_lt (by omega), Nat.mod_eq_of_lt (by omega), IntKind.wrap_u8]
  omega
theorem or_byte (x y : UInt8) : bits BinOp.or IntKind.u8 (x.toNat : Int) (y.toNat : Int) = ((x ||| y).toNat : Int) := by
  show IntKind.u8.wrap ((BitVec.ofInt 8 (x.toNat : Int) ||| BitVec.ofInt 8 (y.toNat : Int)).toNat : Int) = _
  rw [BitVec.ofInt_natCast, BitVec.ofInt_natCast, BitVec.toNat_or, UInt8.toNat_or]
  have h1 := x.toNat_lt
  have h2 := y.toNat_lt
  have h3 := (x ||| y).toNat_lt
  rw [UInt8.toNat_or] at h3
  simp only [BitVec.toNat_ofNat]
  rw [Nat.mod_eq_of_lt (by omega), Nat.mod_eq_of_lt (by omega), IntKind.wrap_u8]
  omega

/-- a secret with the bits that all have in common -/
def changed (l : List UInt8) : List UInt8 := (l.set 0 (l.getD 0 0 &&& 248)).set 31 ((l.getD 31 0 &&& 63) ||| 64)
theorem changed_length (l : List UInt8) : (changed l).length = l.length := by simp [changed]

set_option maxRecDepth 100000 in
set_option maxHeartbeats 2000000 in
theorem Changed_any (s : ByteArray) (w : World) (hs : s.size = 32) :
    Calls Tryz.prog 108 #[.string s] w fun e w' => e = .returned (.string ⟨(changed s.data.toList).toArray⟩) ∧ Below w.heap.size w w' := by
  obtain ⟨cap, w3, hcv, ho, b3⟩ := bytesOf s w.heap.size w (Nat.le_refl _)
  replace ho := ho.at
  have hlen : s.data.toList.length = 32 := by rw [← hs]; simp
  rw [hs] at hcv
  generalize hL : s.data.toList = l at ho hlen
  replace hL : Hid (s.data.toList = l) := hL
  have c0 := ho.cell 0 (by omega)
  have f0 := ho.frozen 0 (by omega)
  have o1 := ho.set 0 (l.getD 0 0 &&& 248)
  have hl1 : (l.set 0 (l.getD 0 0 &&& 248)).length = 32 := by simp [hlen]
  have c31 := o1.cell 31 (by omega)
  have e31 : (l.set 0 (l.getD 0 0 &&& 248)).getD 31 0 = l.getD 31 0 := by simp [List.getD]
  rw [e31] at c31
  have f31 := o1.frozen 31 (by omega)
  have o2 := o1.set 31 ((l.getD 31 0 &&& 63) ||| 64)
  have a0 : bits BinOp.and IntKind.u8 ((l.getD 0 0).toNat : Int) 248 = ((l.getD 0 0 &&& 248).toNat : Int) := and_byte _ 248
  have a1 : bits BinOp.and IntKind.u8 ((l.getD 31 0).toNat : Int) 63 = ((l.getD 31 0 &&& 63).toNat : Int) := and_byte _ 63
  have a2 : bits BinOp.or IntKind.u8 ((l.getD 31 0 &&& 63).toNat : Int) 64 = (((l.getD 31 0 &&& 63) ||| 64).toNat : Int) := or_byte _ 64
  have hres : (l.set 0 (l.getD 0 0 &&& 248)).set 31 ((l.getD 31 0 &&& 63) ||| 64) = changed l := rfl
  rw [hres] at o2
  generalize l.getD 0 0 &&& 248 = y0 at *
  generalize l.getD 31 0 &&& 63 = y1 at *
  generalize y1 ||| 64 = y2 at *
  generalize l.getD 0 0 = x0 at *
  generalize l.getD 31 0 = x1 at *
  have hso := stringOfOwn (n := 32) o2 (by rw [changed_length, hlen])
  have bel : Below w.heap.size w ((w3.setCell ⟨w.heap.size, 0, none⟩ (.int .u8 (y0.toNat : Int))).setCell ⟨w.heap.size, 31, none⟩ (.int .u8 (y2.toNat : Int))) := (b3.setCell (p := ⟨w.heap.size, 0, none⟩) (Nat.le_refl _) _).setCell (p := ⟨w.heap.size, 31, none⟩) (Nat.le_refl _) _
  clear hres ho o1 o2
  go_enter Tryz.func108, Tryz.ntmps108
  go_wp2
  go_ret
  exact ⟨rfl, bel⟩

end Go.Proofs.YtclpbaokadfhhaaGreatDoor
