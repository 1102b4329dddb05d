/- Rows of bytes and words: make, convert, copy, store: over the program's types alone. -/
import Derived.Test.YtclpbaokadfhhaaProg
import Derived.Test.YtclpbaokadfhhaaMem
import Derived.Deep.OwnRows
import Derived.Laws.IdiomStrings
import Derived.Lib.BufferWrite
import Derived.Lib.SlBuf
import Derived.Deep.WholeRow
import Derived.Laws.CopyOwn
namespace Go.Proofs.Ytclpbaokadfhhaa
open Go.RowKit

def zeros (n : Nat) : List UInt8 := List.replicate n 0
theorem zeros_length (n : Nat) : (zeros n).length = n := by simp [zeros]
theorem made_zeros (n : Nat) : madeCells #[Value.int .u8 0] n = Bs (zeros n) := by
  apply Array.ext_getElem?
  intro i
  rw [Bs_get]
  by_cases h : i < n
  · simp [madeCells, zeros, h, Nat.mod_one]
  · simp [madeCells, zeros, h]
theorem Try.infoByte : (Try.prog.info? 5).map (fun i => (i.zero, i.size, i.bytes)) = some (some (.int .u8 0), 1, 1) := by kernel_rfl
/-- make([]byte, n) -/
theorem makeBytes (n : Nat) (h : n ≤ 281474976710656) (w : World) :
    (Instr.makeSlice 26 (.int .i64 (n : Int)) (.int .i64 (n : Int))).run Try.prog w = .ok (.slice (some ⟨w.heap.size, 0, none⟩) n n) (w.alloc (.cells (Bs (zeros n)) 5)) := by
  rw [← made_zeros]
  exact run_make_row' 26 5 _ 1 Try.underlying26 Try.infoByte rfl .i64 .i64 n (by omega) (by omega) w

/-- string(b), b a whole row of bytes -/
theorem stringOf {w : World} {b t cap : Nat} {l : List UInt8} (hb : Blk w b (Bs l) t) (n : Nat) (hn : n = l.length) :
    (convert 26 9 (.slice (some ⟨b, 0, none⟩) n cap)).run Try.prog w = .ok (.string ⟨l.toArray⟩) w := by
  subst hn
  refine run_convert_bytes_back w _ _ 5 _ cap l Try.underlying26 Try.underlying5 Try.underlying9 ?_
  intro j hj
  have : (⟨b, 0, none⟩ : Addr).add j = ⟨b, j, none⟩ := by unfold Addr.add; split <;> simp_all
  rw [this, hb.cell, Bs_get, List.getElem?_eq_getElem hj]; rfl

theorem copied (s : ByteArray) (N : Nat) : ((Bs (zeros N)).toList.take 0 ++ Lib.byteCells s.data.toList ++ (Bs (zeros N)).toList.drop (0 + s.size)).toArray = Bs (s.data.toList ++ zeros (N - s.size)) := by
  simp [Bs, Lib.byteCells, zeros]

theorem Try.infoByte1 : (Try.prog.info? 5).map (·.size) = some 1 := by kernel_rfl

theorem xor_byte (a c : UInt8) : bits .xor .u8 (a.toNat : Int) (c.toNat : Int) = ((a ^^^ c).toNat : Int) := by
  rw [u8_xor_nat _ _ a.toNat_lt c.toNat_lt, UInt8.toNat_xor]

/-- a whole row stored, as the walk opens it -/
theorem storeRow {w : World} {g t : Nat} {cs : Array Value} {l : List (BitVec 64)} (hb : Blk w g cs t) (hl : cs.size = l.length) :
    (storeCells ⟨g, 0, none⟩ (Ws l).toList).run Try.prog w = .ok () (w.setRow g (Ws l)) := by
  have h1 := Ws_one l
  have := run_storeCells_from (P := Try.prog) g t (Ws l).toList 0 cs w hb (by simp [Ws_size, hl]) (fun v hv => (Array.all_eq_true_iff_forall_mem.1 h1) v (by simpa using hv))
  rw [this]
  simp

end Go.Proofs.Ytclpbaokadfhhaa
