/- Several texts as one: Bv, Sha, Roots, Mem, Small, Row. -/
import Derived.WalkKit
import Derived.WalkSpells
import Derived.WalkLawsBesides
import Derived.Test.YtclpbaokadfhhaaGreatDoorProg
import Derived.Deep.OwnRows
import Derived.Laws.IdiomStrings
import Derived.Lib.BufferWrite
import Derived.Lib.SlBuf
import Derived.Deep.WholeRow
import Derived.Laws.CopyOwn
namespace Go.Proofs.YtclpbaokadfhhaaGreatDoor

/-- A word as the number that a slot holds. -/
def U (x : BitVec 64) : Int := x.toNat
theorem U_lo (x : BitVec 64) : 0 ≤ U x := by unfold U; omega
theorem U_hi (x : BitVec 64) : U x < 18446744073709551616 := by unfold U; have := x.isLt; omega
theorem U_wrap (x : BitVec 64) : IntKind.u64.wrap (U x) = U x := by
  rw [IntKind.wrap_u64]; have h1 := U_lo x; have h2 := U_hi x; omega
theorem U_add (x y : BitVec 64) : IntKind.u64.wrap (U x + U y) = U (x + y) := by
  rw [IntKind.wrap_u64]; unfold U; rw [BitVec.toNat_add]; simp
theorem U_xor (x y : BitVec 64) : bits .xor .u64 (U x) (U y) = U (x ^^^ y) := by
  unfold U; rw [bits_xor_u64_nat _ _ x.isLt y.isLt, BitVec.toNat_xor]
theorem U_and (x y : BitVec 64) : bits .and .u64 (U x) (U y) = U (x &&& y) := by
  unfold U; rw [bits_and_u64_nat _ _ x.isLt y.isLt, BitVec.toNat_and]
theorem U_or (x y : BitVec 64) : bits .or .u64 (U x) (U y) = U (x ||| y) := by
  unfold U; rw [bits_or_u64_nat _ _ x.isLt y.isLt, BitVec.toNat_or]
theorem U_shl (x : BitVec 64) (k : Nat) : IntKind.u64.wrap (U x * 2 ^ k) = U (x <<< k) := by
  rw [IntKind.wrap_u64]; unfold U; rw [BitVec.toNat_shiftLeft, Nat.shiftLeft_eq]
  simp
theorem U_shr (x : BitVec 64) (k : Nat) : U x / 2 ^ k = U (x >>> k) := by
  unfold U; rw [BitVec.toNat_ushiftRight, Nat.shiftRight_eq_div_pow]
  simp
theorem U_of (n : Nat) (h : n < 18446744073709551616) : (n : Int) = U (BitVec.ofNat 64 n) := by
  unfold U; rw [BitVec.toNat_ofNat, Nat.mod_eq_of_lt (by simpa using h)]
end Go.Proofs.YtclpbaokadfhhaaGreatDoor

namespace Go.Proofs.YtclpbaokadfhhaaGreatDoor
namespace Sha

def rot (x : BitVec 64) (n : Nat) : BitVec 64 := x <<< (64 - n) ||| x >>> n
def sm0 (x : BitVec 64) : BitVec 64 := rot x 1 ^^^ rot x 8 ^^^ x >>> 7
def sm1 (x : BitVec 64) : BitVec 64 := rot x 19 ^^^ rot x 61 ^^^ x >>> 6
def bg0 (x : BitVec 64) : BitVec 64 := rot x 28 ^^^ rot x 34 ^^^ rot x 39
def bg1 (x : BitVec 64) : BitVec 64 := rot x 14 ^^^ rot x 18 ^^^ rot x 41
def ch (e f g : BitVec 64) : BitVec 64 := e &&& f ||| ~~~e &&& g
def maj (a b c : BitVec 64) : BitVec 64 := a &&& b ||| a &&& c ||| b &&& c

end Sha
end Go.Proofs.YtclpbaokadfhhaaGreatDoor

namespace Go.Proofs.YtclpbaokadfhhaaGreatDoor
namespace Sha

/-- the first 64 bits behind the point of the cube roots of the first 80 primes -/
def roots : List Nat := [
  4794697086780616226, 8158064640168781261, 13096744586834688815, 16840607885511220156,
  4131703408338449720, 6480981068601479193, 10538285296894168987, 12329834152419229976,
  15566598209576043074, 1334009975649890238, 2608012711638119052, 6128411473006802146,
  8268148722764581231, 9286055187155687089, 11230858885718282805, 13951009754708518548,
  16472876342353939154, 17275323862435702243, 1135362057144423861, 2597628984639134821,
  3308224258029322869, 5365058923640841347, 6679025012923562964, 8573033837759648693,
  10970295158949994411, 12119686244451234320, 12683024718118986047, 13788192230050041572,
  14330467153632333762, 15395433587784984357, 489312712824947311, 1452737877330783856,
  2861767655752347644, 3322285676063803686, 5560940570517711597, 5996557281743188959,
  7280758554555802590, 8532644243296465576, 9350256976987008742, 10552545826968843579,
  11727347734174303076, 12113106623233404929, 14000437183269869457, 14369950271660146224,
  15101387698204529176, 15463397548674623760, 17586052441742319658, 1182934255886127544,
  1847814050463011016, 2177327727835720531, 2830643537854262169, 3796741975233480872,
  4115178125766777443, 5681478168544905931, 6601373596472566643, 7507060721942968483,
  8399075790359081724, 8693463985226723168, 9568029438360202098, 10144078919501101548,
  10430055236837252648, 11840083180663258601, 13761210420658862357, 14299343276471374635,
  14566680578165727644, 15097957966210449927, 16922976911328602910, 17689382322260857208,
  500013540394364858, 748580250866718886, 1242879168328830382, 1977374033974150939,
  2944078676154940804, 3659926193048069267, 4368137639120453308, 4836135668995329356,
  5532061633213252278, 6448918945643986474, 6902733635092675308, 7801388544844847127]
def K (i : Nat) : BitVec 64 := BitVec.ofNat 64 (roots.getD i 0)
theorem roots_lt : ∀ i, i < 80 → roots.getD i 0 < 18446744073709551616 := by decide
theorem K_U (i : Nat) (h : i < 80) : (roots.map fun n : Nat => (n : Int)).getD i 0 = U (K i) := by
  rw [K, ← U_of _ (roots_lt i h)]
  have h2 : i < roots.length := h
  simp [List.getD, List.getElem?_eq_getElem h2]

end Sha
end Go.Proofs.YtclpbaokadfhhaaGreatDoor

namespace Go.Proofs.YtclpbaokadfhhaaGreatDoor
open Go.RowKit

theorem ret_int {k : IntKind} {a b : Int} (h : a = b) : Ending.returned (.int k a) = .returned (.int k b) := by rw [h]
theorem int_eq {k : IntKind} {a b : Int} (h : a = b) : Value.int k a = .int k b := by rw [h]

/-- a row of bytes as cells -/
def Bs (l : List UInt8) : Array Value := (l.map fun x => Value.int .u8 (x.toNat : Int)).toArray
/-- a row of words as cells -/
def Ws (l : List (BitVec 64)) : Array Value := (l.map fun x => Value.int .u64 (U x)).toArray

theorem Bs_size (l : List UInt8) : (Bs l).size = l.length := by simp [Bs]
theorem Ws_size (l : List (BitVec 64)) : (Ws l).size = l.length := by simp [Ws]
theorem Bs_get (l : List UInt8) (i : Nat) : (Bs l)[i]? = l[i]?.map fun x => Value.int .u8 (x.toNat : Int) := by simp [Bs]
theorem Ws_get (l : List (BitVec 64)) (i : Nat) : (Ws l)[i]? = l[i]?.map fun x => Value.int .u64 (U x) := by simp [Ws]
theorem Bs_at (l : List UInt8) (i : Nat) (h : i < l.length) : (Bs l)[i]? = some (.int .u8 ((l.getD i 0).toNat : Int)) := by
  rw [Bs_get, List.getElem?_eq_getElem h]; simp [List.getD, List.getElem?_eq_getElem h]
theorem Ws_at (l : List (BitVec 64)) (i : Nat) (h : i < l.length) : (Ws l)[i]? = some (.int .u64 (U (l.getD i 0))) := by
  rw [Ws_get, List.getElem?_eq_getElem h]; simp [List.getD, List.getElem?_eq_getElem h]
theorem Bs_set (l : List UInt8) (i : Nat) (x : UInt8) : (Bs l).setIfInBounds i (.int .u8 (x.toNat : Int)) = Bs (l.set i x) := by
  simp [Bs, List.map_set]
theorem Ws_set (l : List (BitVec 64)) (i : Nat) (x : BitVec 64) : (Ws l).setIfInBounds i (.int .u64 (U x)) = Ws (l.set i x) := by
  simp [Ws, List.map_set]

/-- block b of the world is this row, no cell of it frozen -/
def Blk (w : World) (b : Nat) (cs : Array Value) (t : TypeId) : Prop := w.heap[b]? = some (.cells cs t (0, 0))

theorem Blk.cell {w : World} {b : Nat} {cs : Array Value} {t : TypeId} (h : Blk w b cs t) (i : Nat) : w.cell? ⟨b, i, none⟩ = cs[i]? := cell_of_row w b i cs t (0, 0) h
theorem Blk.frozen {w : World} {b : Nat} {cs : Array Value} {t : TypeId} (h : Blk w b cs t) (i : Nat) : w.frozen? ⟨b, i, none⟩ = false := frozen_of_row w b i cs t h
theorem Blk.row {w : World} {b : Nat} {cs : Array Value} {t : TypeId} (h : Blk w b cs t) (cs' : Array Value) : Blk (w.setRow b cs') b cs' t := setRow_heap w b cs cs' t (0, 0) h
theorem Blk.other {w : World} {b b' : Nat} {cs : Array Value} {t : TypeId} (h : Blk w b cs t) (hb : b ≠ b') (cs' : Array Value) : Blk (w.setRow b' cs') b cs t := by
  unfold Blk; rw [setRow_other w b' b cs' hb]; exact h
theorem Blk.set {w : World} {b : Nat} {cs : Array Value} {t : TypeId} (h : Blk w b cs t) (i : Nat) (v : Value) : w.setCell ⟨b, i, none⟩ v = w.setRow b (cs.setIfInBounds i v) :=
  setCell_eq_setRow w b i cs t (0, 0) v h
theorem Blk.lt {w : World} {b : Nat} {cs : Array Value} {t : TypeId} (h : Blk w b cs t) : b < w.heap.size := by
  unfold Blk at h
  by_cases hb : b < w.heap.size
  · exact hb
  · rw [Array.getElem?_eq_none (by omega)] at h; cases h
theorem Blk.below {w w' : World} {B b : Nat} {cs : Array Value} {t : TypeId} (h : Blk w b cs t) (hw : Below B w w') (hb : b < B) : Blk w' b cs t := by
  unfold Blk; rw [hw.block b hb]; exact h
theorem Blk.drew {w : World} {b : Nat} {cs : Array Value} {t : TypeId} (h : Blk w b cs t) : Blk w.drew b cs t := h
theorem Blk.alloc {w : World} {b : Nat} {cs : Array Value} {t : TypeId} (h : Blk w b cs t) (o : Obj) : Blk (w.alloc o) b cs t := by
  unfold Blk; rw [Below.heap_alloc w o b h.lt]; exact h
theorem Blk.drewN {w : World} {b : Nat} {cs : Array Value} {t : TypeId} (h : Blk w b cs t) (n : Nat) : Blk (w.drewN n) b cs t := h
theorem Blk.keep {w w' : World} {b : Nat} {cs : Array Value} {t : TypeId} (h : Blk w b cs t) (hw : Below w.heap.size w w') : Blk w' b cs t := h.below hw h.lt
theorem Blk.new (w : World) (cs : Array Value) (t : TypeId) : Blk (w.alloc (.cells cs t)) w.heap.size cs t := heap_alloc_new w _

theorem cell_set_off (w : World) (b i j : Nat) (v : Value) (h : i ≠ j) : (w.setCell ⟨b, i, none⟩ v).cell? ⟨b, j, none⟩ = w.cell? ⟨b, j, none⟩ :=
  World.cell?_setCell_other _ _ _ _ (fun e => h (by injection e))

theorem Ws_one (l : List (BitVec 64)) : (Ws l).all (·.oneCell') = true := by
  rw [Array.all_eq_true_iff_forall_mem]
  intro v hv
  simp only [Ws, List.mem_toArray, List.mem_map] at hv
  obtain ⟨x, _, rfl⟩ := hv
  rfl

/-- how many elements a slot's slice has -/
def sliceLen : Value → Nat | .slice _ m _ => m | _ => 0

end Go.Proofs.YtclpbaokadfhhaaGreatDoor

namespace Go.Proofs.YtclpbaokadfhhaaGreatDoor
open Go.RowKit

theorem and63 (n : Nat) (h : n < 64) : bits BinOp.and IntKind.u64 (IntKind.u64.wrap (-(n : Int))) 63 = ((64 - n) % 64 : Nat) := by
  by_cases h0 : n = 0
  · subst h0; decide
  · have e : IntKind.u64.wrap (-(n : Int)) = ((18446744073709551616 - n : Nat) : Int) := by
      rw [IntKind.wrap_u64]; omega
    rw [e, show (63 : Int) = ((63 : Nat) : Int) from rfl, bits_and_u64_nat _ _ (by omega) (by omega)]
    have h63 : (63 : Nat) = 2 ^ 6 - 1 := rfl
    rw [h63, Nat.and_two_pow_sub_one_eq_mod]
    congr 1
    omega

set_option maxRecDepth 100000 in
set_option maxHeartbeats 400000 in
theorem right_any (x : BitVec 64) (m : Int) (w : World) (h0 : 0 < m) (hn : m < 64) :
    Calls Tryz.prog 241 #[.int .u64 (U x), .int .i64 m] w fun e w' => e = .returned (.int .u64 (U (Sha.rot x m.toNat))) ∧ w' = w := by
  obtain ⟨n, rfl⟩ := Int.eq_ofNat_of_zero_le (by omega : 0 ≤ m)
  rw [Int.toNat_natCast]
  have e1 := and63 n (by omega)
  rw [Nat.mod_eq_of_lt (by omega : 64 - n < 64)] at e1
  have e2 : ((64 - n : Nat) : Int) = 64 - (n : Int) := by omega
  rw [e2] at e1
  have hend : bits BinOp.or IntKind.u64 (IntKind.u64.wrap (U x * 2 ^ (64 - n))) (U x / 2 ^ (64 - (64 - n))) = U (Sha.rot x n) := by
    rw [show 64 - (64 - n) = n by omega, U_shl, U_shr, U_or]; rfl
  have H := hend; clear hend
  have HH : Hid (bits BinOp.or IntKind.u64 (IntKind.u64.wrap (U x * 2 ^ (64 - n))) (U x / 2 ^ (64 - (64 - n))) = U (Sha.rot x n)) := H
  clear H
  go_enter Tryz.func241, Tryz.ntmps241
  go_wp2
  go_ret
  exact ⟨ret_int HH.out, rfl⟩

theorem U_shr' (x : BitVec 64) (k : Int) (n : Nat) (h : (2 : Int) ^ n = k) : U x / k = U (x >>> n) := by rw [← h, U_shr]

set_option maxRecDepth 100000 in
set_option maxHeartbeats 400000 in
theorem smallZero_any (x : BitVec 64) (w : World) :
    Calls Tryz.prog 212 #[.int .u64 (U x)] w fun e w' => e = .returned (.int .u64 (U (Sha.sm0 x))) ∧ w' = w := by
  go_enter Tryz.func212, Tryz.ntmps212
  go_wp2_with (go_at_call 241; refine (right_any _ _ _ (by decide) (by decide)).mono ?_; rintro e w' ⟨rfl, rfl⟩)
  go_ret
  exact ⟨ret_int (by rw [U_xor, U_shr' x _ 7 (by decide), U_xor]; rfl), rfl⟩

set_option maxRecDepth 100000 in
set_option maxHeartbeats 400000 in
theorem smallOne_any (x : BitVec 64) (w : World) :
    Calls Tryz.prog 211 #[.int .u64 (U x)] w fun e w' => e = .returned (.int .u64 (U (Sha.sm1 x))) ∧ w' = w := by
  go_enter Tryz.func211, Tryz.ntmps211
  go_wp2_with (go_at_call 241; refine (right_any _ _ _ (by decide) (by decide)).mono ?_; rintro e w' ⟨rfl, rfl⟩)
  go_ret
  exact ⟨ret_int (by rw [U_xor, U_shr' x _ 6 (by decide), U_xor]; rfl), rfl⟩

set_option maxRecDepth 100000 in
set_option maxHeartbeats 400000 in
theorem bigZero_any (x : BitVec 64) (w : World) :
    Calls Tryz.prog 208 #[.int .u64 (U x)] w fun e w' => e = .returned (.int .u64 (U (Sha.bg0 x))) ∧ w' = w := by
  go_enter Tryz.func208, Tryz.ntmps208
  go_wp2_with (go_at_call 241; refine (right_any _ _ _ (by decide) (by decide)).mono ?_; rintro e w' ⟨rfl, rfl⟩)
  go_ret
  exact ⟨ret_int (by rw [U_xor, U_xor]; rfl), rfl⟩

set_option maxRecDepth 100000 in
set_option maxHeartbeats 400000 in
theorem bigOne_any (x : BitVec 64) (w : World) :
    Calls Tryz.prog 206 #[.int .u64 (U x)] w fun e w' => e = .returned (.int .u64 (U (Sha.bg1 x))) ∧ w' = w := by
  go_enter Tryz.func206, Tryz.ntmps206
  go_wp2_with (go_at_call 241; refine (right_any _ _ _ (by decide) (by decide)).mono ?_; rintro e w' ⟨rfl, rfl⟩)
  go_ret
  exact ⟨ret_int (by rw [U_xor, U_xor]; rfl), rfl⟩

set_option maxRecDepth 100000 in
set_option maxHeartbeats 400000 in
theorem majority_any (x y z : BitVec 64) (w : World) :
    Calls Tryz.prog 209 #[.int .u64 (U x), .int .u64 (U y), .int .u64 (U z)] w fun e w' => e = .returned (.int .u64 (U (Sha.maj x y z))) ∧ w' = w := by
  go_enter Tryz.func209, Tryz.ntmps209
  go_wp2
  go_ret
  exact ⟨ret_int (by rw [U_and, U_and, U_or, U_and, U_or]; rfl), rfl⟩

theorem U_max : IntKind.u64.max = U (BitVec.allOnes 64) := by unfold U; rw [BitVec.toNat_allOnes]; decide
theorem U_not (x : BitVec 64) : BitVec.allOnes 64 ^^^ x = ~~~x := BitVec.allOnes_xor

set_option maxRecDepth 100000 in
set_option maxHeartbeats 400000 in
theorem choose_any (x y z : BitVec 64) (w : World) :
    Calls Tryz.prog 207 #[.int .u64 (U x), .int .u64 (U y), .int .u64 (U z)] w fun e w' => e = .returned (.int .u64 (U (Sha.ch x y z))) ∧ w' = w := by
  go_enter Tryz.func207, Tryz.ntmps207
  go_wp2
  go_ret
  exact ⟨ret_int (by rw [U_max, U_xor, U_and, U_and, U_or, U_not]; rfl), rfl⟩

end Go.Proofs.YtclpbaokadfhhaaGreatDoor

namespace Go.Proofs.YtclpbaokadfhhaaGreatDoor
open Go.RowKit

def zeros (n : Nat) : List UInt8 := List.replicate n 0
theorem zeros_length (n : Nat) : (zeros n).length = n := by simp [zeros]
theorem made_zeros (n : Nat) : madeCells #[Value.int .u8 0] n = Bs (zeros n) := by
  apply Array.ext_getElem?
  intro i
  rw [Bs_get]
  by_cases h : i < n
  · simp [madeCells, zeros, h, Nat.mod_one]
  · simp [madeCells, zeros, h]
theorem Tryz.infoByte : (Tryz.prog.info? 5).map (fun i => (i.zero, i.size, i.bytes)) = some (some (.int .u8 0), 1, 1) := by kernel_rfl
/-- make([]byte, n) -/
theorem makeBytes (n : Nat) (h : n ≤ 281474976710656) (w : World) :
    (Instr.makeSlice 55 (.int .i64 (n : Int)) (.int .i64 (n : Int))).run Tryz.prog w = .ok (.slice (some ⟨w.heap.size, 0, none⟩) n n) (w.alloc (.cells (Bs (zeros n)) 5)) := by
  rw [← made_zeros]
  exact run_make_row' 55 5 _ 1 Tryz.underlying55 Tryz.infoByte rfl .i64 .i64 n (by omega) (by omega) w

/-- string(b), b a whole row of bytes -/
theorem stringOf {w : World} {b t cap : Nat} {l : List UInt8} (hb : Blk w b (Bs l) t) (n : Nat) (hn : n = l.length) :
    (convert 55 9 (.slice (some ⟨b, 0, none⟩) n cap)).run Tryz.prog w = .ok (.string ⟨l.toArray⟩) w := by
  subst hn
  refine run_convert_bytes_back w _ _ 5 _ cap l Tryz.underlying55 Tryz.underlying5 Tryz.underlying9 ?_
  intro j hj
  have : (⟨b, 0, none⟩ : Addr).add j = ⟨b, j, none⟩ := by unfold Addr.add; split <;> simp_all
  rw [this, hb.cell, Bs_get, List.getElem?_eq_getElem hj]; rfl

theorem copied (s : ByteArray) (N : Nat) : ((Bs (zeros N)).toList.take 0 ++ Lib.byteCells s.data.toList ++ (Bs (zeros N)).toList.drop (0 + s.size)).toArray = Bs (s.data.toList ++ zeros (N - s.size)) := by
  simp [Bs, Lib.byteCells, zeros]

theorem Tryz.infoByte1 : (Tryz.prog.info? 5).map (·.size) = some 1 := by kernel_rfl

theorem xor_byte (a c : UInt8) : bits .xor .u8 (a.toNat : Int) (c.toNat : Int) = ((a ^^^ c).toNat : Int) := by
  rw [u8_xor_nat _ _ a.toNat_lt c.toNat_lt, UInt8.toNat_xor]

/-- a whole row stored, as the walk opens it -/
theorem storeRow {w : World} {g t : Nat} {cs : Array Value} {l : List (BitVec 64)} (hb : Blk w g cs t) (hl : cs.size = l.length) :
    (storeCells ⟨g, 0, none⟩ (Ws l).toList).run Tryz.prog w = .ok () (w.setRow g (Ws l)) := by
  have h1 := Ws_one l
  have := run_storeCells_from (P := Tryz.prog) g t (Ws l).toList 0 cs w hb (by simp [Ws_size, hl]) (fun v hv => (Array.all_eq_true_iff_forall_mem.1 h1) v (by simpa using hv))
  rw [this]
  simp

end Go.Proofs.YtclpbaokadfhhaaGreatDoor
