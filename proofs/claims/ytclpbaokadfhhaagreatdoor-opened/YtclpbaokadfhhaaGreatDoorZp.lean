/- Several texts as one: CSmall, CPiece, CTag. -/
import Derived.Test.YtclpbaokadfhhaaGreatDoorZo
import Derived.Test.YtclpbaokadfhhaaGreatDoorShelf
import Derived.Deep.RegionWith
import Derived.Test.YtclpbaokadfhhaaGreatDoorZe
namespace Go.Proofs.YtclpbaokadfhhaaGreatDoor
open Go.RowKit

namespace Cc
def fillSize (n : Nat) : Nat := (16 - n % 16) % 16
def fill (s : ByteArray) : ByteArray := s ++ ⟨(List.replicate (fillSize s.size) 0).toArray⟩
theorem fill_size (s : ByteArray) : (fill s).size = s.size + fillSize s.size := by
  unfold fill; rw [ByteArray.size_append]; congr 1; show (List.replicate (fillSize s.size) (0 : UInt8)).toArray.size = _; simp
theorem fill_mod (s : ByteArray) : (fill s).size % 16 = 0 := by rw [fill_size]; unfold fillSize; omega
def countL (n : Nat) : List UInt8 := putL (zeros 8) 0 (BitVec.ofNat 64 n) 8
def count (s : ByteArray) : ByteArray := ⟨(countL s.size).toArray⟩
theorem countL_length (n : Nat) : (countL n).length = 8 := by unfold countL; rw [putL_length]; rfl
theorem count_size (s : ByteArray) : (count s).size = 8 := by show (countL s.size).toArray.size = 8; simp [countL_length]
end Cc

set_option maxRecDepth 100000 in
set_option maxHeartbeats 1000000 in
theorem fill_any (s : ByteArray) (w : World) (hs : s.size ≤ 1000000) :
    Calls Tryz.prog 180 #[.string s] w fun e w' => e = .returned (.string (Cc.fill s)) ∧ Below w.heap.size w w' := by
  have hR := Tryz.strings_Repeat ⟨#[0]⟩ (Cc.fillSize s.size) w (by unfold Cc.fillSize; omega) (by show 1 * _ ≤ _; unfold Cc.fillSize; omega)
  rw [show Lib.repeatL (⟨#[0]⟩ : ByteArray).data.toList (Cc.fillSize s.size) = List.replicate (Cc.fillSize s.size) 0 by
    have := Lib.repeatL_replicate 0 1 (Cc.fillSize s.size)
    rw [Nat.mul_one] at this; exact this] at hR
  have HR : Hid (Calls Tryz.prog 225 #[.string ⟨#[0]⟩, .int .i64 (Cc.fillSize s.size : Nat)] w fun e w' => e = .returned (.string ⟨(List.replicate (Cc.fillSize s.size) 0).toArray⟩) ∧ Below w.heap.size w w') := hR
  clear hR
  have HF : Hid (Cc.fill s = s ++ ⟨(List.replicate (Cc.fillSize s.size) 0).toArray⟩) := by
    have : Cc.fill s = s ++ ⟨(List.replicate (Cc.fillSize s.size) 0).toArray⟩ := rfl
    exact this
  have hn : ((16 : Int) - (s.size : Int) % 16) % 16 = (Cc.fillSize s.size : Nat) := by unfold Cc.fillSize; omega
  have hle : Cc.fillSize s.size ≤ 16 := by unfold Cc.fillSize; omega
  generalize Cc.fill s = R at HF ⊢
  generalize Cc.fillSize s.size = n at HR HF hn hle
  go_enter Tryz.func180, Tryz.ntmps180
  go_wp2_with fail
  refine HR.out.mono ?_
  rintro e w2 ⟨rfl, hb2⟩
  have hz : (⟨(List.replicate n (0 : UInt8)).toArray⟩ : ByteArray).size = n := by show (List.replicate n (0 : UInt8)).toArray.size = n; simp
  generalize (⟨(List.replicate n (0 : UInt8)).toArray⟩ : ByteArray) = z at hz HF ⊢
  go_wp2
  go_ret
  exact ⟨by rw [show R = _ from HF.out]; rfl, hb2⟩

theorem zero8b (w : World) : Sem.run Tryz.prog (zeroValue 217) w = .ok (.agg (Bs (zeros 8))) w := by kernel_rfl

set_option maxRecDepth 100000 in
set_option maxHeartbeats 1000000 in
theorem count_any (s : ByteArray) (w : World) (hs : s.size ≤ 1000000) :
    Calls Tryz.prog 181 #[.string s] w fun e w' => e = .returned (.string (Cc.count s)) ∧ Below w.heap.size w w' := by
  have hz := zero8b
  have hb0 := Blk.new w (Bs (zeros 8)) 217
  have hbel0 : Below w.heap.size w (w.alloc (.cells (Bs (zeros 8)) 217)) := (Below.refl _ _).alloc (Nat.le_refl _) _
  have HX : Hid ((s.size : Int) = U (BitVec.ofNat 64 s.size)) := by
    have : (s.size : Int) = U (BitVec.ofNat 64 s.size) := U_of s.size (by omega)
    exact this
  have HC : Hid (Cc.count s = ⟨(Cc.putL (zeros 8) 0 (BitVec.ofNat 64 s.size) 8).toArray⟩) := by
    have : Cc.count s = ⟨(Cc.putL (zeros 8) 0 (BitVec.ofNat 64 s.size) 8).toArray⟩ := rfl
    exact this
  generalize Cc.count s = R at HC ⊢
  generalize BitVec.ofNat 64 s.size = x at HX HC
  have HB : Hid (∀ k : Nat, (s.size : Int) / 2 ^ (8 * k) % 256 = ((Cc.byteL x k).toNat : Int)) := by
    have : ∀ k : Nat, (s.size : Int) / 2 ^ (8 * k) % 256 = ((Cc.byteL x k).toNat : Int) := fun k => by rw [HX.out, Cc.byteL_eq]
    exact this
  go_enter Tryz.func181, Tryz.ntmps181
  go_wp2
  generalize w.alloc (.cells (Bs (zeros 8)) 217) = w1 at hb0 hbel0 ⊢
  go_loopw [5] (fun i wr => ∃ k : Nat, k ≤ 8 ∧ i = .int .i64 k ∧ Blk wr w.heap.size (Bs (Cc.putL (zeros 8) 0 x k)) 217 ∧ Below w.heap.size w wr) (fun i _ => 8 - (intOf i).toNat)
  case atStart => exact ⟨0, by omega, rfl, hb0, hbel0⟩
  case round =>
    clear hb0 hbel0 w1
    obtain ⟨k, hk, rfl, hb, hbel⟩ := hrel
    by_cases hlt : k < 8
    · have hc := hb.cell k
      rw [Bs_at _ _ (by rw [Cc.putL_length]; exact hlt)] at hc
      have hf := hb.frozen k
      have i1 : (k : Int) < 8 := by omega
      go_wp2
      go_roundw
      case rel =>
        refine ⟨k + 1, by omega, by go_num, ?_, hbel.setCell (Nat.le_refl _) _⟩
        rw [hb.set, HB.out, Bs_set]
        have := hb.row (Bs ((Cc.putL (zeros 8) 0 x k).set k (Cc.byteL x k)))
        rw [show Cc.putL (zeros 8) 0 x (k + 1) = (Cc.putL (zeros 8) 0 x k).set (0 + k) (Cc.byteL x k) from rfl, Nat.zero_add]
        exact this
      case measure => simp [intOf]; omega
    · have hk8 : k = 8 := by omega
      subst hk8
      have hlR : (Cc.putL (zeros 8) 0 x 8).length = 8 := by rw [Cc.putL_length]; rfl
      generalize Cc.putL (zeros 8) 0 x 8 = L at hb HC hlR
      have hso := stringOf (cap := 8) hb 8 hlR.symm
      go_wp2
      go_ret
      exact ⟨by rw [show R = _ from HC.out]; rfl, hbel⟩

namespace Cc
def diff (f g : Nat → UInt8) : Nat → UInt8
  | 0 => 0
  | k + 1 => diff f g k ||| (f k ^^^ g k)
theorem diff_zero (f g : Nat → UInt8) (n : Nat) : diff f g n = 0 ↔ ∀ i, i < n → f i = g i := by
  induction n with
  | zero => exact ⟨fun _ i h => by omega, fun _ => rfl⟩
  | succ n ih =>
    rw [diff]
    constructor
    · intro h i hi
      have h1 : diff f g n = 0 ∧ f n ^^^ g n = 0 := by
        have := h
        rw [← UInt8.toBitVec_inj] at this
        simp only [UInt8.toBitVec_or, UInt8.toBitVec_ofNat, BitVec.or_eq_zero_iff] at this
        exact ⟨by rw [← UInt8.toBitVec_inj]; simpa using this.1, by rw [← UInt8.toBitVec_inj]; simpa using this.2⟩
      by_cases e : i = n
      · subst e; exact UInt8.xor_eq_zero_iff.1 h1.2
      · exact ih.1 h1.1 i (by omega)
    · intro h
      rw [ih.2 fun i hi => h i (by omega), h n (by omega)]
      simp
end Cc

theorem or_byteC (a c : UInt8) : bits .or .u8 (a.toNat : Int) (c.toNat : Int) = ((a ||| c).toNat : Int) := by
  rw [u8_or_nat _ _ a.toNat_lt c.toNat_lt, UInt8.toNat_or]

def sameB (a b : ByteArray) : Bool := decide (a = b)
theorem same_eq (a b : ByteArray) (ha : a.size = 16) (hb : b.size = 16) : (decide (((Cc.diff (fun i => a.data.toList.getD i 0) (fun i => b.data.toList.getD i 0) 16).toNat : Int) = 0)) = sameB a b := by
  unfold sameB
  congr 1
  apply propext
  constructor
  · intro h
    have h0 : Cc.diff (fun i => a.data.toList.getD i 0) (fun i => b.data.toList.getD i 0) 16 = 0 := by
      rw [← UInt8.toNat_inj]; simpa using h
    have h1 := (Cc.diff_zero _ _ _).1 h0
    apply ByteArray.ext
    apply Array.ext
    · show a.size = b.size; omega
    · intro i h2 h3
      have := h1 i (by rw [← ha]; exact h2)
      simp only [List.getD_eq_getElem?_getD] at this
      have e1 : a.data.toList[i]? = some a.data[i] := by simp
      have e2 : b.data.toList[i]? = some b.data[i] := by simp
      rw [e1, e2] at this
      simpa using this
  · intro h
    subst h
    rw [(Cc.diff_zero _ _ _).2 fun i _ => rfl]; rfl

set_option maxRecDepth 100000 in
set_option maxHeartbeats 1000000 in
theorem csame_any (a b : ByteArray) (w : World) (ha : a.size = 16) (hb : b.size = 16) :
    Calls Tryz.prog 127 #[.string a, .string b] w fun e w' => e = .returned (.bool (sameB a b)) ∧ Below w.heap.size w w' := by
  have HS : Hid ((decide (((Cc.diff (fun i => a.data.toList.getD i 0) (fun i => b.data.toList.getD i 0) 16).toNat : Int) = 0)) = sameB a b) := same_eq a b ha hb
  generalize sameB a b = R at HS ⊢
  have HF : Hid (∀ i (h : i < a.size), a[i] = a.data.toList.getD i 0) := fun i h => byte_at a i h
  have HG : Hid (∀ i (h : i < b.size), b[i] = b.data.toList.getD i 0) := fun i h => byte_at b i h
  obtain ⟨f, hf⟩ : ∃ f : Nat → UInt8, f = fun i => a.data.toList.getD i 0 := ⟨_, rfl⟩
  obtain ⟨g, hg⟩ : ∃ g : Nat → UInt8, g = fun i => b.data.toList.getD i 0 := ⟨_, rfl⟩
  have HF' : Hid (∀ i (h : i < a.size), a[i] = f i) := fun i h => by rw [hf]; exact HF.out i h
  have HG' : Hid (∀ i (h : i < b.size), b[i] = g i) := fun i h => by rw [hg]; exact HG.out i h
  rw [← hf, ← hg] at HS
  clear HF HG hf hg
  go_enter Tryz.func127, Tryz.ntmps127
  go_wp2
  go_loopw [5, 7] (fun d i wr => ∃ k : Nat, k ≤ 16 ∧ i = .int .i64 k ∧ d = .int .u8 ((Cc.diff f g k).toNat : Int) ∧ Below w.heap.size w wr) (fun _ i _ => 16 - (intOf i).toNat)
  case atStart => exact ⟨0, by omega, rfl, rfl, Below.refl _ _⟩
  case round =>
    obtain ⟨k, hk, rfl, rfl, hbel⟩ := hrel
    by_cases hlt : k < 16
    · have k1 : k < a.size := by omega
      have k2 : k < b.size := by omega
      have h1 := HF'.out k k1
      have h2 := HG'.out k k2
      have i1 : (k : Int) < 16 := by omega
      have i2 : (k : Int) < a.size := by omega
      have i3 : (k : Int) < b.size := by omega
      go_wp2_with fail
      go_quiet (fail)
      go_wp2
      go_roundw
      case rel => exact ⟨k + 1, by omega, by go_num, int_eq (by rw [xor_byte, or_byteC]; rfl), below_drewN hbel _⟩
      case measure => simp [intOf]; omega
    · have hk16 : k = 16 := by omega
      subst hk16
      go_wp2
      go_ret
      exact ⟨by rw [← show _ = R from HS.out]; rfl, hbel⟩

end Go.Proofs.YtclpbaokadfhhaaGreatDoor

namespace Go.Proofs.YtclpbaokadfhhaaGreatDoor
open Go.RowKit

namespace Cc
def pieceL (l : List UInt8) : List UInt8 := if l.length = 16 then l else (l ++ zeros (16 - l.length)).set l.length 1
/-- the words of a row of 16 bytes, as a number -/
def numL (l : List UInt8) (above : BitVec 64) : List (BitVec 64) := numberOf (wdL (fun i => l.getD i 0) 8) (wdL (fun i => l.getD (8 + i) 0) 8) above
def piece (l : List UInt8) : List (BitVec 64) := numL (pieceL l) (if l.length = 16 then 1 else 0)
end Cc

theorem halves_row (b t : Nat) (l : List UInt8) (w : World) (hb : Blk w b (Bs l) t) (hl : l.length = 16) :
    Calls Tryz.prog 219 #[.slice (some ⟨b, 0, none⟩) 16 16] w fun e w' => e = .returned (.agg (Ws [Cc.wdL (fun i => l.getD i 0) 8, Cc.wdL (fun i => l.getD (8 + i) 0) 8])) ∧ Below w.heap.size w w' :=
  halves_any b 0 16 16 (fun i => l.getD i 0) w (by omega) (by omega) (fun i hi => by rw [Nat.zero_add, hb.cell, Bs_at _ _ (by omega)])

set_option maxRecDepth 100000 in
set_option maxHeartbeats 1000000 in
theorem piece_any (s : ByteArray) (w : World) (hs : s.size ≤ 16) :
    Calls Tryz.prog 222 #[.string s] w fun e w' => e = .returned (.agg (Ws (Cc.piece s.data.toList))) ∧ Below w.heap.size w w' := by
  have hlen : s.data.toList.length = s.size := by simp
  have hz := zero16b
  have hcp := Lib.run_copy_row_string (P := Tryz.prog) ((w.alloc (.cells (Ws [0, 0, 0, 0, 0]) 208)).alloc (.cells (Bs (zeros 16)) 179)) 55 9 3 5 (w.heap.size + 1) 0 16 16 s (Bs (zeros 16)) 179 Tryz.underlying55 Tryz.infoByte1 (heap_alloc2_new w _ _) (by omega) (by rw [Bs_size, zeros_length]; omega)
  have hra := World.setRow_alloc_new (w.alloc (.cells (Ws [0, 0, 0, 0, 0]) 208)) (Bs (zeros 16)) (Bs (s.data.toList ++ zeros (16 - s.size))) 179
  rw [show (w.alloc (.cells (Ws [0, 0, 0, 0, 0]) 208)).heap.size = w.heap.size + 1 by simp] at hra
  rw [copied s 16, hra, ← Z5] at hcp
  clear hra
  have hL : (s.data.toList ++ zeros (16 - s.size)).length = 16 := by simp [zeros_length]; omega
  by_cases h16 : s.size = 16
  · have HP : Hid (Cc.piece s.data.toList = Cc.numL (s.data.toList ++ zeros (16 - s.size)) 1) := by
      have : Cc.piece s.data.toList = Cc.numL (s.data.toList ++ zeros (16 - s.size)) 1 := by
        unfold Cc.piece Cc.pieceL; rw [if_pos (by omega), if_pos (by omega), h16]; simp [zeros]
      exact this
    generalize s.data.toList ++ zeros (16 - s.size) = L0 at hcp hL HP
    generalize Cc.piece s.data.toList = R at HP ⊢
    have hb0 : Blk ((w.alloc (.cells #[.int .u64 0, .int .u64 0, .int .u64 0, .int .u64 0, .int .u64 0] 208)).alloc (.cells (Bs L0) 179)) w.heap.size (Ws [0, 0, 0, 0, 0]) 208 := heap_alloc2_old w _ _
    have hb1 : Blk ((w.alloc (.cells #[.int .u64 0, .int .u64 0, .int .u64 0, .int .u64 0, .int .u64 0] 208)).alloc (.cells (Bs L0) 179)) (w.heap.size + 1) (Bs L0) 179 := heap_alloc2_new w _ _
    have hbel : Below w.heap.size w ((w.alloc (.cells #[.int .u64 0, .int .u64 0, .int .u64 0, .int .u64 0, .int .u64 0] 208)).alloc (.cells (Bs L0) 179)) := ((Below.refl _ _).alloc (Nat.le_refl _) _).alloc (by simp) _
    have HH := halves_row (w.heap.size + 1) 179 L0 _ hb1 hL
    have HH' : Hid (Calls Tryz.prog 219 #[.slice (some ⟨w.heap.size + 1, 0, none⟩) 16 16] ((w.alloc (.cells #[.int .u64 0, .int .u64 0, .int .u64 0, .int .u64 0, .int .u64 0] 208)).alloc (.cells (Bs L0) 179)) fun e w' => e = .returned (.agg (Ws [Cc.wdL (fun i => L0.getD i 0) 8, Cc.wdL (fun i => L0.getD (8 + i) 0) 8])) ∧ Below ((w.alloc (.cells #[.int .u64 0, .int .u64 0, .int .u64 0, .int .u64 0, .int .u64 0] 208)).alloc (.cells (Bs L0) 179)).heap.size ((w.alloc (.cells #[.int .u64 0, .int .u64 0, .int .u64 0, .int .u64 0, .int .u64 0] 208)).alloc (.cells (Bs L0) 179)) w') := HH
    clear HH
    have HN : Hid (∀ wx : World, Calls Tryz.prog 217 #[.agg (Ws [Cc.wdL (fun i => L0.getD i 0) 8, Cc.wdL (fun i => L0.getD (8 + i) 0) 8]), .int .u64 1] wx fun e w' => e = .returned (.agg (Ws (Cc.numL L0 1))) ∧ Below wx.heap.size wx w') := fun wx => numberOf_any _ _ 1 wx
    have hlR : (Cc.numL L0 1).length = 5 := rfl
    generalize Cc.numL L0 1 = R2 at HN HP hlR
    generalize Cc.wdL (fun i => L0.getD i 0) 8 = lo at HH' HN
    generalize Cc.wdL (fun i => L0.getD (8 + i) 0) 8 = hi at HH' HN
    have i16 : (s.size : Int) = 16 := by omega
    go_enter Tryz.func222, Tryz.ntmps222
    go_wp2_with fail
    generalize (w.alloc (.cells #[.int .u64 0, .int .u64 0, .int .u64 0, .int .u64 0, .int .u64 0] 208)).alloc (.cells (Bs L0) 179) = w1 at hb0 hb1 hbel HH' ⊢
    refine HH'.out.mono ?_
    rintro e w2 ⟨rfl, hb2⟩
    have hq2 := hb0.keep hb2
    have hbel2 := hbel.trans (hb2.mono hbel.size)
    go_wp2_with fail
    refine (HN.out w2).mono ?_
    rintro e w3 ⟨rfl, hb3⟩
    have hq3 := hq2.keep hb3
    have hbel3 := hbel2.trans (hb3.mono hbel2.size)
    have hst := storeRow (l := R2) hq3 (by rw [hlR, Ws_size]; rfl)
    have hs5 : (Ws R2).size = 5 := by rw [Ws_size, hlR]
    go_wp2
    refine bodyPost_ret (v := .agg (Ws R2)) ?_ rfl ⟨by rw [show R = R2 from HP.out], below_setRow hbel3 (Nat.le_refl _) _⟩
    exact results_cell_row rfl _ _ w.heap.size 208 _ (0, 0) _ rfl (hq3.row _) Tryz.underlying208 rfl (by rw [hs5]; exact Tryz.info5)
  · have HP : Hid (Cc.piece s.data.toList = Cc.numL ((s.data.toList ++ zeros (16 - s.size)).set s.size 1) 0) := by
      have : Cc.piece s.data.toList = Cc.numL ((s.data.toList ++ zeros (16 - s.size)).set s.size 1) 0 := by
        unfold Cc.piece Cc.pieceL; rw [if_neg (by omega), if_neg (by omega), hlen]
      exact this
    generalize s.data.toList ++ zeros (16 - s.size) = L0 at hcp hL HP
    generalize Cc.piece s.data.toList = R at HP ⊢
    have hb0 : Blk ((w.alloc (.cells #[.int .u64 0, .int .u64 0, .int .u64 0, .int .u64 0, .int .u64 0] 208)).alloc (.cells (Bs L0) 179)) w.heap.size (Ws [0, 0, 0, 0, 0]) 208 := heap_alloc2_old w _ _
    have hb1 : Blk ((w.alloc (.cells #[.int .u64 0, .int .u64 0, .int .u64 0, .int .u64 0, .int .u64 0] 208)).alloc (.cells (Bs L0) 179)) (w.heap.size + 1) (Bs L0) 179 := heap_alloc2_new w _ _
    have hbel : Below w.heap.size w ((w.alloc (.cells #[.int .u64 0, .int .u64 0, .int .u64 0, .int .u64 0, .int .u64 0] 208)).alloc (.cells (Bs L0) 179)) := ((Below.refl _ _).alloc (Nat.le_refl _) _).alloc (by simp) _
    have HN : Hid (∀ wx : World, Calls Tryz.prog 217 #[.agg (Ws [Cc.wdL (fun i => (L0.set s.size 1).getD i 0) 8, Cc.wdL (fun i => (L0.set s.size 1).getD (8 + i) 0) 8]), .int .u64 0] wx fun e w' => e = .returned (.agg (Ws (Cc.numL (L0.set s.size 1) 0))) ∧ Below wx.heap.size wx w') := fun wx => numberOf_any _ _ 0 wx
    have hlR : (Cc.numL (L0.set s.size 1) 0).length = 5 := rfl
    generalize Cc.numL (L0.set s.size 1) 0 = R2 at HN HP hlR
    have i16 : ¬ (s.size : Int) = 16 := by omega
    have i17 : (s.size : Int) < 16 := by omega
    go_enter Tryz.func222, Tryz.ntmps222
    have hc := hb1.cell s.size
    rw [Bs_at _ _ (by omega)] at hc
    have hf := hb1.frozen s.size
    go_wp2_with fail
    have hset := Bs_set L0 s.size 1
    rw [show (((1 : UInt8).toNat : Nat) : Int) = 1 from rfl] at hset
    rw [hset]
    clear hc hf hset hb0 hb1 hbel hcp
    have hL1 : (L0.set s.size 1).length = 16 := by rw [List.length_set, hL]
    generalize L0.set s.size 1 = L1 at HN HP hL1 ⊢
    have hb0 : Blk ((w.alloc (.cells #[.int .u64 0, .int .u64 0, .int .u64 0, .int .u64 0, .int .u64 0] 208)).alloc (.cells (Bs L1) 179)) w.heap.size (Ws [0, 0, 0, 0, 0]) 208 := heap_alloc2_old w _ _
    have hb1 : Blk ((w.alloc (.cells #[.int .u64 0, .int .u64 0, .int .u64 0, .int .u64 0, .int .u64 0] 208)).alloc (.cells (Bs L1) 179)) (w.heap.size + 1) (Bs L1) 179 := heap_alloc2_new w _ _
    have hbel : Below w.heap.size w ((w.alloc (.cells #[.int .u64 0, .int .u64 0, .int .u64 0, .int .u64 0, .int .u64 0] 208)).alloc (.cells (Bs L1) 179)) := ((Below.refl _ _).alloc (Nat.le_refl _) _).alloc (by simp) _
    generalize (w.alloc (.cells #[.int .u64 0, .int .u64 0, .int .u64 0, .int .u64 0, .int .u64 0] 208)).alloc (.cells (Bs L1) 179) = w1 at hb0 hb1 hbel ⊢
    refine (halves_row (w.heap.size + 1) 179 L1 _ hb1 hL1).mono ?_
    rintro e w2 ⟨rfl, hb2⟩
    generalize Cc.wdL (fun i => L1.getD i 0) 8 = lo at HN ⊢
    generalize Cc.wdL (fun i => L1.getD (8 + i) 0) 8 = hi at HN ⊢
    have hq2 := hb0.keep hb2
    have hbel2 := hbel.trans (hb2.mono hbel.size)
    go_wp2_with fail
    refine (HN.out w2).mono ?_
    rintro e w3 ⟨rfl, hb3⟩
    have hq3 := hq2.keep hb3
    have hbel3 := hbel2.trans (hb3.mono hbel2.size)
    have hst := storeRow (l := R2) hq3 (by rw [hlR, Ws_size]; rfl)
    have hs5 : (Ws R2).size = 5 := by rw [Ws_size, hlR]
    go_wp2
    refine bodyPost_ret (v := .agg (Ws R2)) ?_ rfl ⟨by rw [show R = R2 from HP.out], below_setRow hbel3 (Nat.le_refl _) _⟩
    exact results_cell_row rfl _ _ w.heap.size 208 _ (0, 0) _ rfl (hq3.row _) Tryz.underlying208 rfl (by rw [hs5]; exact Tryz.info5)

end Go.Proofs.YtclpbaokadfhhaaGreatDoor

namespace Go.Proofs.YtclpbaokadfhhaaGreatDoor
open Go.RowKit

namespace Cc
/-- the number of the first 16 bytes, some bits left out -/
def rOf (f : Nat → UInt8) : List (BitVec 64) := numberOf (wdL f 8 &&& 1152921487695413247) (wdL (fun i => f (8 + i)) 8 &&& 1152921487695413244) 0
/-- the number behind j pieces -/
def tagTo (r : List (BitVec 64)) (s : ByteArray) : Nat → List (BitVec 64)
  | 0 => [0, 0, 0, 0, 0]
  | j + 1 => times (plus (tagTo r s j) (piece (s.extract (16 * j) (16 * j + 16)).data.toList)) r
theorem tagTo_length (r : List (BitVec 64)) (s : ByteArray) (j : Nat) : (tagTo r s j).length = 5 := by
  cases j with
  | zero => rfl
  | succ j => exact times_length _ _
def tag (f : Nat → UInt8) (s : ByteArray) : List UInt8 := tellSum (lowest (tagTo (rOf f) s (s.size / 16))) (wdL (fun i => f (16 + i)) 8) (wdL (fun i => f (24 + i)) 8)
theorem tag_length (f : Nat → UInt8) (s : ByteArray) : (tag f s).length = 16 := tellSum_length _ _ _
theorem plus_length (a b : List (BitVec 64)) : (plus a b).length = a.length := plusTo_length _ _ _
theorem piece_length (l : List UInt8) : (piece l).length = 5 := rfl
end Cc

theorem plus_lit (h0 h1 h2 h3 h4 : BitVec 64) (b : List (BitVec 64)) (hb : b.length = 5) (w : World) :
    Calls Tryz.prog 221 #[.agg #[.int .u64 (U h0), .int .u64 (U h1), .int .u64 (U h2), .int .u64 (U h3), .int .u64 (U h4)], .agg (Ws b)] w fun e w' => e = .returned (.agg (Ws (Cc.plus [h0, h1, h2, h3, h4] b))) ∧ Below w.heap.size w w' :=
  cplus_any [h0, h1, h2, h3, h4] b w rfl hb
theorem times_lit (a : List (BitVec 64)) (ha : a.length = 5) (h0 h1 h2 h3 h4 : BitVec 64) (w : World) :
    Calls Tryz.prog 220 #[.agg (Ws a), .agg #[.int .u64 (U h0), .int .u64 (U h1), .int .u64 (U h2), .int .u64 (U h3), .int .u64 (U h4)]] w fun e w' => e = .returned (.agg (Ws (Cc.times a [h0, h1, h2, h3, h4]))) ∧ Below w.heap.size w w' :=
  times_any a [h0, h1, h2, h3, h4] w ha rfl
theorem lowest_lit (h0 h1 h2 h3 h4 : BitVec 64) (w : World) :
    Calls Tryz.prog 224 #[.agg #[.int .u64 (U h0), .int .u64 (U h1), .int .u64 (U h2), .int .u64 (U h3), .int .u64 (U h4)]] w fun e w' => e = .returned (.agg (Ws (Cc.lowest [h0, h1, h2, h3, h4]))) ∧ Below w.heap.size w w' :=
  lowest_any [h0, h1, h2, h3, h4] w rfl

/-- what the loop's numbers are -/
def TagS (p : Nat) (h r : List (BitVec 64)) (w : World) : Prop := Blk w (p + 1) (Ws h) 208 ∧ Blk w p (Ws r) 208

set_option maxRecDepth 100000 in
set_option maxHeartbeats 2000000 in
theorem tag_any (b off cap : Nat) (f : Nat → UInt8) (s : ByteArray) (w : World) (hcap : 32 ≤ cap) (hm : cap ≤ 1000000) (hs : s.size ≤ 1000000) (h16 : s.size % 16 = 0)
    (hc : ∀ i, i < 32 → w.cell? ⟨b, off + i, none⟩ = some (.int .u8 (f i).toNat)) :
    Calls Tryz.prog 179 #[.slice (some ⟨b, off, none⟩) 32 cap, .string s] w fun e w' => e = .returned (.agg (Bs (Cc.tag f s))) ∧ Below w.heap.size w w' := by
  have hblt : b < w.heap.size := block_lt_of_cell (hc 0 (by omega))
  have HC : Hid (∀ i, i < 32 → w.cell? ⟨b, off + i, none⟩ = some (.int .u8 (f i).toNat)) := hc
  clear hc
  have hz := zero16b
  have HG : Hid (Cc.tag f s = Cc.tellSum (Cc.lowest (Cc.tagTo (Cc.rOf f) s (s.size / 16))) (Cc.wdL (fun i => f (16 + i)) 8) (Cc.wdL (fun i => f (24 + i)) 8)) := by
    have : Cc.tag f s = Cc.tellSum (Cc.lowest (Cc.tagTo (Cc.rOf f) s (s.size / 16))) (Cc.wdL (fun i => f (16 + i)) 8) (Cc.wdL (fun i => f (24 + i)) 8) := rfl
    exact this
  have hlG : (Cc.tag f s).length = 16 := Cc.tag_length _ _
  generalize Cc.tag f s = G at HG hlG ⊢
  have HLO : Hid (∀ wx : World, Calls Tryz.prog 218 #[.agg (Ws [Cc.wdL f 8, Cc.wdL (fun i => f (8 + i)) 8])] wx fun e w' => e = .returned (.agg (Ws [Cc.wdL f 8 &&& 1152921487695413247, Cc.wdL (fun i => f (8 + i)) 8 &&& 1152921487695413244])) ∧ Below wx.heap.size wx w') := fun wx => leaveOut_any _ _ wx
  have HRO : Hid (∀ wx : World, Calls Tryz.prog 217 #[.agg (Ws [Cc.wdL f 8 &&& 1152921487695413247, Cc.wdL (fun i => f (8 + i)) 8 &&& 1152921487695413244]), .int .u64 0] wx fun e w' => e = .returned (.agg (Ws (Cc.rOf f))) ∧ Below wx.heap.size wx w') := fun wx => numberOf_any _ _ 0 wx
  have HHA : Hid (∀ (wx : World), (∀ i, i < 16 → wx.cell? ⟨b, off + i, none⟩ = some (.int .u8 (f i).toNat)) → Calls Tryz.prog 219 #[.slice (some ⟨b, off, none⟩) 32 cap] wx fun e w' => e = .returned (.agg (Ws [Cc.wdL f 8, Cc.wdL (fun i => f (8 + i)) 8])) ∧ Below wx.heap.size wx w') := fun wx h => halves_any b off 32 cap f wx (by omega) (by omega) h
  have HHB : Hid (∀ (wx : World), (∀ i, i < 16 → wx.cell? ⟨b, off + 16 + i, none⟩ = some (.int .u8 (f (16 + i)).toNat)) → Calls Tryz.prog 219 #[.slice (some ⟨b, off + 16, none⟩) 16 (cap - 16)] wx fun e w' => e = .returned (.agg (Ws [Cc.wdL (fun i => f (16 + i)) 8, Cc.wdL (fun i => f (24 + i)) 8])) ∧ Below wx.heap.size wx w') := fun wx h => by
    have := halves_any b (off + 16) 16 (cap - 16) (fun i => f (16 + i)) wx (by omega) (by omega) h
    rw [show Cc.words2 (fun i => f (16 + i)) = [Cc.wdL (fun i => f (16 + i)) 8, Cc.wdL (fun i => f (24 + i)) 8] by
      show [Cc.wdL (fun i => f (16 + i)) 8, Cc.wdL (fun i => f (16 + (8 + i))) 8] = _
      rw [show (fun i => f (16 + (8 + i))) = fun i => f (24 + i) from funext fun i => by rw [← Nat.add_assoc]]] at this
    exact this
  have hlr : (Cc.rOf f).length = 5 := rfl
  generalize Cc.rOf f = r at HG HRO hlr
  generalize Cc.wdL f 8 &&& 1152921487695413247 = y1 at HLO HRO
  generalize Cc.wdL (fun i => f (8 + i)) 8 &&& 1152921487695413244 = y2 at HLO HRO
  generalize Cc.wdL f 8 = y3 at HLO HHA
  generalize Cc.wdL (fun i => f (8 + i)) 8 = y4 at HLO HHA
  generalize Cc.wdL (fun i => f (16 + i)) 8 = s0 at HG HHB
  generalize Cc.wdL (fun i => f (24 + i)) 8 = s1 at HG HHB
  obtain ⟨r0, r1, r2, r3, r4, rfl⟩ := list5 r hlr
  have hb0 := Blk.new w (Bs (zeros 16)) 179
  have hbel0 : Below w.heap.size w (w.alloc (.cells (Bs (zeros 16)) 179)) := (Below.refl _ _).alloc (Nat.le_refl _) _
  go_enter Tryz.func179, Tryz.ntmps179
  go_wp2_with fail
  refine (HHA.out _ ?_).mono ?_
  · intro i hi
    rw [hbel0.cell (p := ⟨b, off + i, none⟩) hblt]; exact HC.out i (by omega)
  rintro e w1 ⟨rfl, hb1⟩
  have q1 := hb0.keep hb1
  have bel1 := hbel0.trans (hb1.mono hbel0.size)
  clear hb0 hbel0 hb1
  go_wp2_with fail
  refine (HLO.out _).mono ?_
  rintro e w2 ⟨rfl, hb2⟩
  have q2 := q1.keep hb2
  have bel2 := bel1.trans (hb2.mono bel1.size)
  clear q1 bel1 hb2
  go_wp2_with fail
  refine (HRO.out _).mono ?_
  rintro e w3 ⟨rfl, hb3⟩
  have q3 := q2.keep hb3
  have bel3 := bel2.trans (hb3.mono bel2.size)
  clear q2 bel2 hb3
  rw [show Ws [r0, r1, r2, r3, r4] = #[.int .u64 (U r0), .int .u64 (U r1), .int .u64 (U r2), .int .u64 (U r3), .int .u64 (U r4)] from rfl]
  go_wp2_with fail
  have hb5 : Blk ((w3.alloc (.cells #[.int .u64 (U r0), .int .u64 (U r1), .int .u64 (U r2), .int .u64 (U r3), .int .u64 (U r4)] 208)).alloc (.cells #[.int .u64 0, .int .u64 0, .int .u64 0, .int .u64 0, .int .u64 0] 208)) w3.heap.size (Ws [r0, r1, r2, r3, r4]) 208 := heap_alloc2_old w3 _ _
  have hb6 : Blk ((w3.alloc (.cells #[.int .u64 (U r0), .int .u64 (U r1), .int .u64 (U r2), .int .u64 (U r3), .int .u64 (U r4)] 208)).alloc (.cells #[.int .u64 0, .int .u64 0, .int .u64 0, .int .u64 0, .int .u64 0] 208)) (w3.heap.size + 1) (Ws [0, 0, 0, 0, 0]) 208 := heap_alloc2_new w3 _ _
  have hb4 := (q3.alloc (.cells #[.int .u64 (U r0), .int .u64 (U r1), .int .u64 (U r2), .int .u64 (U r3), .int .u64 (U r4)] 208)).alloc (.cells #[.int .u64 0, .int .u64 0, .int .u64 0, .int .u64 0, .int .u64 0] 208)
  have hlt4 : w.heap.size < w3.heap.size := q3.lt
  have hbel : Below w.heap.size w ((w3.alloc (.cells #[.int .u64 (U r0), .int .u64 (U r1), .int .u64 (U r2), .int .u64 (U r3), .int .u64 (U r4)] 208)).alloc (.cells #[.int .u64 0, .int .u64 0, .int .u64 0, .int .u64 0, .int .u64 0] 208)) := (bel3.alloc (by omega) _).alloc (by simp; omega) _
  generalize (w3.alloc (.cells #[.int .u64 (U r0), .int .u64 (U r1), .int .u64 (U r2), .int .u64 (U r3), .int .u64 (U r4)] 208)).alloc (.cells #[.int .u64 0, .int .u64 0, .int .u64 0, .int .u64 0, .int .u64 0] 208) = w4 at hb5 hb6 hb4 hbel ⊢
  generalize w3.heap.size = p at hb5 hb6 hlt4 ⊢
  clear q3 bel3 HLO HRO HHA
  go_loopw [7] (fun c wr => ∃ j : Nat, 16 * j ≤ s.size ∧ c = .int .i64 (16 * j : Nat) ∧ Blk wr p (Ws [r0, r1, r2, r3, r4]) 208 ∧ Blk wr (p + 1) (Ws (Cc.tagTo [r0, r1, r2, r3, r4] s j)) 208 ∧ Blk wr w.heap.size (Bs (zeros 16)) 179 ∧ Below w.heap.size w wr) (fun c _ => s.size - (intOf c).toNat)
  case atStart => exact ⟨0, by omega, rfl, hb5, hb6, hb4, hbel⟩
  case round =>
    clear hb5 hb6 hb4 hbel w4
    obtain ⟨j, hj, rfl, hb5, hb6, hb4, hbel⟩ := hrel
    by_cases hlt : 16 * j < s.size
    · have hle : 16 * j + 16 ≤ s.size := by omega
      have HT : Hid (Cc.tagTo [r0, r1, r2, r3, r4] s (j + 1) = Cc.times (Cc.plus (Cc.tagTo [r0, r1, r2, r3, r4] s j) (Cc.piece (s.extract (16 * j) (16 * j + 16)).data.toList)) [r0, r1, r2, r3, r4]) := by
        have : Cc.tagTo [r0, r1, r2, r3, r4] s (j + 1) = Cc.times (Cc.plus (Cc.tagTo [r0, r1, r2, r3, r4] s j) (Cc.piece (s.extract (16 * j) (16 * j + 16)).data.toList)) [r0, r1, r2, r3, r4] := rfl
        exact this
      have hlH : (Cc.tagTo [r0, r1, r2, r3, r4] s j).length = 5 := Cc.tagTo_length _ _ _
      generalize Cc.tagTo [r0, r1, r2, r3, r4] s j = H at hb6 HT hlH
      obtain ⟨h0, h1, h2, h3, h4, rfl⟩ := list5 H hlH
      generalize hat : 16 * j = at0 at hj hlt hle HT
      have HAT : Hid (16 * j = at0) := hat
      clear hat
      have HPc : Hid (∀ wx : World, Calls Tryz.prog 222 #[.string (s.extract at0 (at0 + 16))] wx fun e w' => e = .returned (.agg (Ws (Cc.piece (s.extract at0 (at0 + 16)).data.toList))) ∧ Below wx.heap.size wx w') := fun wx => piece_any _ wx (by simp; omega)
      have HPl : Hid (∀ wx : World, Calls Tryz.prog 221 #[.agg #[.int .u64 (U h0), .int .u64 (U h1), .int .u64 (U h2), .int .u64 (U h3), .int .u64 (U h4)], .agg (Ws (Cc.piece (s.extract at0 (at0 + 16)).data.toList))] wx fun e w' => e = .returned (.agg (Ws (Cc.plus [h0, h1, h2, h3, h4] (Cc.piece (s.extract at0 (at0 + 16)).data.toList)))) ∧ Below wx.heap.size wx w') := fun wx => plus_lit _ _ _ _ _ _ (Cc.piece_length _) wx
      have HTm : Hid (∀ wx : World, Calls Tryz.prog 220 #[.agg (Ws (Cc.plus [h0, h1, h2, h3, h4] (Cc.piece (s.extract at0 (at0 + 16)).data.toList))), .agg #[.int .u64 (U r0), .int .u64 (U r1), .int .u64 (U r2), .int .u64 (U r3), .int .u64 (U r4)]] wx fun e w' => e = .returned (.agg (Ws (Cc.times (Cc.plus [h0, h1, h2, h3, h4] (Cc.piece (s.extract at0 (at0 + 16)).data.toList)) [r0, r1, r2, r3, r4]))) ∧ Below wx.heap.size wx w') := fun wx => times_lit _ (by rw [Cc.plus_length]; rfl) _ _ _ _ _ wx
      have hlT : (Cc.times (Cc.plus [h0, h1, h2, h3, h4] (Cc.piece (s.extract at0 (at0 + 16)).data.toList)) [r0, r1, r2, r3, r4]).length = 5 := Cc.times_length _ _
      generalize Cc.times (Cc.plus [h0, h1, h2, h3, h4] (Cc.piece (s.extract at0 (at0 + 16)).data.toList)) [r0, r1, r2, r3, r4] = T at HT HTm hlT
      generalize Cc.plus [h0, h1, h2, h3, h4] (Cc.piece (s.extract at0 (at0 + 16)).data.toList) = Q at HPl HTm
      generalize Cc.piece (s.extract at0 (at0 + 16)).data.toList = P at HPc HPl
      obtain ⟨c0, c1, c2, c3, c4⟩ := cells5 hb6
      obtain ⟨d0, d1, d2, d3, d4⟩ := cells5 hb5
      have a0 : (at0 : Int) < s.size := by omega
      have a1 : (0 : Int) ≤ (at0 : Int) := by omega
      have a2 : (at0 : Int) + 16 ≤ s.size := by omega
      have a3 : IntKind.i64.wrap ((at0 : Int) + 16) = (at0 : Int) + 16 := by rw [IntKind.wrap_i64]; omega
      have a4 : min ((at0 : Int) + 16) (s.size : Int) = (at0 : Int) + 16 := by omega
      have a5 : (at0 : Int) ≤ (at0 : Int) + 16 := by omega
      have a6 : (0 : Int) ≤ (at0 : Int) + 16 := by omega
      have a7 : ((at0 : Int) + 16).toNat = at0 + 16 := by omega
      have a8 : at0 ≤ s.size := by omega
      have a9 : at0 + 16 ≤ s.size := by omega
      have hsT : (Ws T).size = 5 := by rw [Ws_size, hlT]
      go_wp2_with fail
      clear HG HHB HC hblt hz hlG hlr
      have hS0 : TagS p [h0, h1, h2, h3, h4] [r0, r1, r2, r3, r4] wr.drew := ⟨hb6, hb5⟩
      have hz1 : Blk wr.drew w.heap.size (Bs (zeros 16)) 179 := hb4
      have bel1 : Below w.heap.size w wr.drew := hbel.drew
      refine wp_region_last (S := TagS p [h0, h1, h2, h3, h4] [r0, r1, r2, r3, r4]) (l := 13) (by kernel_rfl) ?_
      clear c0 c1 c2 c3 c4 d0 d1 d2 d3 d4 hb4 hb5 hb6 hbel
      generalize World.drew wr = wd at hS0 hz1 bel1 ⊢
      refine wpAnyL_take (i := 1) (v := ?v1) rfl (by kernel_rfl) (by kernel_rfl) (by kernel_rfl) (by kernel_rfl) (by kernel_rfl) (fun _ _ _ h => h) (Or.inl ⟨by rfl, ?hy1⟩) hS0 ?rest1
      case hy1 => (intro wx hSx; clear hSx; go_simp; try (with_reducible rfl))
      refine wpAnyL_take (i := 2) (v := ?v2) rfl (by kernel_rfl) (by kernel_rfl) (by kernel_rfl) (by kernel_rfl) (by kernel_rfl) (fun _ _ _ h => h) (Or.inl ⟨by rfl, ?hy2⟩) hS0 ?rest2
      case hy2 => (intro wx hSx; clear hSx; go_simp; try (with_reducible rfl))
      refine wpAnyL_take (i := 3) (v := ?v3) rfl (by kernel_rfl) (by kernel_rfl) (by kernel_rfl) (by kernel_rfl) (by kernel_rfl) (fun _ _ _ h => h) (Or.inl ⟨by rfl, ?hy3⟩) hS0 ?rest3
      case hy3 => (intro wx hSx; clear hSx; go_simp; try (with_reducible rfl))
      refine wpAnyL_take (i := 4) (v := ?v4) rfl (by kernel_rfl) (by kernel_rfl) (by kernel_rfl) (by kernel_rfl) (by kernel_rfl) (fun _ _ _ h => h) (Or.inl ⟨by rfl, ?hy4⟩) hS0 ?rest4
      case hy4 => (intro wx hSx; clear hSx; go_simp; try (with_reducible rfl))
      refine wpAnyL_take (i := 5) (v := ?v5) rfl (by kernel_rfl) (by kernel_rfl) (by kernel_rfl) (by kernel_rfl) (by kernel_rfl) (fun _ _ _ h => h) (Or.inl ⟨by rfl, ?hy5⟩) hS0 ?rest5
      case hy5 => (intro wx hSx; clear hSx; go_simp; try (with_reducible rfl))
      refine wpAnyL_take (i := 6) (v := ?v6) rfl (by kernel_rfl) (by kernel_rfl) (by kernel_rfl) (by kernel_rfl) (by kernel_rfl) (fun _ _ _ h => h) (Or.inl ⟨by rfl, ?hy6⟩) hS0 ?rest6
      case hy6 => (intro wx hSx; clear hSx; go_simp; try (with_reducible rfl))
      refine wpAnyL_take (i := 7) (v := ?v7) rfl (by kernel_rfl) (by kernel_rfl) (by kernel_rfl) (by kernel_rfl) (by kernel_rfl) (fun _ _ _ h => h) (Or.inl ⟨by rfl, ?hy7⟩) hS0 ?rest7
      case hy7 => (intro wx hSx; clear hSx; go_simp; try (with_reducible rfl))
      refine wpAnyL_take (i := 8) (v := ?v8) rfl (by kernel_rfl) (by kernel_rfl) (by kernel_rfl) (by kernel_rfl) (by kernel_rfl) (fun _ _ _ h => h) (Or.inl ⟨by rfl, ?hy8⟩) hS0 ?rest8
      case hy8 => (intro wx hSx; clear hSx; go_simp; try (with_reducible rfl))
      refine wpAnyL_take (i := 0) (v := ?v0) rfl (by kernel_rfl) (by kernel_rfl) (by kernel_rfl) (by kernel_rfl) (by kernel_rfl) (fun _ _ _ h => h) (Or.inl ⟨by rfl, ?hy0⟩) hS0 ?rest0
      case hy0 => (intro wx hSx; obtain ⟨k1, k2⟩ := hSx; obtain ⟨c0, c1, c2, c3, c4⟩ := cells5 k1; obtain ⟨d0, d1, d2, d3, d4⟩ := cells5 k2; clear k1 k2; go_simp; try (with_reducible rfl))
      refine wpAnyL_take (i := 11) (v := ?v11) rfl (by kernel_rfl) (by kernel_rfl) (by kernel_rfl) (by kernel_rfl) (by kernel_rfl) (fun _ _ _ h => h) (Or.inl ⟨by rfl, ?hy11⟩) hS0 ?rest11
      case hy11 => (intro wx hSx; obtain ⟨k1, k2⟩ := hSx; obtain ⟨c0, c1, c2, c3, c4⟩ := cells5 k1; obtain ⟨d0, d1, d2, d3, d4⟩ := cells5 k2; clear k1 k2; go_simp; try (with_reducible rfl))
      refine wpAnyL_one (i := 9) (by kernel_rfl) rfl (fun K hK => ?_)
      go_simp
      go_wp2_with (go_at_call 222; refine (HPc.out _).mono ?_; rintro e x0 ⟨rfl, k0⟩)
      have hS1 : TagS p [h0, h1, h2, h3, h4] [r0, r1, r2, r3, r4] x0 := ⟨hS0.1.keep k0, hS0.2.keep k0⟩
      have hz2 := hz1.keep k0
      have bel2 := bel1.trans (k0.mono bel1.size)
      refine hK.out _ _ hS1 ?_
      clear hK K hS0 hz1 bel1 k0
      try simp only [Act.put, List.setIfInBounds_toArray, List.set_cons_zero, List.set_cons_succ]
      refine wpAnyL_one (i := 10) (by kernel_rfl) rfl (fun K hK => ?_)
      go_simp
      go_wp2_with (go_at_call 221; refine (HPl.out _).mono ?_; rintro e x1 ⟨rfl, k1⟩)
      have hS2 : TagS p [h0, h1, h2, h3, h4] [r0, r1, r2, r3, r4] x1 := ⟨hS1.1.keep k1, hS1.2.keep k1⟩
      have hz3 := hz2.keep k1
      have bel3 := bel2.trans (k1.mono bel2.size)
      refine hK.out _ _ hS2 ?_
      clear hK K hS1 hz2 bel2 k1
      try simp only [Act.put, List.setIfInBounds_toArray, List.set_cons_zero, List.set_cons_succ]
      refine wpAnyL_one (i := 12) (by kernel_rfl) rfl (fun K hK => ?_)
      go_simp
      go_wp2_with (go_at_call 220; refine (HTm.out _).mono ?_; rintro e x2 ⟨rfl, k2⟩)
      have hS3 : TagS p [h0, h1, h2, h3, h4] [r0, r1, r2, r3, r4] x2 := ⟨hS2.1.keep k2, hS2.2.keep k2⟩
      have hz4 := hz3.keep k2
      have bel4 := bel3.trans (k2.mono bel3.size)
      refine hK.out _ _ hS3 ?_
      clear hK K hS2 hz3 bel3 k2
      try simp only [Act.put, List.setIfInBounds_toArray, List.set_cons_zero, List.set_cons_succ]
      refine wpAnyL_last (by kernel_rfl) rfl (by kernel_rfl) (fun K hK => ?_)
      have hst := storeRow (l := T) hS3.1 (by rw [hlT]; rfl)
      go_simp
      refine hK.out _ _ ?_
      clear hK K
      go_wp2
      go_roundw
      case rel =>
        refine ⟨j + 1, by have := HAT.out; omega, int_eq (by have := HAT.out; omega), hS3.2.other (by omega) _, ?_, hz4.other (by omega) _, below_setRow bel4 (by omega) _⟩
        rw [show Cc.tagTo [r0, r1, r2, r3, r4] s (j + 1) = T from HT.out]; exact hS3.1.row _
      case measure => simp [intOf]; have := HAT.out; omega
    · have hj' : 16 * j = s.size := by omega
      have hj2 : s.size / 16 = j := by omega
      have hlH : (Cc.tagTo [r0, r1, r2, r3, r4] s j).length = 5 := Cc.tagTo_length _ _ _
      rw [hj2] at HG
      generalize Cc.tagTo [r0, r1, r2, r3, r4] s j = H at hb6 HG hlH
      obtain ⟨h0, h1, h2, h3, h4, rfl⟩ := list5 H hlH
      obtain ⟨c0, c1, c2, c3, c4⟩ := cells5 hb6
      have HLw : Hid (∀ wx : World, Calls Tryz.prog 224 #[.agg #[.int .u64 (U h0), .int .u64 (U h1), .int .u64 (U h2), .int .u64 (U h3), .int .u64 (U h4)]] wx fun e w' => e = .returned (.agg (Ws (Cc.lowest [h0, h1, h2, h3, h4]))) ∧ Below wx.heap.size wx w') := fun wx => lowest_lit _ _ _ _ _ wx
      have HTe : Hid (∀ wx : World, Calls Tryz.prog 223 #[.agg (Ws (Cc.lowest [h0, h1, h2, h3, h4])), .agg (Ws [s0, s1])] wx fun e w' => e = .returned (.agg (Bs (Cc.tellSum (Cc.lowest [h0, h1, h2, h3, h4]) s0 s1))) ∧ Below wx.heap.size wx w') := fun wx => tellSum_any _ s0 s1 wx (by rw [Cc.lowest_length]; rfl)
      rw [← show G = _ from HG.out] at HTe
      generalize Cc.lowest [h0, h1, h2, h3, h4] = L at HLw HTe
      clear HG
      have i32 : (16 : Int) ≤ cap := by omega
      have hsG : (Bs G).size = 16 := by rw [Bs_size, hlG]
      have i33 : ¬ cap = 16 := by omega
      have hcw : Hid (∀ wx : World, Below w.heap.size w wx → ∀ i, i < 16 → wx.cell? ⟨b, off + 16 + i, none⟩ = some (.int .u8 (f (16 + i)).toNat)) := fun wx hw i hi => by
        rw [hw.cell (p := ⟨b, off + 16 + i, none⟩) hblt, Nat.add_assoc]; exact HC.out (16 + i) (by omega)
      go_wp2_with fail
      go_region_with (first
        | (go_at_call 224; refine (HLw.out _).mono ?_; rintro e w2 ⟨rfl, k2⟩; have hz2 : Blk w2 _ _ _ := Blk.keep (w := wr.drew) hb4 k2; have b2 := Below.trans (Below.drew hbel) (Below.mono k2 hbel.size))
        | (go_at_call 219; refine (HHB.out _ ?_).mono ?_; exact hcw.out _ b2; rintro e w3 ⟨rfl, k3⟩; have hz3 : Blk w3 _ _ _ := Blk.keep hz2 k3; have b3 := Below.trans b2 (Below.mono k3 b2.size))
        | (go_at_call 223; refine (HTe.out _).mono ?_; rintro e w4 ⟨rfl, k4⟩; have hz4 : Blk w4 _ _ _ := Blk.keep hz3 k4; have b4 := Below.trans b3 (Below.mono k4 b3.size); have hst := storeRowB (l := G) hz4 (by rw [hlG]; rfl)))
      all_goals
        go_wp2
        refine bodyPost_ret (v := .agg (Bs G)) ?_ rfl ⟨rfl, below_setRow b4 (Nat.le_refl _) _⟩
        exact results_cell_row rfl _ _ w.heap.size 179 _ (0, 0) _ rfl (hz4.row _) Tryz.underlying179 rfl (by rw [hsG]; exact Tryz.info16b)

end Go.Proofs.YtclpbaokadfhhaaGreatDoor
