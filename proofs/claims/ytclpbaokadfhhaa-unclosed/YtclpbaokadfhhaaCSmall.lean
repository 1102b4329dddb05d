/- Contracts of cipher.fill, count, same. -/
import Derived.Test.YtclpbaokadfhhaaCTell
import Derived.Test.YtclpbaokadfhhaaShelf
namespace Go.Proofs.Ytclpbaokadfhhaa
open Go.RowKit

namespace Cc
def fillSize (n : Nat) : Nat := (16 - n % 16) % 16
def fill (s : ByteArray) : ByteArray := s ++ ⟨(List.replicate (fillSize s.size) 0).toArray⟩
theorem fill_size (s : ByteArray) : (fill s).size = s.size + fillSize s.size := by
  unfold fill; rw [ByteArray.size_append]; congr 1; show (List.replicate (fillSize s.size) (0 : UInt8)).toArray.size = _; simp
theorem fill_mod (s : ByteArray) : (fill s).size % 16 = 0 := by rw [fill_size]; unfold fillSize; omega
def countL (n : Nat) : List UInt8 := putL (zeros 8) 0 (BitVec.ofNat 64 n) 8
def count (s : ByteArray) : ByteArray := ⟨(countL s.size).toArray⟩
theorem countL_length (n : Nat) : (countL n).length = 8 := by unfold countL; rw [putL_length]; rfl
theorem count_size (s : ByteArray) : (count s).size = 8 := by show (countL s.size).toArray.size = 8; simp [countL_length]
end Cc

set_option maxRecDepth 100000 in
set_option maxHeartbeats 1000000 in
theorem fill_any (s : ByteArray) (w : World) (hs : s.size ≤ 1000000) :
    Calls Try.prog 29 #[.string s] w fun e w' => e = .returned (.string (Cc.fill s)) ∧ Below w.heap.size w w' := by
  have hR := Try.strings_Repeat ⟨#[0]⟩ (Cc.fillSize s.size) w (by unfold Cc.fillSize; omega) (by show 1 * _ ≤ _; unfold Cc.fillSize; omega)
  rw [show Lib.repeatL (⟨#[0]⟩ : ByteArray).data.toList (Cc.fillSize s.size) = List.replicate (Cc.fillSize s.size) 0 by
    have := Lib.repeatL_replicate 0 1 (Cc.fillSize s.size)
    rw [Nat.mul_one] at this; exact this] at hR
  have HR : Hid (Calls Try.prog 48 #[.string ⟨#[0]⟩, .int .i64 (Cc.fillSize s.size : Nat)] w fun e w' => e = .returned (.string ⟨(List.replicate (Cc.fillSize s.size) 0).toArray⟩) ∧ Below w.heap.size w w') := hR
  clear hR
  have HF : Hid (Cc.fill s = s ++ ⟨(List.replicate (Cc.fillSize s.size) 0).toArray⟩) := by
    have : Cc.fill s = s ++ ⟨(List.replicate (Cc.fillSize s.size) 0).toArray⟩ := rfl
    exact this
  have hn : ((16 : Int) - (s.size : Int) % 16) % 16 = (Cc.fillSize s.size : Nat) := by unfold Cc.fillSize; omega
  have hle : Cc.fillSize s.size ≤ 16 := by unfold Cc.fillSize; omega
  generalize Cc.fill s = R at HF ⊢
  generalize Cc.fillSize s.size = n at HR HF hn hle
  go_enter Try.func29, Try.ntmps29
  go_wp2_with fail
  refine HR.out.mono ?_
  rintro e w2 ⟨rfl, hb2⟩
  have hz : (⟨(List.replicate n (0 : UInt8)).toArray⟩ : ByteArray).size = n := by show (List.replicate n (0 : UInt8)).toArray.size = n; simp
  generalize (⟨(List.replicate n (0 : UInt8)).toArray⟩ : ByteArray) = z at hz HF ⊢
  go_wp2
  go_ret
  exact ⟨by rw [show R = _ from HF.out]; rfl, hb2⟩

theorem zero8b (w : World) : Sem.run Try.prog (zeroValue 78) w = .ok (.agg (Bs (zeros 8))) w := by kernel_rfl

set_option maxRecDepth 100000 in
set_option maxHeartbeats 1000000 in
theorem count_any (s : ByteArray) (w : World) (hs : s.size ≤ 1000000) :
    Calls Try.prog 30 #[.string s] w fun e w' => e = .returned (.string (Cc.count s)) ∧ Below w.heap.size w w' := by
  have hz := zero8b
  have hb0 := Blk.new w (Bs (zeros 8)) 78
  have hbel0 : Below w.heap.size w (w.alloc (.cells (Bs (zeros 8)) 78)) := (Below.refl _ _).alloc (Nat.le_refl _) _
  have HX : Hid ((s.size : Int) = U (BitVec.ofNat 64 s.size)) := by
    have : (s.size : Int) = U (BitVec.ofNat 64 s.size) := U_of s.size (by omega)
    exact this
  have HC : Hid (Cc.count s = ⟨(Cc.putL (zeros 8) 0 (BitVec.ofNat 64 s.size) 8).toArray⟩) := by
    have : Cc.count s = ⟨(Cc.putL (zeros 8) 0 (BitVec.ofNat 64 s.size) 8).toArray⟩ := rfl
    exact this
  generalize Cc.count s = R at HC ⊢
  generalize BitVec.ofNat 64 s.size = x at HX HC
  have HB : Hid (∀ k : Nat, (s.size : Int) / 2 ^ (8 * k) % 256 = ((Cc.byteL x k).toNat : Int)) := by
    have : ∀ k : Nat, (s.size : Int) / 2 ^ (8 * k) % 256 = ((Cc.byteL x k).toNat : Int) := fun k => by rw [HX.out, Cc.byteL_eq]
    exact this
  go_enter Try.func30, Try.ntmps30
  go_wp2
  generalize w.alloc (.cells (Bs (zeros 8)) 78) = w1 at hb0 hbel0 ⊢
  go_loopw [5] (fun i wr => ∃ k : Nat, k ≤ 8 ∧ i = .int .i64 k ∧ Blk wr w.heap.size (Bs (Cc.putL (zeros 8) 0 x k)) 78 ∧ Below w.heap.size w wr) (fun i _ => 8 - (intOf i).toNat)
  case atStart => exact ⟨0, by omega, rfl, hb0, hbel0⟩
  case round =>
    clear hb0 hbel0 w1
    obtain ⟨k, hk, rfl, hb, hbel⟩ := hrel
    by_cases hlt : k < 8
    · have hc := hb.cell k
      rw [Bs_at _ _ (by rw [Cc.putL_length]; exact hlt)] at hc
      have hf := hb.frozen k
      have i1 : (k : Int) < 8 := by omega
      go_wp2
      go_roundw
      case rel =>
        refine ⟨k + 1, by omega, by go_num, ?_, hbel.setCell (Nat.le_refl _) _⟩
        rw [hb.set, HB.out, Bs_set]
        have := hb.row (Bs ((Cc.putL (zeros 8) 0 x k).set k (Cc.byteL x k)))
        rw [show Cc.putL (zeros 8) 0 x (k + 1) = (Cc.putL (zeros 8) 0 x k).set (0 + k) (Cc.byteL x k) from rfl, Nat.zero_add]
        exact this
      case measure => simp [intOf]; omega
    · have hk8 : k = 8 := by omega
      subst hk8
      have hlR : (Cc.putL (zeros 8) 0 x 8).length = 8 := by rw [Cc.putL_length]; rfl
      generalize Cc.putL (zeros 8) 0 x 8 = L at hb HC hlR
      have hso := stringOf (cap := 8) hb 8 hlR.symm
      go_wp2
      go_ret
      exact ⟨by rw [show R = _ from HC.out]; rfl, hbel⟩

namespace Cc
def diff (f g : Nat → UInt8) : Nat → UInt8
  | 0 => 0
  | k + 1 => diff f g k ||| (f k ^^^ g k)
theorem diff_zero (f g : Nat → UInt8) (n : Nat) : diff f g n = 0 ↔ ∀ i, i < n → f i = g i := by
  induction n with
  | zero => exact ⟨fun _ i h => by omega, fun _ => rfl⟩
  | succ n ih =>
    rw [diff]
    constructor
    · intro h i hi
      have h1 : diff f g n = 0 ∧ f n ^^^ g n = 0 := by
        have := h
        rw [← UInt8.toBitVec_inj] at this
        simp only [UInt8.toBitVec_or, UInt8.toBitVec_ofNat, BitVec.or_eq_zero_iff] at this
        exact ⟨by rw [← UInt8.toBitVec_inj]; simpa using this.1, by rw [← UInt8.toBitVec_inj]; simpa using this.2⟩
      by_cases e : i = n
      · subst e; exact UInt8.xor_eq_zero_iff.1 h1.2
      · exact ih.1 h1.1 i (by omega)
    · intro h
      rw [ih.2 fun i hi => h i (by omega), h n (by omega)]
      simp
end Cc

theorem or_byte (a c : UInt8) : bits .or .u8 (a.toNat : Int) (c.toNat : Int) = ((a ||| c).toNat : Int) := by
  rw [u8_or_nat _ _ a.toNat_lt c.toNat_lt, UInt8.toNat_or]

def sameB (a b : ByteArray) : Bool := decide (a = b)
theorem same_eq (a b : ByteArray) (ha : a.size = 16) (hb : b.size = 16) : (decide (((Cc.diff (fun i => a.data.toList.getD i 0) (fun i => b.data.toList.getD i 0) 16).toNat : Int) = 0)) = sameB a b := by
  unfold sameB
  congr 1
  apply propext
  constructor
  · intro h
    have h0 : Cc.diff (fun i => a.data.toList.getD i 0) (fun i => b.data.toList.getD i 0) 16 = 0 := by
      rw [← UInt8.toNat_inj]; simpa using h
    have h1 := (Cc.diff_zero _ _ _).1 h0
    apply ByteArray.ext
    apply Array.ext
    · show a.size = b.size; omega
    · intro i h2 h3
      have := h1 i (by rw [← ha]; exact h2)
      simp only [List.getD_eq_getElem?_getD] at this
      have e1 : a.data.toList[i]? = some a.data[i] := by simp
      have e2 : b.data.toList[i]? = some b.data[i] := by simp
      rw [e1, e2] at this
      simpa using this
  · intro h
    subst h
    rw [(Cc.diff_zero _ _ _).2 fun i _ => rfl]; rfl

set_option maxRecDepth 100000 in
set_option maxHeartbeats 1000000 in
theorem same_any (a b : ByteArray) (w : World) (ha : a.size = 16) (hb : b.size = 16) :
    Calls Try.prog 23 #[.string a, .string b] w fun e w' => e = .returned (.bool (sameB a b)) ∧ Below w.heap.size w w' := by
  have HS : Hid ((decide (((Cc.diff (fun i => a.data.toList.getD i 0) (fun i => b.data.toList.getD i 0) 16).toNat : Int) = 0)) = sameB a b) := same_eq a b ha hb
  generalize sameB a b = R at HS ⊢
  have HF : Hid (∀ i (h : i < a.size), a[i] = a.data.toList.getD i 0) := fun i h => byte_at a i h
  have HG : Hid (∀ i (h : i < b.size), b[i] = b.data.toList.getD i 0) := fun i h => byte_at b i h
  obtain ⟨f, hf⟩ : ∃ f : Nat → UInt8, f = fun i => a.data.toList.getD i 0 := ⟨_, rfl⟩
  obtain ⟨g, hg⟩ : ∃ g : Nat → UInt8, g = fun i => b.data.toList.getD i 0 := ⟨_, rfl⟩
  have HF' : Hid (∀ i (h : i < a.size), a[i] = f i) := fun i h => by rw [hf]; exact HF.out i h
  have HG' : Hid (∀ i (h : i < b.size), b[i] = g i) := fun i h => by rw [hg]; exact HG.out i h
  rw [← hf, ← hg] at HS
  clear HF HG hf hg
  go_enter Try.func23, Try.ntmps23
  go_wp2
  go_loopw [5, 7] (fun d i wr => ∃ k : Nat, k ≤ 16 ∧ i = .int .i64 k ∧ d = .int .u8 ((Cc.diff f g k).toNat : Int) ∧ Below w.heap.size w wr) (fun _ i _ => 16 - (intOf i).toNat)
  case atStart => exact ⟨0, by omega, rfl, rfl, Below.refl _ _⟩
  case round =>
    obtain ⟨k, hk, rfl, rfl, hbel⟩ := hrel
    by_cases hlt : k < 16
    · have k1 : k < a.size := by omega
      have k2 : k < b.size := by omega
      have h1 := HF'.out k k1
      have h2 := HG'.out k k2
      have i1 : (k : Int) < 16 := by omega
      have i2 : (k : Int) < a.size := by omega
      have i3 : (k : Int) < b.size := by omega
      go_wp2_with fail
      go_quiet (fail)
      go_wp2
      go_roundw
      case rel => exact ⟨k + 1, by omega, by go_num, int_eq (by rw [xor_byte, or_byte]; rfl), below_drewN hbel _⟩
      case measure => simp [intOf]; omega
    · have hk16 : k = 16 := by omega
      subst hk16
      go_wp2
      go_ret
      exact ⟨by rw [← show _ = R from HS.out]; rfl, hbel⟩

end Go.Proofs.Ytclpbaokadfhhaa
