/- The two ways of padding and telling are one: plain lists. -/
import Derived.Test.YtclpbaokadfhhaaGreatDoorROwn
import Derived.Test.YtclpbaokadfhhaaGreatDoorMac
namespace Go.Proofs.YtclpbaokadfhhaaGreatDoor
open Go.RowKit

theorem put_eq (l : List UInt8) (off : Nat) (x : BitVec 64) (k : Nat) (h : off + k ≤ l.length) : Sha.put l off x k = l.take off ++ Sha.be x k ++ l.drop (off + k) := by
  induction k with
  | zero => simp [Sha.put, Sha.be]
  | succ k ih =>
    have hl : (l.take off ++ Sha.be x k).length = off + k := by simp [Sha.be_length]; omega
    rw [Sha.put, ih (by omega), List.set_append, if_neg (by omega), hl, Nat.sub_self, List.drop_eq_getElem_cons (by omega), List.set_cons_zero, Sha.be]
    simp [Nat.add_assoc]

def Ref.k0 (n : Nat) : Nat := Sha.padSize n - n - 17
theorem zeros_split (a b : Nat) : zeros (a + b) = zeros a ++ zeros b := by simp [zeros]
theorem zeros_take (a b : Nat) (h : a ≤ b) : (zeros b).take a = zeros a := by simp [zeros, Nat.min_eq_left h]
theorem zeros_drop (a b : Nat) : (zeros b).drop a = zeros (b - a) := by simp [zeros]

theorem pad_eq (l : List UInt8) (h : l.length < 1000000000) : Sha.pad l = l ++ [128] ++ zeros (Ref.k0 l.length) ++ Sha.be 0 8 ++ Sha.be (BitVec.ofNat 64 (8 * l.length)) 8 := by
  have hp := Sha.padSize_le l.length
  have e0 : Sha.padSize l.length = l.length + 17 + Ref.k0 l.length := by unfold Ref.k0; omega
  have e1 : Sha.pad1 l = (l ++ [128] ++ zeros (Ref.k0 l.length)) ++ zeros 16 := by
    unfold Sha.pad1
    rw [List.set_append, if_neg (by omega), Nat.sub_self, e0, show l.length + 17 + Ref.k0 l.length - l.length = 1 + (Ref.k0 l.length + 16) by omega, zeros_split 1, zeros_split]
    simp [zeros]
  have hL : (l ++ [128] ++ zeros (Ref.k0 l.length)).length = Sha.padSize l.length - 16 := by simp [zeros_length]; omega
  have c1 : BitVec.ofNat 64 l.length >>> 61 = 0 := by
    apply BitVec.eq_of_toNat_eq
    rw [BitVec.toNat_ushiftRight, BitVec.toNat_ofNat, Nat.mod_eq_of_lt (by omega), Nat.shiftRight_eq_div_pow]
    simp; omega
  have c2 : BitVec.ofNat 64 l.length <<< 3 = BitVec.ofNat 64 (8 * l.length) := by
    apply BitVec.eq_of_toNat_eq
    rw [BitVec.toNat_shiftLeft, BitVec.toNat_ofNat, BitVec.toNat_ofNat, Nat.shiftLeft_eq]
    omega
  unfold Sha.pad
  rw [c1, c2, e1]
  generalize l ++ [128] ++ zeros (Ref.k0 l.length) = L at hL
  generalize BitVec.ofNat 64 (8 * l.length) = X
  have hz : (L ++ zeros 16).length = Sha.padSize l.length := by simp [zeros_length]; omega
  rw [put_eq _ _ X 8 (by rw [Sha.put_length]; omega), put_eq _ _ _ 8 (by omega)]
  have g1 : List.take (Sha.padSize l.length - 16) (L ++ zeros 16) = L := by rw [List.take_append_of_le_length (by omega), List.take_of_length_le (by omega)]
  have g2 : List.drop (Sha.padSize l.length - 16 + 8) (L ++ zeros 16) = zeros 8 := by
    rw [List.drop_append, List.drop_of_length_le (by omega), zeros_drop, hL, List.nil_append]; congr 1; omega
  rw [g1, g2]
  have hLb : (L ++ Sha.be 0 8).length = Sha.padSize l.length - 8 := by simp [Sha.be_length]; omega
  have g3 : List.take (Sha.padSize l.length - 8) (L ++ Sha.be 0 8 ++ zeros 8) = L ++ Sha.be 0 8 := by rw [List.take_append_of_le_length (by omega), List.take_of_length_le (by omega)]
  have g4 : List.drop (Sha.padSize l.length - 8 + 8) (L ++ Sha.be 0 8 ++ zeros 8) = [] := by
    apply List.drop_of_length_le; simp [Sha.be_length, zeros_length]; omega
  rw [g3, g4, List.append_nil]

/-- the words told, k of them, one behind the other -/
def Ref.tell (s : Sha.St) : Nat → List UInt8
  | 0 => []
  | k + 1 => Ref.tell s k ++ Sha.be (s.list.getD k 0) 8
theorem Ref.tell_length (s : Sha.St) (k : Nat) : (Ref.tell s k).length = 8 * k := by
  induction k with
  | zero => rfl
  | succ k ih => simp only [Ref.tell, List.length_append, ih, Sha.be_length]; omega
theorem tell_eq (s : Sha.St) (k : Nat) (hk : k ≤ 8) : Sha.tellTo s k = Ref.tell s k ++ zeros (64 - 8 * k) := by
  induction k with
  | zero => rfl
  | succ k ih =>
    have hl := Ref.tell_length s k
    rw [Sha.tellTo, ih (by omega), put_eq _ _ _ 8 (by simp [hl, zeros_length]; omega), List.take_append_of_le_length (by omega), List.take_of_length_le (by omega), List.drop_append, List.drop_of_length_le (by omega), zeros_drop, hl, List.nil_append, Ref.tell]
    congr 2
    omega
theorem tell_end (s : Sha.St) : Sha.tellTo s 8 = Ref.tell s 8 := by rw [tell_eq s 8 (by omega)]; simp [zeros]

end Go.Proofs.YtclpbaokadfhhaaGreatDoor
