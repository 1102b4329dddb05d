/- Words of 32 bits as bit vectors; rows of them; a word's four bytes: plain lemmas, no program. -/
import Derived.Test.YtclpbaokadfhhaaMem
namespace Go.Proofs.Ytclpbaokadfhhaa
open Go.RowKit

/-- A word of 32 bits as the number that a slot holds. -/
def V (x : BitVec 32) : Int := x.toNat
theorem V_lo (x : BitVec 32) : 0 ≤ V x := by unfold V; omega
theorem V_hi (x : BitVec 32) : V x < 4294967296 := by unfold V; have := x.isLt; omega
theorem V_le (x : BitVec 32) : V x ≤ 4294967295 := by have := V_hi x; omega
theorem V_wrap (x : BitVec 32) : IntKind.u32.wrap (V x) = V x := by
  rw [IntKind.wrap_u32]; have h1 := V_lo x; have h2 := V_hi x; omega
theorem V_add (x y : BitVec 32) : IntKind.u32.wrap (V x + V y) = V (x + y) := by
  rw [IntKind.wrap_u32]; unfold V; rw [BitVec.toNat_add]; simp
theorem V_ofInt (x : BitVec 32) : BitVec.ofInt 32 (V x) = x := by
  unfold V; rw [BitVec.ofInt_natCast]; simp
theorem V_xor (x y : BitVec 32) : bits .xor .u32 (V x) (V y) = V (x ^^^ y) := by
  show IntKind.u32.wrap ((BitVec.ofInt 32 (V x) ^^^ BitVec.ofInt 32 (V y)).toNat : Int) = _
  rw [V_ofInt, V_ofInt]; exact V_wrap _
theorem V_or (x y : BitVec 32) : bits .or .u32 (V x) (V y) = V (x ||| y) := by
  show IntKind.u32.wrap ((BitVec.ofInt 32 (V x) ||| BitVec.ofInt 32 (V y)).toNat : Int) = _
  rw [V_ofInt, V_ofInt]; exact V_wrap _
theorem V_shl (x : BitVec 32) (k : Nat) : IntKind.u32.wrap (V x * 2 ^ k) = V (x <<< k) := by
  rw [IntKind.wrap_u32]; unfold V; rw [BitVec.toNat_shiftLeft, Nat.shiftLeft_eq]
  simp
theorem V_shr (x : BitVec 32) (k : Nat) : V x / 2 ^ k = V (x >>> k) := by
  unfold V; rw [BitVec.toNat_ushiftRight, Nat.shiftRight_eq_div_pow]
  simp
theorem V_of (n : Nat) (h : n < 4294967296) : (n : Int) = V (BitVec.ofNat 32 n) := by
  unfold V; rw [BitVec.toNat_ofNat, Nat.mod_eq_of_lt (by simpa using h)]

theorem V_add' (x y : BitVec 32) : (V x + V y) % 4294967296 = V (x + y) := by rw [← V_add, IntKind.wrap_u32]
theorem V_shl' (x : BitVec 32) (k : Nat) : V x * 2 ^ k % 4294967296 = V (x <<< k) := by rw [← V_shl, IntKind.wrap_u32]
theorem V_mod (x : BitVec 32) : V x % 4294967296 = V x := by have h1 := V_lo x; have h2 := V_hi x; omega
theorem byte_at (s : ByteArray) (k : Nat) (h : k < s.size) : s[k] = s.data.toList.getD k 0 := by
  have h2 : k < s.data.toList.length := by simpa using h
  rw [List.getD_eq_getElem?_getD, List.getElem?_eq_getElem h2]
  simp [ByteArray.getElem_eq_getElem_data]

/-- a row of words of 32 bits as cells -/
def Vs (l : List (BitVec 32)) : Array Value := (l.map fun x => Value.int .u32 (V x)).toArray
theorem Vs_size (l : List (BitVec 32)) : (Vs l).size = l.length := by simp [Vs]
theorem Vs_get (l : List (BitVec 32)) (i : Nat) : (Vs l)[i]? = l[i]?.map fun x => Value.int .u32 (V x) := by simp [Vs]
theorem Vs_at (l : List (BitVec 32)) (i : Nat) (h : i < l.length) : (Vs l)[i]? = some (.int .u32 (V (l.getD i 0))) := by
  rw [Vs_get, List.getElem?_eq_getElem h]; simp [List.getD, List.getElem?_eq_getElem h]
theorem Vs_set (l : List (BitVec 32)) (i : Nat) (x : BitVec 32) : (Vs l).setIfInBounds i (.int .u32 (V x)) = Vs (l.set i x) := by
  simp [Vs, List.map_set]
theorem Vs_one (l : List (BitVec 32)) : (Vs l).all (·.oneCell') = true := by
  rw [Array.all_eq_true_iff_forall_mem]
  intro v hv
  simp only [Vs, List.mem_toArray, List.mem_map] at hv
  obtain ⟨x, _, rfl⟩ := hv
  rfl
theorem Bs_one (l : List UInt8) : (Bs l).all (·.oneCell') = true := by
  rw [Array.all_eq_true_iff_forall_mem]
  intro v hv
  simp only [Bs, List.mem_toArray, List.mem_map] at hv
  obtain ⟨x, _, rfl⟩ := hv
  rfl

namespace Cc
/-- turned to the left -/
def rotl (x : BitVec 32) (n : Nat) : BitVec 32 := x <<< n ||| x >>> (32 - n)
/-- k bytes, the lowest first, as a word -/
def wd (f : Nat → UInt8) : Nat → BitVec 32
  | 0 => 0
  | k + 1 => wd f k ||| BitVec.ofNat 32 (f k).toNat <<< (8 * k)
/-- byte k of a word, the lowest first -/
def byteAt (x : BitVec 32) (k : Nat) : UInt8 := UInt8.ofNat (x >>> (8 * k)).toNat
def put (l : List UInt8) (off : Nat) (x : BitVec 32) : Nat → List UInt8
  | 0 => l
  | k + 1 => (put l off x k).set (off + k) (byteAt x k)
theorem put_length (l : List UInt8) (off : Nat) (x : BitVec 32) (k : Nat) : (put l off x k).length = l.length := by
  induction k with
  | zero => rfl
  | succ k ih => simp [put, ih]
theorem byteAt_eq (x : BitVec 32) (k : Nat) : V x / 2 ^ (8 * k) % 256 = ((byteAt x k).toNat : Int) := by
  rw [V_shr]; unfold byteAt V; simp
/-- one step of a quarter -/
def mix (l : List (BitVec 32)) (g b t n : Nat) : List (BitVec 32) :=
  (l.set g (l.getD g 0 + l.getD b 0)).set t (rotl (l.getD t 0 ^^^ (l.getD g 0 + l.getD b 0)) n)
theorem mix_length (l : List (BitVec 32)) (g b t n : Nat) : (mix l g b t n).length = l.length := by simp [mix]
def quarter (l : List (BitVec 32)) (a b c d : Nat) : List (BitVec 32) := mix (mix (mix (mix l a b d 16) c d b 12) a b d 8) c d b 7
theorem quarter_length (l : List (BitVec 32)) (a b c d : Nat) : (quarter l a b c d).length = l.length := by simp [quarter, mix_length]
def stir (l : List (BitVec 32)) : List (BitVec 32) :=
  quarter (quarter (quarter (quarter (quarter (quarter (quarter (quarter l 0 4 8 12) 1 5 9 13) 2 6 10 14) 3 7 11 15) 0 5 10 15) 1 6 11 12) 2 7 8 13) 3 4 9 14
theorem stir_length (l : List (BitVec 32)) : (stir l).length = l.length := by simp [stir, quarter_length]
end Cc

theorem getD_set_ne {α : Type} (l : List α) (i j : Nat) (x d : α) (h : i ≠ j) : (l.set i x).getD j d = l.getD j d := by
  simp [List.getD, h]
theorem getD_set_eq {α : Type} (l : List α) (i : Nat) (x d : α) (h : i < l.length) : (l.set i x).getD i d = x := by
  simp [List.getD, h]

end Go.Proofs.Ytclpbaokadfhhaa
