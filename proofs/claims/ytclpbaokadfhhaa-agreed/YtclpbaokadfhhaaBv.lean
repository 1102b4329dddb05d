/- Words of 64 bits as bit vectors, in the walk's own spelling: plain lemmas, no program. -/
import Derived.WalkKit
import Derived.WalkSpells
import Derived.WalkLawsBesides
namespace Go.Proofs.Ytclpbaokadfhhaa

/-- A word as the number that a slot holds. -/
def U (x : BitVec 64) : Int := x.toNat
theorem U_def (x : BitVec 64) : U x = (x.toNat : Int) := rfl
theorem U_lo (x : BitVec 64) : 0 ≤ U x := by unfold U; omega
theorem U_hi (x : BitVec 64) : U x < 18446744073709551616 := by unfold U; have := x.isLt; omega
theorem U_le (x : BitVec 64) : U x ≤ 18446744073709551615 := by have := U_hi x; omega
theorem U_wrap (x : BitVec 64) : IntKind.u64.wrap (U x) = U x := by
  rw [IntKind.wrap_u64]; have h1 := U_lo x; have h2 := U_hi x; omega
theorem U_add (x y : BitVec 64) : IntKind.u64.wrap (U x + U y) = U (x + y) := by
  rw [IntKind.wrap_u64]; unfold U; rw [BitVec.toNat_add]; simp
theorem U_xor (x y : BitVec 64) : bits .xor .u64 (U x) (U y) = U (x ^^^ y) := by
  unfold U; rw [bits_xor_u64_nat _ _ x.isLt y.isLt, BitVec.toNat_xor]
theorem U_and (x y : BitVec 64) : bits .and .u64 (U x) (U y) = U (x &&& y) := by
  unfold U; rw [bits_and_u64_nat _ _ x.isLt y.isLt, BitVec.toNat_and]
theorem U_or (x y : BitVec 64) : bits .or .u64 (U x) (U y) = U (x ||| y) := by
  unfold U; rw [bits_or_u64_nat _ _ x.isLt y.isLt, BitVec.toNat_or]
theorem U_shl (x : BitVec 64) (k : Nat) : IntKind.u64.wrap (U x * 2 ^ k) = U (x <<< k) := by
  rw [IntKind.wrap_u64]; unfold U; rw [BitVec.toNat_shiftLeft, Nat.shiftLeft_eq]
  simp
theorem U_shr (x : BitVec 64) (k : Nat) : U x / 2 ^ k = U (x >>> k) := by
  unfold U; rw [BitVec.toNat_ushiftRight, Nat.shiftRight_eq_div_pow]
  simp
theorem U_of (n : Nat) (h : n < 18446744073709551616) : (n : Int) = U (BitVec.ofNat 64 n) := by
  unfold U; rw [BitVec.toNat_ofNat, Nat.mod_eq_of_lt (by simpa using h)]
theorem U_ofInt (n : Int) (h0 : 0 ≤ n) (h : n < 18446744073709551616) : n = U (BitVec.ofNat 64 n.toNat) := by
  rw [← U_of n.toNat (by omega)]; omega
theorem U_inj {x y : BitVec 64} (h : U x = U y) : x = y := by
  unfold U at h; exact BitVec.eq_of_toNat_eq (by omega)

end Go.Proofs.Ytclpbaokadfhhaa
