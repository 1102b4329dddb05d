/- Contracts of the small functions of package digest. -/
import Derived.Test.YtclpbaokadfhhaaDoorProg
import Derived.Test.YtclpbaokadfhhaaDoorSha
import Derived.Test.YtclpbaokadfhhaaDoorMem
namespace Go.Proofs.YtclpbaokadfhhaaDoor
open Go.RowKit

theorem and63 (n : Nat) (h : n < 64) : bits BinOp.and IntKind.u64 (IntKind.u64.wrap (-(n : Int))) 63 = ((64 - n) % 64 : Nat) := by
  by_cases h0 : n = 0
  · subst h0; decide
  · have e : IntKind.u64.wrap (-(n : Int)) = ((18446744073709551616 - n : Nat) : Int) := by
      rw [IntKind.wrap_u64]; omega
    rw [e, show (63 : Int) = ((63 : Nat) : Int) from rfl, bits_and_u64_nat _ _ (by omega) (by omega)]
    have h63 : (63 : Nat) = 2 ^ 6 - 1 := rfl
    rw [h63, Nat.and_two_pow_sub_one_eq_mod]
    congr 1
    omega

set_option maxRecDepth 100000 in
set_option maxHeartbeats 400000 in
theorem right_any (x : BitVec 64) (m : Int) (w : World) (h0 : 0 < m) (hn : m < 64) :
    Calls Tryd.prog 74 #[.int .u64 (U x), .int .i64 m] w fun e w' => e = .returned (.int .u64 (U (Sha.rot x m.toNat))) ∧ w' = w := by
  obtain ⟨n, rfl⟩ := Int.eq_ofNat_of_zero_le (by omega : 0 ≤ m)
  rw [Int.toNat_natCast]
  have e1 := and63 n (by omega)
  rw [Nat.mod_eq_of_lt (by omega : 64 - n < 64)] at e1
  have e2 : ((64 - n : Nat) : Int) = 64 - (n : Int) := by omega
  rw [e2] at e1
  have hend : bits BinOp.or IntKind.u64 (IntKind.u64.wrap (U x * 2 ^ (64 - n))) (U x / 2 ^ (64 - (64 - n))) = U (Sha.rot x n) := by
    rw [show 64 - (64 - n) = n by omega, U_shl, U_shr, U_or]; rfl
  have H := hend; clear hend
  have HH : Hid (bits BinOp.or IntKind.u64 (IntKind.u64.wrap (U x * 2 ^ (64 - n))) (U x / 2 ^ (64 - (64 - n))) = U (Sha.rot x n)) := H
  clear H
  go_enter Tryd.func74, Tryd.ntmps74
  go_wp2
  go_ret
  exact ⟨ret_int HH.out, rfl⟩

theorem U_shr' (x : BitVec 64) (k : Int) (n : Nat) (h : (2 : Int) ^ n = k) : U x / k = U (x >>> n) := by rw [← h, U_shr]

set_option maxRecDepth 100000 in
set_option maxHeartbeats 400000 in
theorem smallZero_any (x : BitVec 64) (w : World) :
    Calls Tryd.prog 54 #[.int .u64 (U x)] w fun e w' => e = .returned (.int .u64 (U (Sha.sm0 x))) ∧ w' = w := by
  go_enter Tryd.func54, Tryd.ntmps54
  go_wp2_with (go_at_call 74; refine (right_any _ _ _ (by decide) (by decide)).mono ?_; rintro e w' ⟨rfl, rfl⟩)
  go_ret
  exact ⟨ret_int (by rw [U_xor, U_shr' x _ 7 (by decide), U_xor]; rfl), rfl⟩

set_option maxRecDepth 100000 in
set_option maxHeartbeats 400000 in
theorem smallOne_any (x : BitVec 64) (w : World) :
    Calls Tryd.prog 53 #[.int .u64 (U x)] w fun e w' => e = .returned (.int .u64 (U (Sha.sm1 x))) ∧ w' = w := by
  go_enter Tryd.func53, Tryd.ntmps53
  go_wp2_with (go_at_call 74; refine (right_any _ _ _ (by decide) (by decide)).mono ?_; rintro e w' ⟨rfl, rfl⟩)
  go_ret
  exact ⟨ret_int (by rw [U_xor, U_shr' x _ 6 (by decide), U_xor]; rfl), rfl⟩

set_option maxRecDepth 100000 in
set_option maxHeartbeats 400000 in
theorem bigZero_any (x : BitVec 64) (w : World) :
    Calls Tryd.prog 50 #[.int .u64 (U x)] w fun e w' => e = .returned (.int .u64 (U (Sha.bg0 x))) ∧ w' = w := by
  go_enter Tryd.func50, Tryd.ntmps50
  go_wp2_with (go_at_call 74; refine (right_any _ _ _ (by decide) (by decide)).mono ?_; rintro e w' ⟨rfl, rfl⟩)
  go_ret
  exact ⟨ret_int (by rw [U_xor, U_xor]; rfl), rfl⟩

set_option maxRecDepth 100000 in
set_option maxHeartbeats 400000 in
theorem bigOne_any (x : BitVec 64) (w : World) :
    Calls Tryd.prog 48 #[.int .u64 (U x)] w fun e w' => e = .returned (.int .u64 (U (Sha.bg1 x))) ∧ w' = w := by
  go_enter Tryd.func48, Tryd.ntmps48
  go_wp2_with (go_at_call 74; refine (right_any _ _ _ (by decide) (by decide)).mono ?_; rintro e w' ⟨rfl, rfl⟩)
  go_ret
  exact ⟨ret_int (by rw [U_xor, U_xor]; rfl), rfl⟩

set_option maxRecDepth 100000 in
set_option maxHeartbeats 400000 in
theorem majority_any (x y z : BitVec 64) (w : World) :
    Calls Tryd.prog 51 #[.int .u64 (U x), .int .u64 (U y), .int .u64 (U z)] w fun e w' => e = .returned (.int .u64 (U (Sha.maj x y z))) ∧ w' = w := by
  go_enter Tryd.func51, Tryd.ntmps51
  go_wp2
  go_ret
  exact ⟨ret_int (by rw [U_and, U_and, U_or, U_and, U_or]; rfl), rfl⟩

theorem U_max : IntKind.u64.max = U (BitVec.allOnes 64) := by unfold U; rw [BitVec.toNat_allOnes]; decide
theorem U_not (x : BitVec 64) : BitVec.allOnes 64 ^^^ x = ~~~x := BitVec.allOnes_xor

set_option maxRecDepth 100000 in
set_option maxHeartbeats 400000 in
theorem choose_any (x y z : BitVec 64) (w : World) :
    Calls Tryd.prog 49 #[.int .u64 (U x), .int .u64 (U y), .int .u64 (U z)] w fun e w' => e = .returned (.int .u64 (U (Sha.ch x y z))) ∧ w' = w := by
  go_enter Tryd.func49, Tryd.ntmps49
  go_wp2
  go_ret
  exact ⟨ret_int (by rw [U_max, U_xor, U_and, U_and, U_or, U_not]; rfl), rfl⟩

end Go.Proofs.YtclpbaokadfhhaaDoor
