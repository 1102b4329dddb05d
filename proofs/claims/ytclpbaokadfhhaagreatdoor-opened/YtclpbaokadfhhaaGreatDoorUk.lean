/- Several texts as one: Shr, Keep. -/
import Derived.Test.YtclpbaokadfhhaaGreatDoorZa
namespace Go.Proofs.YtclpbaokadfhhaaGreatDoor
open Go.RowKit

def shortB (s : ByteArray) (n : Nat) : ByteArray := if n < s.size then s.extract 0 n else s
theorem shortB_size (s : ByteArray) (n : Nat) : (shortB s n).size ≤ n := by
  unfold shortB; split
  · simp; omega
  · omega

set_option maxRecDepth 100000 in
set_option maxHeartbeats 400000 in
theorem short_any (s : ByteArray) (m : Int) (w : World) (_hs : s.size ≤ 9223372036854775807) (hn0 : 0 ≤ m) (hn : m ≤ 1000000) :
    Calls Tryz.prog 11 #[.string s, .int .i64 m] w fun e w' => e = .returned (.string (shortB s m.toNat)) ∧ w' = w := by
  obtain ⟨n, rfl⟩ := Int.eq_ofNat_of_zero_le hn0
  rw [Int.toNat_natCast]
  by_cases h : n < s.size
  · have e1 : shortB s n = s.extract 0 n := by unfold shortB; rw [if_pos h]
    rw [e1]
    clear e1
    go_enter Tryz.func11, Tryz.ntmps11
    go_wp2
    go_ret
    exact ⟨rfl, rfl⟩
  · have e1 : shortB s n = s := by unfold shortB; rw [if_neg h]
    rw [e1]
    clear e1
    go_enter Tryz.func11, Tryz.ntmps11
    go_wp2
    go_ret
    exact ⟨rfl, rfl⟩
end Go.Proofs.YtclpbaokadfhhaaGreatDoor

namespace Go.Proofs.YtclpbaokadfhhaaGreatDoor
open Go.RowKit

set_option maxRecDepth 100000 in
set_option maxHeartbeats 400000 in
theorem sized_any (s : ByteArray) (m : Int) (w : World) (hs : s.size ≤ 140737488351232) (hn0 : 0 ≤ m) (hn : m ≤ 1000000) :
    Calls Tryz.prog 10 #[.string s, .int .i64 m] w fun e w' => ∃ x : ByteArray, x.size = m.toNat ∧ e = .returned (.string x) ∧ w' = w := by
  obtain ⟨n, rfl⟩ := Int.eq_ofNat_of_zero_le hn0
  rw [Int.toNat_natCast]
  go_enter Tryz.func10, Tryz.ntmps10
  go_wp2
  go_loop [0] (fun v => ∃ x : ByteArray, 1 ≤ x.size ∧ x.size ≤ s.size + 2000001 ∧ v = .string x) (fun v => match v with | .string x => n - x.size | _ => 0)
  case atStart =>
    have h1 : (⟨#[1]⟩ : ByteArray).size = 1 := rfl
    exact ⟨_, by rw [ByteArray.size_append]; omega, by rw [ByteArray.size_append]; omega, rfl⟩
  case round =>
    obtain ⟨x, h1, h2, rfl⟩ := hrel
    by_cases hlt : x.size < n
    · go_wp2
      go_round
      case rel => exact ⟨_, by simp [ByteArray.size_append]; omega, by simp [ByteArray.size_append]; omega, rfl⟩
      case measure => simp [ByteArray.size_append]; omega
    · go_wp2
      go_ret
      exact ⟨_, by simp; omega, rfl, rfl⟩

end Go.Proofs.YtclpbaokadfhhaaGreatDoor
