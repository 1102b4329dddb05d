/- Contracts of cipher.word, cipher.putWord, RotateLeft32. -/
import Derived.Test.YtclpbaokadfhhaaRow
import Derived.Test.YtclpbaokadfhhaaCBv
namespace Go.Proofs.Ytclpbaokadfhhaa
open Go.RowKit

theorem cwd_step (x : BitVec 32) (c : UInt8) (k : Nat) : bits BinOp.or IntKind.u32 (V x) ((c.toNat : Int) % 4294967296 * 2 ^ (8 * k) % 4294967296) = V (x ||| BitVec.ofNat 32 c.toNat <<< (8 * k)) := by
  have h : c.toNat < 256 := c.toNat_lt
  rw [V_of c.toNat (by omega), V_mod, V_shl', V_or]

set_option maxRecDepth 100000 in
set_option maxHeartbeats 400000 in
theorem cword_any (s : ByteArray) (f : Nat → UInt8) (w : World) (hs : 4 ≤ s.size) (hm : s.size ≤ 9223372036854775807) (hf : ∀ i, i < 4 → s.data.toList.getD i 0 = f i) :
    Calls Try.prog 59 #[.string s] w fun e w' => e = .returned (.int .u32 (V (Cc.wd f 4))) ∧ w' = w := by
  go_enter Try.func59, Try.ntmps59
  go_wp2
  go_loop [3, 5] (fun x i => ∃ k : Nat, k ≤ 4 ∧ i = .int .i64 k ∧ x = .int .u32 (V (Cc.wd f k))) (fun _ i => 4 - (intOf i).toNat)
  case atStart => exact ⟨0, Nat.zero_le _, rfl, rfl⟩
  case round =>
    obtain ⟨k, hk, rfl, rfl⟩ := hrel
    by_cases hlt : k < 4
    · have hc := hf k hlt
      clear hf
      have HW : Hid _ := cwd_step (Cc.wd f k) (f k) k
      have hkb : k < s.size := by omega
      rw [← byte_at s k hkb] at hc
      go_wp2
      go_round
      case rel => exact ⟨k + 1, by omega, by go_num, int_eq HW.out⟩
      case measure => simp [intOf]; omega
    · have : k = 4 := by omega
      subst this
      go_wp2
      go_ret
      exact ⟨rfl, rfl⟩

set_option maxRecDepth 100000 in
set_option maxHeartbeats 400000 in
theorem cputWord_any (b off len cap t : Nat) (l : List UInt8) (x : BitVec 32) (w : World) (hl : 4 ≤ len) (hm : len ≤ 9223372036854775807) (_hcap : len ≤ cap)
    (hb : Blk w b (Bs l) t) (hlen : off + 4 ≤ l.length) :
    Calls Try.prog 39 #[.slice (some ⟨b, off, none⟩) len cap, .int .u32 (V x)] w fun e w' => e = .returned (.tuple #[]) ∧ w' = w.setRow b (Bs (Cc.put l off x 4)) := by
  go_enter Try.func39, Try.ntmps39
  go_wp2
  go_loopw [5] (fun i wr => ∃ k : Nat, k ≤ 4 ∧ i = .int .i64 k ∧ wr = w.setRow b (Bs (Cc.put l off x k))) (fun i _ => 4 - (intOf i).toNat)
  case atStart => exact ⟨0, Nat.zero_le _, rfl, (setRow_self w b _ t (0, 0) hb).symm⟩
  case round =>
    obtain ⟨k, hk, rfl, rfl⟩ := hrel
    by_cases hlt : k < 4
    · have h1 := (hb.row (Bs (Cc.put l off x k))).cell (off + k)
      rw [Bs_at _ _ (by rw [Cc.put_length]; omega)] at h1
      have h2 := (hb.row (Bs (Cc.put l off x k))).frozen (off + k)
      go_wp2
      go_roundw
      case rel => exact ⟨k + 1, by omega, by go_num, by rw [Cc.byteAt_eq, (hb.row _).set, setRow_setRow, Bs_set]; rfl⟩
      case measure => simp [intOf]; omega
    · have : k = 4 := by omega
      subst this
      go_wp2
      go_end0
      exact ⟨rfl, rfl⟩

theorem and31 (n : Nat) (h : n < 32) : bits BinOp.and IntKind.u64 (n : Int) 31 = n := by
  rw [show (31 : Int) = ((31 : Nat) : Int) from rfl, bits_and_u64_nat _ _ (by omega) (by omega)]
  have h31 : (31 : Nat) = 2 ^ 5 - 1 := rfl
  rw [h31, Nat.and_two_pow_sub_one_eq_mod, Nat.mod_eq_of_lt (by omega)]

set_option maxRecDepth 100000 in
set_option maxHeartbeats 400000 in
theorem rotl_any (x : BitVec 32) (m : Int) (w : World) (h0 : 0 < m) (hn : m < 32) :
    Calls Try.prog 75 #[.int .u32 (V x), .int .i64 m] w fun e w' => e = .returned (.int .u32 (V (Cc.rotl x m.toNat))) ∧ w' = w := by
  obtain ⟨n, rfl⟩ := Int.eq_ofNat_of_zero_le (by omega : 0 ≤ m)
  rw [Int.toNat_natCast]
  have e1 := and31 n (by omega)
  have HH : Hid (bits BinOp.or IntKind.u32 (V x * 2 ^ n % 4294967296) (V x / 2 ^ (32 - n)) = V (Cc.rotl x n)) := by
    have : bits BinOp.or IntKind.u32 (V x * 2 ^ n % 4294967296) (V x / 2 ^ (32 - n)) = V (Cc.rotl x n) := by rw [V_shl', V_shr, V_or]; rfl
    exact this
  go_enter Try.func75, Try.ntmps75
  go_wp2
  go_ret
  exact ⟨ret_int HH.out, rfl⟩

end Go.Proofs.Ytclpbaokadfhhaa
