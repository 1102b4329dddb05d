/- Contracts of word and putWord. -/
import Derived.Test.YtclpbaokadfhhaaDoorSmall
import Derived.Test.YtclpbaokadfhhaaDoorMem
namespace Go.Proofs.YtclpbaokadfhhaaDoor
open Go.RowKit

/-- k bytes, the highest first, as a word -/
def Sha.wd (f : Nat → UInt8) : Nat → BitVec 64
  | 0 => 0
  | k + 1 => Sha.wd f k <<< 8 ||| BitVec.ofNat 64 (f k).toNat

theorem wd_step (x : BitVec 64) (c : UInt8) : bits BinOp.or IntKind.u64 (IntKind.u64.wrap (U x * 256)) (IntKind.u64.wrap (c.toNat : Int)) = U (x <<< 8 ||| BitVec.ofNat 64 c.toNat) := by
  have h : c.toNat < 256 := c.toNat_lt
  rw [show (256 : Int) = 2 ^ 8 from rfl, U_shl, U_of c.toNat (by omega), U_wrap, U_or]

set_option maxRecDepth 100000 in
set_option maxHeartbeats 400000 in
theorem word_any (b off len cap : Nat) (f : Nat → UInt8) (w : World) (hl : 8 ≤ len) (hm : len ≤ 9223372036854775807) (_hcap : len ≤ cap)
    (hc : ∀ i, i < 8 → w.cell? ⟨b, off + i, none⟩ = some (.int .u8 (f i).toNat)) :
    Calls Tryd.prog 52 #[.slice (some ⟨b, off, none⟩) len cap] w fun e w' => e = .returned (.int .u64 (U (Sha.wd f 8))) ∧ w' = w := by
  go_enter Tryd.func52, Tryd.ntmps52
  go_wp2
  go_loop [3, 9] (fun x i => ∃ k : Nat, k ≤ 8 ∧ i = .int .i64 k ∧ x = .int .u64 (U (Sha.wd f k))) (fun _ i => 8 - (intOf i).toNat)
  case atStart => exact ⟨0, Nat.zero_le _, rfl, rfl⟩
  case round =>
    obtain ⟨k, hk, rfl, rfl⟩ := hrel
    by_cases hlt : k < 8
    · have hc' := hc k hlt
      clear hc
      have HW : Hid _ := wd_step (Sha.wd f k) (f k)
      go_wp2
      go_round
      case rel => exact ⟨k + 1, by omega, by go_num, int_eq HW.out⟩
      case measure => simp [intOf]; omega
    · have : k = 8 := by omega
      subst this
      go_wp2
      go_ret
      exact ⟨rfl, rfl⟩

/-- byte k of a word, the highest first -/
def Sha.byteAt (x : BitVec 64) (k : Nat) : UInt8 := UInt8.ofNat (x >>> (56 - 8 * k)).toNat
/-- the first k bytes of a word, put from a place on -/
def Sha.put (l : List UInt8) (off : Nat) (x : BitVec 64) : Nat → List UInt8
  | 0 => l
  | k + 1 => (Sha.put l off x k).set (off + k) (Sha.byteAt x k)
theorem byteAt_eq (x : BitVec 64) (k : Nat) : U x / 2 ^ (56 - 8 * k) % 256 = ((Sha.byteAt x k).toNat : Int) := by
  rw [U_shr]; unfold Sha.byteAt U; simp
theorem Sha.put_length (l : List UInt8) (off : Nat) (x : BitVec 64) (k : Nat) : (Sha.put l off x k).length = l.length := by
  induction k with
  | zero => rfl
  | succ k ih => simp [Sha.put, ih]

set_option maxRecDepth 100000 in
set_option maxHeartbeats 400000 in
theorem putWord_any (b off len cap t : Nat) (l : List UInt8) (x : BitVec 64) (w : World) (hl : 8 ≤ len) (hm : len ≤ 9223372036854775807) (_hcap : len ≤ cap)
    (hb : Blk w b (Bs l) t) (hlen : off + 8 ≤ l.length) :
    Calls Tryd.prog 47 #[.slice (some ⟨b, off, none⟩) len cap, .int .u64 (U x)] w fun e w' => e = .returned (.tuple #[]) ∧ w' = w.setRow b (Bs (Sha.put l off x 8)) := by
  go_enter Tryd.func47, Tryd.ntmps47
  go_wp2
  go_loopw [5] (fun i wr => ∃ k : Nat, k ≤ 8 ∧ i = .int .i64 k ∧ wr = w.setRow b (Bs (Sha.put l off x k))) (fun i _ => 8 - (intOf i).toNat)
  case atStart => exact ⟨0, Nat.zero_le _, rfl, (setRow_self w b _ t (0, 0) hb).symm⟩
  case round =>
    obtain ⟨k, hk, rfl, rfl⟩ := hrel
    by_cases hlt : k < 8
    · have h1 := (hb.row (Bs (Sha.put l off x k))).cell (off + k)
      rw [Bs_at _ _ (by rw [Sha.put_length]; omega)] at h1
      have h2 := (hb.row (Bs (Sha.put l off x k))).frozen (off + k)
      go_wp2
      go_roundw
      case rel => exact ⟨k + 1, by omega, by go_num, by rw [byteAt_eq, (hb.row _).set, setRow_setRow, Bs_set]; rfl⟩
      case measure => simp [intOf]; omega
    · have : k = 8 := by omega
      subst this
      go_wp2
      go_end0
      exact ⟨rfl, rfl⟩

end Go.Proofs.YtclpbaokadfhhaaDoor
