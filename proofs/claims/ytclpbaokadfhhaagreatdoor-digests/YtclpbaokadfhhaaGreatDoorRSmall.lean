/- Contracts of the small functions of the document's own digest. -/
import Derived.Test.YtclpbaokadfhhaaGreatDoorMc
import Derived.Test.YtclpbaokadfhhaaGreatDoorMb
import Derived.Deep.QuietTactic
import Derived.BigQuiet
namespace Go.Proofs.YtclpbaokadfhhaaGreatDoor
open Go.RowKit

theorem rot_comm (x : BitVec 64) (n : Nat) : x >>> n ||| x <<< (64 - n) = Sha.rot x n := BitVec.or_comm _ _

set_option maxRecDepth 100000 in
set_option maxHeartbeats 400000 in
theorem rright_any (x : BitVec 64) (m : Int) (w : World) (h0 : 0 < m) (hn : m < 64) :
    Calls Tryz.prog 142 #[.int .u64 (U x), .int .i64 m] w fun e w' => e = .returned (.int .u64 (U (Sha.rot x m.toNat))) ∧ ∃ nq, w' = w.drewN nq := by
  obtain ⟨n, rfl⟩ := Int.eq_ofNat_of_zero_le (by omega : 0 ≤ m)
  rw [Int.toNat_natCast]
  have HH : Hid (bits BinOp.or IntKind.u64 (U x / 2 ^ n) (IntKind.u64.wrap (U x * 2 ^ (64 - n))) = U (Sha.rot x n)) := by
    show _ = _
    rw [U_shl, U_shr, U_or, rot_comm]
  have i1 : (0 : Int) ≤ 64 - (n : Int) := by omega
  have i2 : ¬ (64 - (n : Int) < 0) := by omega
  go_enter Tryz.func142, Tryz.ntmps142
  go_wp2
  go_quiet (fail)
  go_wp2
  go_ret
  exact ⟨ret_int HH.out, _, rfl⟩

set_option maxRecDepth 100000 in
set_option maxHeartbeats 400000 in
theorem rword_any (s : ByteArray) (w : World) (hs : s.size = 8) :
    Calls Tryz.prog 141 #[.string s] w fun e w' => e = .returned (.int .u64 (U (Sha.wd (fun i => s.data.toList.getD i 0) 8))) ∧ w' = w := by
  generalize hf : (fun i => s.data.toList.getD i 0) = f
  have HF : Hid _ := hf
  clear hf
  go_enter Tryz.func141, Tryz.ntmps141
  go_wp2
  go_loop [3, 4] (fun x i => ∃ k : Nat, k ≤ 8 ∧ i = .int .i64 k ∧ x = .int .u64 (U (Sha.wd f k))) (fun _ i => 8 - (intOf i).toNat)
  case atStart => exact ⟨0, Nat.zero_le _, rfl, rfl⟩
  case round =>
    obtain ⟨k, hk, rfl, rfl⟩ := hrel
    by_cases hlt : k < 8
    · have hks : k < s.size := by omega
      have i0 : (k : Int) < 8 := by omega
      have e1 : s[k] = f k := by
        rw [← show (fun i => s.data.toList.getD i 0) = f from HF.out]
        have h2 : k < s.data.toList.length := by simpa using hks
        simp [List.getD, List.getElem?_eq_getElem h2]
        rfl
      have HW : Hid (bits BinOp.or IntKind.u64 (IntKind.u64.wrap (U (Sha.wd f k) * 256)) (IntKind.u64.wrap ((f k).toNat : Int)) = _) := wd_step (Sha.wd f k) (f k)
      have E1 : Hid _ := e1
      clear e1
      go_wp2
      go_round
      case rel => exact ⟨k + 1, by omega, by go_num, int_eq (by rw [show s[k] = f k from E1.out]; exact HW.out)⟩
      case measure => simp [intOf]; omega
    · have : k = 8 := by omega
      subst this
      go_wp2
      go_ret
      exact ⟨rfl, rfl⟩

/-- eight bytes, the highest first -/
def Sha.be (x : BitVec 64) : Nat → List UInt8
  | 0 => []
  | k + 1 => Sha.be x k ++ [Sha.byteAt x k]
theorem Sha.be_length (x : BitVec 64) (k : Nat) : (Sha.be x k).length = k := by
  induction k with
  | zero => rfl
  | succ k ih => simp [Sha.be, ih]

theorem byte_cells (c : UInt8) : (#[Value.int .u8 (c.toNat : Int)] : Array Value) = Bs [c] := rfl
/-- string(b), b a row of bytes, by the type's numbers -/
theorem stringOf' {w : World} {b t cap : Nat} {l : List UInt8} (hb : Blk w b (Bs l) t) (n : Nat) (hn : n = l.length) :
    (convert 55 9 (.slice (some ⟨b, 0, none⟩) n cap)).run Tryz.prog w = .ok (.string ⟨l.toArray⟩) w := stringOf hb n hn

set_option maxRecDepth 100000 in
set_option maxHeartbeats 1000000 in
theorem highest_any (x : BitVec 64) (w : World) :
    Calls Tryz.prog 76 #[.int .u64 (U x)] w fun e w' => e = .returned (.string ⟨(Sha.be x 8).toArray⟩) ∧ Below w.heap.size w w' := by
  go_enter Tryz.func76, Tryz.ntmps76
  go_wp2
  go_loopw [3, 4] (fun s i wr => ∃ k : Nat, k ≤ 8 ∧ i = .int .i64 (56 - 8 * (k : Int)) ∧ s = .string ⟨(Sha.be x k).toArray⟩ ∧ Below w.heap.size w wr) (fun _ i _ => (intOf i + 8).toNat)
  case atStart => exact ⟨0, by omega, rfl, rfl, Below.refl _ _⟩
  case round =>
    obtain ⟨k, hk, rfl, rfl, hbel⟩ := hrel
    by_cases hlt : k < 8
    · have i0 : (0 : Int) ≤ 56 - 8 * (k : Int) := by omega
      have i1 : ¬ (56 - 8 * (k : Int) < 0) := by omega
      have e1 : (56 - 8 * (k : Int)).toNat = 56 - 8 * k := by omega
      have e2 := byteAt_eq x k
      have hcv := stringOf (cap := 1) (Blk.new wr (Bs [Sha.byteAt x k]) 5) 1 rfl
      rw [← byte_cells, ← e2] at hcv
      have hl := Sha.be_length x k
      have hL : Hid (Sha.be x (k + 1) = Sha.be x k ++ [Sha.byteAt x k]) := rfl
      generalize hbk : Sha.be x k = L at hl hL
      have HBK : Hid _ := hbk
      clear hbk e2
      generalize Sha.byteAt x k = cb at hcv hL
      go_wp2
      go_roundw
      case rel =>
        refine ⟨k + 1, by omega, int_eq (by omega), ?_, hbel.alloc hbel.size _⟩
        rw [show Sha.be x (k + 1) = L ++ [cb] from hL.out]
        exact congrArg Value.string (ByteArray.mk_append_mk L [cb])
      case measure => simp [intOf]; omega
    · have hk8 : k = 8 := by omega
      subst hk8
      go_wp2
      go_ret
      exact ⟨rfl, hbel⟩

/-- the constants, as a row of words -/
def Sha.rootsW : List (BitVec 64) := Sha.roots.map (BitVec.ofNat 64)
theorem Sha.rootsW_at (i : Nat) (h : i < 80) : (Ws Sha.rootsW)[i]? = some (.int .u64 (U (Sha.K i))) := by
  have h2 : i < Sha.rootsW.length := by unfold Sha.rootsW; rw [List.length_map]; exact h
  rw [Ws_at _ _ h2]
  congr 3
  have h3 : i < Sha.roots.length := h
  simp [Sha.rootsW, Sha.K, List.getD, List.getElem?_eq_getElem h3]

set_option maxRecDepth 100000 in
set_option maxHeartbeats 1000000 in
theorem roots_any (w : World) :
    Calls Tryz.prog 77 #[] w fun e w' => e = .returned (.slice (some ⟨w.heap.size, 0, none⟩) 80 80) ∧ w' = w.alloc (.cells (Ws Sha.rootsW) 67) := by
  go_enter Tryz.func77, Tryz.ntmps77
  go_wp2
  go_ret
  refine ⟨rfl, ?_⟩
  kernel_rfl

end Go.Proofs.YtclpbaokadfhhaaGreatDoor
