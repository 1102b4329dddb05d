/- Contract of pad. -/
import Derived.Test.YtclpbaokadfhhaaDoorTell
import Derived.Lib.BufferWrite
import Derived.Lib.SlBuf
import Derived.Deep.WholeRow
namespace Go.Proofs.YtclpbaokadfhhaaDoor
open Go.RowKit

def Sha.padSize (n : Nat) : Nat := n + 17 + (128 - (n + 17) % 128) % 128
theorem Sha.padSize_le (n : Nat) : n + 17 ≤ Sha.padSize n ∧ Sha.padSize n < n + 145 ∧ Sha.padSize n % 128 = 0 := by unfold Sha.padSize; omega
/-- the bytes, a byte 128, bytes 0 -/
def Sha.pad1 (l : List UInt8) : List UInt8 := (l ++ zeros (Sha.padSize l.length - l.length)).set l.length 128
/-- .. and how many bits they are -/
def Sha.pad (l : List UInt8) : List UInt8 :=
  Sha.put (Sha.put (Sha.pad1 l) (Sha.padSize l.length - 16) (BitVec.ofNat 64 l.length >>> 61) 8) (Sha.padSize l.length - 8) (BitVec.ofNat 64 l.length <<< 3) 8
theorem Sha.pad1_length (l : List UInt8) : (Sha.pad1 l).length = Sha.padSize l.length := by
  have := Sha.padSize_le l.length
  simp [Sha.pad1, zeros_length]; omega
theorem Sha.pad_length (l : List UInt8) : (Sha.pad l).length = Sha.padSize l.length := by
  simp [Sha.pad, Sha.put_length, Sha.pad1_length]

set_option maxRecDepth 100000 in
set_option maxHeartbeats 1000000 in
theorem pad_any (s : ByteArray) (w : World) (hs : s.size ≤ 140737488351232) :
    Calls Tryd.prog 27 #[.string s] w fun e w' => e = .returned (.slice (some ⟨w.heap.size, 0, none⟩) (Sha.padSize s.size) (Sha.padSize s.size)) ∧ w' = w.alloc (.cells (Bs (Sha.pad s.data.toList)) 5) := by
  have hle := Sha.padSize_le s.size
  have hN : ((s.size : Int) + 1 + 16 + -(((s.size : Int) + 1 + 16) % 128) % 128) = (Sha.padSize s.size : Int) := by unfold Sha.padSize; omega
  have hlen : s.data.toList.length = s.size := by simp
  have hp : Sha.pad s.data.toList = Sha.put (Sha.put ((s.data.toList ++ zeros (Sha.padSize s.size - s.size)).set s.size 128) (Sha.padSize s.size - 16) (BitVec.ofNat 64 s.size >>> 61) 8) (Sha.padSize s.size - 8) (BitVec.ofNat 64 s.size <<< 3) 8 := by
    unfold Sha.pad Sha.pad1; rw [hlen]
  rw [hp]
  clear hp
  generalize Sha.padSize s.size = N at hle hN ⊢
  obtain ⟨hle1, hle2, hle3⟩ := hle
  have hmk := makeBytes N (by omega)
  have hcp := Lib.run_copy_row_string (P := Tryd.prog) (w.alloc (.cells (Bs (zeros N)) 5)) 30 9 3 5 w.heap.size 0 N N s (Bs (zeros N)) 5 Tryd.underlying30 Tryd.infoByte1 (heap_alloc_new w _) (by omega) (by rw [Bs_size, zeros_length]; omega)
  rw [copied s N, World.setRow_alloc_new] at hcp
  have hL : (s.data.toList ++ zeros (N - s.size)).length = N := by simp [zeros_length]; omega
  generalize s.data.toList ++ zeros (N - s.size) = L0 at hcp hL ⊢
  have hst : (Bs L0)[s.size]? = some (.int .u8 ((L0.getD s.size 0).toNat : Int)) := Bs_at _ _ (by omega)
  have hset := Bs_set L0 s.size 128
  rw [show (((128 : UInt8).toNat : Nat) : Int) = 128 from rfl] at hset
  have hL1 : (L0.set s.size 128).length = N := by rw [List.length_set, hL]
  generalize L0.set s.size 128 = L1 at hset hL1 ⊢
  have e1 : (s.size : Int) / 2305843009213693952 = U (BitVec.ofNat 64 s.size >>> 61) := by
    rw [← U_shr, ← U_of s.size (by omega)]; rfl
  have e2 : IntKind.u64.wrap ((s.size : Int) * 8) = U (BitVec.ofNat 64 s.size <<< 3) := by
    rw [← U_shl, ← U_of s.size (by omega)]; rfl
  have e2' : (s.size : Int) * 8 = U (BitVec.ofNat 64 s.size <<< 3) := by
    rw [← e2, IntKind.wrap_u64]; omega
  have E1 : Hid _ := e1
  have E2 : Hid _ := e2'
  clear e1 e2 e2'
  generalize BitVec.ofNat 64 s.size >>> 61 = X1 at E1 ⊢
  generalize BitVec.ofNat 64 s.size <<< 3 = X2 at E2 ⊢
  go_enter Tryd.func27, Tryd.ntmps27
  go_wp2_with fail
  rw [show (s.size : Int) / 2305843009213693952 = U X1 from E1.out]
  refine (putWord_any w.heap.size (N - 16) _ _ 5 L1 X1 _ (by omega) (by omega) (by omega) (Blk.new w _ _) (by omega)).mono ?_
  rintro e w' ⟨rfl, rfl⟩
  rw [World.setRow_alloc_new]
  go_wp2_with fail
  rw [show (s.size : Int) * 8 = U X2 from E2.out]
  refine (putWord_any w.heap.size (N - 8) _ _ 5 (Sha.put L1 (N - 16) X1 8) X2 _ (by omega) (by omega) (by omega) (Blk.new w _ _) (by rw [Sha.put_length]; omega)).mono ?_
  rintro e w' ⟨rfl, rfl⟩
  rw [World.setRow_alloc_new]
  go_wp2
  go_ret
  exact ⟨rfl, rfl⟩

end Go.Proofs.YtclpbaokadfhhaaDoor
