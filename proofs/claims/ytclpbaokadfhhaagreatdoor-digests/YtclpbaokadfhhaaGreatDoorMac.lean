/- Contract of Mac. -/
import Derived.Test.YtclpbaokadfhhaaGreatDoorMask
namespace Go.Proofs.YtclpbaokadfhhaaGreatDoor
open Go.RowKit

def Sha.OfB (K : Nat → BitVec 64) (s : ByteArray) : ByteArray := ⟨(Sha.digest K s.data.toList).toArray⟩
def Sha.MaskB (s : ByteArray) (c : UInt8) : ByteArray := ⟨(Sha.mask s.data.toList c).toArray⟩
theorem Sha.OfB_size (K : Nat → BitVec 64) (s : ByteArray) : (Sha.OfB K s).size = 64 := by
  show (Sha.digest K s.data.toList).toArray.size = 64
  simp [Sha.digest, Sha.tellTo_length]
theorem Sha.MaskB_size (s : ByteArray) (c : UInt8) (h : s.size ≤ 128) : (Sha.MaskB s c).size = 128 := by
  have : s.data.toList.length = s.size := by simp
  show (Sha.mask s.data.toList c).toArray.size = 128
  simp [Sha.mask, Sha.maskTo_length, zeros_length]; omega
theorem of_b (K : Nat → BitVec 64) (s : ByteArray) (w : World) (hs : s.size ≤ 140737488351232) (hK : Tab K w) :
    Calls Tryz.prog 113 #[.string s] w fun e w' => e = .returned (.string (Sha.OfB K s)) ∧ Below w.heap.size w w' := of_any K s w hs hK
theorem mask_b (s : ByteArray) (c : Int) (C : UInt8) (hc : c = (C.toNat : Int)) (w : World) (hs : s.size ≤ 128) :
    Calls Tryz.prog 187 #[.string s, .int .u8 c] w fun e w' => e = .returned (.string (Sha.MaskB s C)) ∧ Below w.heap.size w w' := mask_any s c C hc w hs

/-- the mac by a key of at most 128 bytes -/
def Sha.MacK (K : Nat → BitVec 64) (key data : ByteArray) : ByteArray := Sha.OfB K (Sha.MaskB key 92 ++ Sha.OfB K (Sha.MaskB key 54 ++ data))
def Sha.KeyB (K : Nat → BitVec 64) (key : ByteArray) : ByteArray := if 128 < key.size then Sha.OfB K key else key
def Sha.MacB (K : Nat → BitVec 64) (key data : ByteArray) : ByteArray := Sha.MacK K (Sha.KeyB K key) data
theorem Sha.MacB_size (K : Nat → BitVec 64) (key data : ByteArray) : (Sha.MacB K key data).size = 64 := Sha.OfB_size _ _
theorem Sha.KeyB_size (K : Nat → BitVec 64) (key : ByteArray) : (Sha.KeyB K key).size ≤ 128 := by
  unfold Sha.KeyB; split
  · rw [Sha.OfB_size]; omega
  · omega

set_option maxRecDepth 100000 in
set_option maxHeartbeats 1000000 in
theorem mac_any (K : Nat → BitVec 64) (key data : ByteArray) (w : World) (hk : key.size ≤ 1000000) (hd : data.size ≤ 1000000) (hK : Tab K w) :
    Calls Tryz.prog 126 #[.string key, .string data] w fun e w' => e = .returned (.string (Sha.MacB K key data)) ∧ Below w.heap.size w w' := by
  have hmk := Sha.KeyB_size K key
  by_cases hlong : 128 < key.size
  · have hkey : Sha.KeyB K key = Sha.OfB K key := by unfold Sha.KeyB; rw [if_pos hlong]
    unfold Sha.MacB
    rw [hkey] at hmk ⊢
    clear hkey
    have e92 := Sha.MaskB_size (Sha.OfB K key) 92 hmk
    have e54 := Sha.MaskB_size (Sha.OfB K key) 54 hmk
    have e64 := Sha.OfB_size K (Sha.MaskB (Sha.OfB K key) 54 ++ data)
    have hL : (128 : Int) < key.size := by omega
    go_enter Tryz.func126, Tryz.ntmps126
    go_wp2_with fail
    refine (of_b K key _ (by omega) hK).mono ?_
    rintro e w1 ⟨rfl, hb1⟩
    go_wp2_with fail
    refine (mask_b _ _ 92 rfl _ hmk).mono ?_
    rintro e w2 ⟨rfl, hb2⟩
    go_wp2_with fail
    refine (mask_b _ _ 54 rfl _ hmk).mono ?_
    rintro e w3 ⟨rfl, hb3⟩
    have hb13 := (hb1.trans (hb2.mono hb1.size))
    have hb14 := (hb13.trans (hb3.mono hb13.size))
    have hK3 := hK.below hb14
    go_wp2_with fail
    refine (of_b K _ _ (by rw [ByteArray.size_append]; omega) hK3).mono ?_
    rintro e w4 ⟨rfl, hb4⟩
    have hb15 := (hb14.trans (hb4.mono hb14.size))
    have hK4 := hK.below hb15
    go_wp2_with fail
    refine (of_b K _ _ (by rw [ByteArray.size_append, Sha.OfB_size]; omega) hK4).mono ?_
    rintro e w5 ⟨rfl, hb5⟩
    go_wp2
    go_ret
    exact ⟨rfl, hb15.trans (hb5.mono hb15.size)⟩
  · have hkey : Sha.KeyB K key = key := by unfold Sha.KeyB; rw [if_neg hlong]
    unfold Sha.MacB
    rw [hkey] at hmk ⊢
    clear hkey
    have e92 := Sha.MaskB_size key 92 hmk
    have e54 := Sha.MaskB_size key 54 hmk
    have e64 := Sha.OfB_size K (Sha.MaskB key 54 ++ data)
    have hL : ¬ (128 : Int) < key.size := by omega
    have hb1 := Below.refl w.heap.size w
    go_enter Tryz.func126, Tryz.ntmps126
    go_wp2_with fail
    refine (mask_b _ _ 92 rfl _ hmk).mono ?_
    rintro e w2 ⟨rfl, hb2⟩
    go_wp2_with fail
    refine (mask_b _ _ 54 rfl _ hmk).mono ?_
    rintro e w3 ⟨rfl, hb3⟩
    have hb13 := (hb1.trans (hb2.mono hb1.size))
    have hb14 := (hb13.trans (hb3.mono hb13.size))
    have hK3 := hK.below hb14
    go_wp2_with fail
    refine (of_b K _ _ (by rw [ByteArray.size_append]; omega) hK3).mono ?_
    rintro e w4 ⟨rfl, hb4⟩
    have hb15 := (hb14.trans (hb4.mono hb14.size))
    have hK4 := hK.below hb15
    go_wp2_with fail
    refine (of_b K _ _ (by rw [ByteArray.size_append, Sha.OfB_size]; omega) hK4).mono ?_
    rintro e w5 ⟨rfl, hb5⟩
    go_wp2
    go_ret
    exact ⟨rfl, hb15.trans (hb5.mono hb15.size)⟩

end Go.Proofs.YtclpbaokadfhhaaGreatDoor
