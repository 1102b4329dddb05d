/- The walk of the statement Derived. -/
import Derived.Test.YtclpbaokadfhhaaDoorCallD
import Derived.Test.YtclpbaokadfhhaaDoorKeep
namespace Go.Proofs.YtclpbaokadfhhaaDoor
open Go.RowKit

theorem mask_pad (k : ByteArray) (c : UInt8) (h : k.size ≤ 100) : Sha.MaskB (k ++ ⟨#[0, 0]⟩) c = Sha.MaskB k c := by
  have hl : k.data.toList.length = k.size := by simp
  have : (k ++ ⟨#[0, 0]⟩ : ByteArray).data.toList = k.data.toList ++ [0, 0] := by
    rw [ByteArray.data_append]; simp
  have e : k.data.toList ++ [0, 0] ++ zeros (128 - (k.data.toList ++ [0, 0]).length) = k.data.toList ++ zeros (128 - k.data.toList.length) := by
    rw [List.append_assoc]
    congr 1
    simp only [List.length_append, hl]
    rw [show [(0 : UInt8), 0] = zeros 2 from rfl]
    unfold zeros
    rw [List.replicate_append_replicate]
    congr 1
    simp; omega
  unfold Sha.MaskB Sha.mask
  rw [this, e]
theorem mac_pad (K : Nat → BitVec 64) (k p : ByteArray) (h : k.size ≤ 100) : Sha.MacB K (k ++ ⟨#[0, 0]⟩) p = Sha.MacB K k p := by
  have h2 : (k ++ ⟨#[0, 0]⟩ : ByteArray).size = k.size + 2 := by rw [ByteArray.size_append]; rfl
  have e1 : Sha.KeyB K (k ++ ⟨#[0, 0]⟩) = k ++ ⟨#[0, 0]⟩ := by unfold Sha.KeyB; rw [if_neg (by omega)]
  have e2 : Sha.KeyB K k = k := by unfold Sha.KeyB; rw [if_neg (by omega)]
  unfold Sha.MacB Sha.MacK
  rw [e1, e2, mask_pad k _ h, mask_pad k _ h]
theorem mac_long (K : Nat → BitVec 64) (k p : ByteArray) (h : 128 < k.size) : Sha.MacB K (Sha.OfB K k) p = Sha.MacB K k p := by
  have e1 : Sha.KeyB K k = Sha.OfB K k := by unfold Sha.KeyB; rw [if_pos h]
  have e2 : Sha.KeyB K (Sha.OfB K k) = Sha.OfB K k := by unfold Sha.KeyB; rw [if_neg (by rw [Sha.OfB_size]; omega)]
  unfold Sha.MacB
  rw [e1, e2]
theorem derive_size (K : Nat → BitVec 64) (a b c : ByteArray) (n : Nat) (h : n ≤ 1000) : (Sha.DeriveB K a b c n).size = n := by
  show ((Sha.str K (Sha.MacB K b a) c 16).take n).toArray.size = n
  simp [Sha.str_length]; omega
theorem derive_prefix (K : Nat → BitVec 64) (a b c : ByteArray) (n m : Nat) (h : m ≤ n) : (Sha.DeriveB K a b c n).extract 0 m = Sha.DeriveB K a b c m := by
  unfold Sha.DeriveB
  apply ByteArray.ext
  simp [ByteArray.data_extract, List.take_take, Nat.min_eq_left h]

theorem digestR_ok (K : Nat → BitVec 64) (s : ByteArray) (h : s.size ≤ 10000) : Sha.DigestR K s = (Sha.OfB K s, 0) := by unfold Sha.DigestR; rw [if_pos h]
theorem macR_ok (K : Nat → BitVec 64) (k s : ByteArray) (h1 : k.size ≤ 10000) (h2 : s.size ≤ 10000) : Sha.MacR K k s = (Sha.MacB K k s, 0) := by unfold Sha.MacR; rw [if_pos ⟨h1, h2⟩]
theorem deriveR_ok (K : Nat → BitVec 64) (a b c : ByteArray) (n : Int) (h1 : a.size ≤ 10000) (h2 : b.size ≤ 10000) (h3 : c.size ≤ 10000) (h4 : 0 ≤ n) (h5 : n ≤ 1000) : Sha.DeriveR K a b c n = (Sha.DeriveB K a b c n.toNat, 0) := by
  unfold Sha.DeriveR; rw [if_pos ⟨h1, h2, h3, h4, h5⟩]

theorem Derive_ok (K : Nat → BitVec 64) (a b c : ByteArray) (n : Nat) (w : World) (h1 : a.size ≤ 10000) (h2 : b.size ≤ 10000) (h3 : c.size ≤ 10000) (h5 : n ≤ 1000) (hK : Tab K w) :
    Calls Tryd.prog 8 #[.string a, .string b, .string c, .int .i64 n] w fun e w' => e = .returned (.tuple #[.string (Sha.DeriveB K a b c n), .int .i64 0]) ∧ Below w.heap.size w w' := by
  have := Derive_any K a b c n w (by omega) (by omega) (by omega) hK
  rw [deriveR_ok K a b c n h1 h2 h3 (by omega) (by omega), Int.toNat_natCast] at this
  exact this
theorem Digest_ok (K : Nat → BitVec 64) (s : ByteArray) (w : World) (hs : s.size ≤ 10000) (hK : Tab K w) :
    Calls Tryd.prog 10 #[.string s] w fun e w' => e = .returned (.tuple #[.string (Sha.OfB K s), .int .i64 0]) ∧ Below w.heap.size w w' := by
  have := Digest_any K s w (by omega) hK
  rw [digestR_ok K s hs] at this
  exact this
theorem Mac_ok (K : Nat → BitVec 64) (k s : ByteArray) (w : World) (hk : k.size ≤ 10000) (hs : s.size ≤ 10000) (hK : Tab K w) :
    Calls Tryd.prog 11 #[.string k, .string s] w fun e w' => e = .returned (.tuple #[.string (Sha.MacB K k s), .int .i64 0]) ∧ Below w.heap.size w w' := by
  have := Mac_any K k s w (by omega) (by omega) hK
  rw [macR_ok K k s hk hs] at this
  exact this

set_option maxRecDepth 100000 in
set_option maxHeartbeats 400000 in
theorem derived_any (K : Nat → BitVec 64) (a b c : ByteArray) (n m : Int) (w : World) (h1 : a.size ≤ 9223372036854775807) (h2 : b.size ≤ 9223372036854775807) (h3 : c.size ≤ 9223372036854775807)
    (n1 : -9223372036854775808 ≤ n) (n2 : n ≤ 9223372036854775807) (m1 : -9223372036854775808 ≤ m) (m2 : m ≤ 9223372036854775807) (hK : Tab K w) :
    Calls Tryd.prog 3 #[.string a, .string b, .string c, .int .i64 n, .int .i64 m] w fun e w' => e = .returned (.bool true) ∧ Below w.heap.size w w' := by
  go_enter Tryd.func3, Tryd.ntmps3
  go_wp2_with fail
  refine (short_any a _ _ (by omega) (by omega) (by omega)).mono ?_
  rintro e w' ⟨rfl, rfl⟩
  have s1 := shortB_size a 300
  rw [show (300 : Int).toNat = 300 from rfl]
  generalize shortB a 300 = a at s1 ⊢
  go_wp2_with fail
  refine (short_any b _ _ (by omega) (by omega) (by omega)).mono ?_
  rintro e w' ⟨rfl, rfl⟩
  have s2 := shortB_size b 300
  rw [show (300 : Int).toNat = 300 from rfl]
  generalize shortB b 300 = b at s2 ⊢
  go_wp2_with fail
  refine (short_any c _ _ (by omega) (by omega) (by omega)).mono ?_
  rintro e w' ⟨rfl, rfl⟩
  have s3 := shortB_size c 300
  rw [show (300 : Int).toNat = 300 from rfl]
  generalize shortB c 300 = c at s3 ⊢
  go_wp2_with fail
  refine (pick_any n _ _ (by omega) (by omega) (by omega) (by omega)).mono ?_
  rintro e w' ⟨rfl, rfl⟩
  have p1 := pickI_lo n 1001 (by omega)
  generalize pickI n 1001 = n' at p1 ⊢
  obtain ⟨n', rfl⟩ := Int.eq_ofNat_of_zero_le p1.1
  obtain ⟨p1a, p1b⟩ := p1
  go_wp2_with fail
  refine (pick_any m _ _ (by omega) (by omega) (by omega) (by omega)).mono ?_
  rintro e w' ⟨rfl, rfl⟩
  have p2 := pickI_lo m (n' + 1) (by omega)
  generalize pickI m (n' + 1) = m' at p2 ⊢
  obtain ⟨m', rfl⟩ := Int.eq_ofNat_of_zero_le p2.1
  obtain ⟨p2a, p2b⟩ := p2
  clear h1 h2 h3 n1 n2 m1 m2
  have B0 := Below.refl w'.heap.size w'
  have hK0 := hK.below B0
  have E1 : Hid _ := derive_prefix K a b c n' m' (by omega)
  have z1 := derive_size K a b c n' (by omega)
  go_wp2_with fail
  refine (Derive_ok K a b c n' _ (by omega) (by omega) (by omega) (by omega) hK0).mono ?_
  rintro e w1 ⟨rfl, hb1⟩
  have B1 := B0.trans (hb1.mono B0.size)
  have hK1 := hK.below B1
  go_wp2_with fail
  refine (Derive_ok K a b c m' _ (by omega) (by omega) (by omega) (by omega) hK1).mono ?_
  rintro e w2 ⟨rfl, hb2⟩
  have B2 := B1.trans (hb2.mono B1.size)
  have hK2 := hK.below B2
  generalize Sha.DeriveB K a b c n' = D1 at E1 z1 ⊢
  generalize Sha.DeriveB K a b c m' = D2 at E1 ⊢
  go_wp2_with fail
  refine (pick_any n' 100 _ (by omega) (by omega) (by omega) (by omega)).mono ?_
  rintro e w3 ⟨rfl, rfl⟩
  have p3 := pickI_lo n' 100 (by omega)
  generalize pickI n' 100 = q at p3 ⊢
  obtain ⟨p3a, p3b⟩ := p3
  go_wp2_with fail
  refine (sized_any b _ _ (by omega) (by omega) (by omega)).mono ?_
  rintro e w4 ⟨x, hx, rfl, rfl⟩
  have hx1 : 128 < x.size := by omega
  have hx2 : x.size ≤ 1000 := by omega
  clear hx
  have z64 := Sha.OfB_size K x
  have zm := Sha.MacB_size K x c
  have E2 : Hid _ := mac_long K x c hx1
  go_wp2_with fail
  refine (Digest_ok K x _ (by omega) hK2).mono ?_
  rintro e w5 ⟨rfl, hb5⟩
  have B5 := B2.trans (hb5.mono B2.size)
  have hK5 := hK.below B5
  go_wp2_with fail
  refine (Mac_ok K x c _ (by omega) (by omega) hK5).mono ?_
  rintro e w6 ⟨rfl, hb6⟩
  have B6 := B5.trans (hb6.mono B5.size)
  have hK6 := hK.below B6
  go_wp2_with fail
  refine (Mac_ok K (Sha.OfB K x) c _ (by omega) (by omega) hK6).mono ?_
  rintro e w7 ⟨rfl, hb7⟩
  have B7 := B6.trans (hb7.mono B6.size)
  have hK7 := hK.below B7
  rw [show Sha.MacB K (Sha.OfB K x) c = Sha.MacB K x c from E2.out]
  generalize Sha.MacB K x c = X1 at zm ⊢
  clear E2
  generalize Sha.OfB K x = X2 at z64 ⊢
  go_wp2_with fail
  refine (short_any b _ _ (by omega) (by omega) (by omega)).mono ?_
  rintro e w8 ⟨rfl, rfl⟩
  have s4 := shortB_size b 100
  rw [show (100 : Int).toNat = 100 from rfl]
  generalize shortB b 100 = k at s4 ⊢
  have E3 : Hid _ := mac_pad K k c s4
  have zk : (k ++ ⟨#[0, 0]⟩ : ByteArray).size ≤ 102 := by rw [ByteArray.size_append]; show k.size + 2 ≤ _; omega
  go_wp2_with fail
  refine (Mac_ok K k c _ (by omega) (by omega) hK7).mono ?_
  rintro e w9 ⟨rfl, hb9⟩
  have B9 := B7.trans (hb9.mono B7.size)
  have hK9 := hK.below B9
  go_wp2_with fail
  refine (Mac_ok K _ c w9 ?hz (by omega) hK9).mono ?_
  case hz => exact Nat.le_trans zk (by omega)
  rintro e w10 ⟨rfl, hb10⟩
  have B10 := B9.trans (hb10.mono B9.size)
  have hK10 := hK.below B10
  rw [show Sha.MacB K (k ++ _) c = Sha.MacB K k c from E3.out]
  generalize Sha.MacB K k c = X3
  have E1' : D1.extract 0 m' = D2 := E1.out
  have hm : m' ≤ D1.size := by omega
  go_wp2
  go_ret
  exact ⟨rfl, B10⟩

end Go.Proofs.YtclpbaokadfhhaaDoor
