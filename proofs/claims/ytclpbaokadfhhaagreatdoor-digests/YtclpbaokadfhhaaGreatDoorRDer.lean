/- Contract of what the document derives. -/
import Derived.Test.YtclpbaokadfhhaaGreatDoorRMac
namespace Go.Proofs.YtclpbaokadfhhaaGreatDoor
open Go.RowKit

theorem str_end (K : Nat → BitVec 64) (b p : ByteArray) (n i : Nat) (hi : i ≤ 16) (hn : n ≤ 64 * i) : (⟨(Sha.str K b p i).toArray⟩ : ByteArray).extract 0 n = ⟨((Sha.str K b p 16).take n).toArray⟩ := by
  have h := Sha.drow_end K b p n i hi hn
  unfold Sha.drow at h
  rw [show n - 64 * i = 0 by omega] at h
  rw [← h]
  apply ByteArray.ext
  simp [ByteArray.data_extract, zeros]

set_option maxRecDepth 100000 in
set_option maxHeartbeats 2000000 in
theorem rderive_any (secret salt purpose : ByteArray) (n : Nat) (w : World) (h1 : secret.size ≤ 100000) (h2 : salt.size ≤ 100000) (h3 : purpose.size ≤ 100000) (hn : n ≤ 1000) :
    Calls Tryz.prog 148 #[.string secret, .string salt, .string purpose, .int .i64 n] w fun e w' => e = .returned (.string (Sha.DeriveB Sha.K secret salt purpose n)) ∧ Below w.heap.size w w' := by
  have HR : Hid (Sha.DeriveB Sha.K secret salt purpose n = ⟨((Sha.str Sha.K (Sha.MacB Sha.K salt secret) purpose 16).take n).toArray⟩) := rfl
  generalize Sha.DeriveB Sha.K secret salt purpose n = R at HR ⊢
  go_enter Tryz.func148, Tryz.ntmps148
  go_wp2_with fail
  refine (rmac_any _ _ _ (by omega) (by omega)).mono ?_
  rintro e w1 ⟨rfl, hb1⟩
  have hB := Sha.MacB_size Sha.K salt secret
  generalize Sha.MacB Sha.K salt secret = B0 at hB HR ⊢
  go_wp2_with fail
  go_loopw [10, 11, 12] (fun o t q wr => ∃ i : Nat, i ≤ 16 ∧ o = .string ⟨(Sha.str Sha.K B0 purpose i).toArray⟩ ∧ t = .string (Sha.piece Sha.K B0 purpose i) ∧ q = .int .i64 ((i : Int) + 1) ∧ Below w.heap.size w wr) (fun o _ _ _ => 1024 - strLen o)
  case atStart => exact ⟨0, by omega, rfl, rfl, rfl, hb1⟩
  case round =>
    obtain ⟨i, hi, rfl, rfl, rfl, hbel⟩ := hrel
    have hsl := Sha.str_length Sha.K B0 purpose i
    by_cases hlt : 64 * i < n
    · have hi16 : i < 16 := by omega
      have i0 : 64 * (i : Int) < n := by omega
      have hps := Sha.piece_size Sha.K B0 purpose i
      have hone := oneByte i (by omega)
      have hcv := stringOf (cap := 1) (Blk.new wr (Bs [UInt8.ofNat (i + 1)]) 5) 1 rfl
      rw [← hone] at hcv
      clear hone
      have HP : Hid (Sha.piece Sha.K B0 purpose (i + 1) = Sha.MacB Sha.K B0 (Sha.piece Sha.K B0 purpose i ++ purpose ++ ⟨[UInt8.ofNat (i + 1)].toArray⟩)) := rfl
      have hcb : ([UInt8.ofNat (i + 1)].toArray).size ≤ 1 := by simp
      generalize [UInt8.ofNat (i + 1)].toArray = cb at hcv HP hcb
      have hcb' : (⟨cb⟩ : ByteArray).size ≤ 1 := hcb
      have e1 : (Sha.piece Sha.K B0 purpose i ++ purpose).size ≤ 100064 := by rw [ByteArray.size_append]; omega
      have hP1 := Sha.piece_size1 Sha.K B0 purpose i
      have HQ : Hid (Sha.str Sha.K B0 purpose (i + 1) = Sha.str Sha.K B0 purpose i ++ (Sha.piece Sha.K B0 purpose (i + 1)).data.toList) := rfl
      generalize hPP : Sha.piece Sha.K B0 purpose (i + 1) = P1 at hP1 HQ HP
      have HPP : Hid _ := hPP
      clear hPP
      generalize Sha.piece Sha.K B0 purpose i = P0 at hps e1 HP ⊢
      generalize Sha.str Sha.K B0 purpose i = S0 at hsl HQ ⊢
      have w1i : IntKind.u8.wrap ((i : Int) + 1) = (i : Int) + 1 := by rw [IntKind.wrap_u8']; omega
      go_wp2_with fail
      refine (rmac_any _ _ _ (by omega) (by rw [ByteArray.size_append]; omega)).mono ?_
      rintro e w3 ⟨rfl, hb3⟩
      rw [← show P1 = _ from HP.out]
      go_wp2
      go_roundw
      case rel =>
        refine ⟨i + 1, by omega, ?_, by rw [show Sha.piece Sha.K B0 purpose (i + 1) = P1 from HPP.out], by go_num, ?_⟩
        · rw [show Sha.str Sha.K B0 purpose (i + 1) = _ from HQ.out]
          exact congrArg Value.string (ByteArray.mk_append_mk S0 P1.data.toList)
        · have hbw := hbel.alloc hbel.size (.cells #[.int .u8 ((i : Int) + 1)] 5)
          exact hbw.trans (hb3.mono hbw.size)
      case measure =>
        simp only [strLen, ByteArray.size_append]
        show 1024 - (S0.toArray.size + P1.size) < 1024 - S0.toArray.size
        simp [hsl, hP1]; omega
    · have HE : Hid _ := str_end Sha.K B0 purpose n i hi (by omega)
      generalize Sha.str Sha.K B0 purpose i = S0 at hsl HE ⊢
      have hn0 : n ≤ S0.length := by omega
      have i0 : ¬ 64 * (i : Int) < n := by omega
      go_wp2
      go_ret
      exact ⟨by rw [show R = _ from HR.out, ← show _ = _ from HE.out]; rfl, hbel⟩

theorem deriveR_no (K : Nat → BitVec 64) (a b c : ByteArray) (n : Int) (h : ¬ (a.size ≤ 10000 ∧ b.size ≤ 10000 ∧ c.size ≤ 10000 ∧ 0 ≤ n ∧ n ≤ 1000)) : Sha.DeriveR K a b c n = (⟨#[]⟩, 1) := by
  unfold Sha.DeriveR; rw [if_neg h]
theorem deriveR_yes (K : Nat → BitVec 64) (a b c : ByteArray) (n : Int) (h : a.size ≤ 10000 ∧ b.size ≤ 10000 ∧ c.size ≤ 10000 ∧ 0 ≤ n ∧ n ≤ 1000) : Sha.DeriveR K a b c n = (Sha.DeriveB K a b c n.toNat, 0) := by
  unfold Sha.DeriveR; rw [if_pos h]

set_option maxRecDepth 100000 in
set_option maxHeartbeats 2000000 in
theorem RDerive_any (a b c : ByteArray) (n : Int) (w : World) (h1 : a.size ≤ 9223372036854775807) (h2 : b.size ≤ 9223372036854775807) (h3 : c.size ≤ 9223372036854775807) :
    Calls Tryz.prog 93 #[.string a, .string b, .string c, .int .i64 n] w fun e w' => e = .returned (.tuple #[.string (Sha.DeriveR Sha.K a b c n).1, .int .i64 (Sha.DeriveR Sha.K a b c n).2]) ∧ Below w.heap.size w w' := by
  by_cases ha : 10000 < a.size
  · have d1 : decide ((10000 : Int) < (a.size : Int)) = true := by simp; omega
    have e1 := deriveR_no Sha.K a b c n (fun h => by omega)
    rw [e1]
    clear e1
    go_enter Tryz.func93, Tryz.ntmps93
    go_wp2
    go_ret2
    exact ⟨rfl, Below.refl _ _⟩
  have d1 : decide ((10000 : Int) < (a.size : Int)) = false := by simp; omega
  by_cases hb : 10000 < b.size
  · have d2 : decide ((10000 : Int) < (b.size : Int)) = true := by simp; omega
    have e1 := deriveR_no Sha.K a b c n (fun h => by omega)
    rw [e1]
    clear e1
    go_enter Tryz.func93, Tryz.ntmps93
    go_wp2
    go_ret2
    exact ⟨rfl, Below.refl _ _⟩
  have d2 : decide ((10000 : Int) < (b.size : Int)) = false := by simp; omega
  by_cases hc : 10000 < c.size
  · have d3 : decide ((10000 : Int) < (c.size : Int)) = true := by simp; omega
    have e1 := deriveR_no Sha.K a b c n (fun h => by omega)
    rw [e1]
    clear e1
    go_enter Tryz.func93, Tryz.ntmps93
    go_wp2
    go_ret2
    exact ⟨rfl, Below.refl _ _⟩
  have d3 : decide ((10000 : Int) < (c.size : Int)) = false := by simp; omega
  by_cases hn0 : n < 0
  · have d4 : decide (n < 0) = true := by simpa using hn0
    have e1 := deriveR_no Sha.K a b c n (fun h => by omega)
    rw [e1]
    clear e1
    go_enter Tryz.func93, Tryz.ntmps93
    go_wp2
    go_ret2
    exact ⟨rfl, Below.refl _ _⟩
  have d4 : decide (n < 0) = false := by simpa using hn0
  by_cases hn1 : 1000 < n
  · have d5 : decide (1000 < n) = true := by simpa using hn1
    have e1 := deriveR_no Sha.K a b c n (fun h => by omega)
    rw [e1]
    clear e1
    go_enter Tryz.func93, Tryz.ntmps93
    go_wp2
    go_ret2
    exact ⟨rfl, Below.refl _ _⟩
  have d5 : decide (1000 < n) = false := by simpa using hn1
  have e1 := deriveR_yes Sha.K a b c n (by omega)
  obtain ⟨m, rfl⟩ := Int.eq_ofNat_of_zero_le (by omega : 0 ≤ n)
  rw [e1, Int.toNat_natCast]
  clear e1
  go_enter Tryz.func93, Tryz.ntmps93
  go_wp2_with fail
  refine (rderive_any a b c m _ (by omega) (by omega) (by omega) (by omega)).mono ?_
  rintro e w2 ⟨rfl, hb2⟩
  go_wp2
  go_ret2
  exact ⟨rfl, hb2⟩

end Go.Proofs.YtclpbaokadfhhaaGreatDoor
