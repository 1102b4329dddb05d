/- Several texts as one: RMac, RDer. -/
import Derived.Test.YtclpbaokadfhhaaGreatDoorRDig
import Derived.Test.YtclpbaokadfhhaaGreatDoorZw
namespace Go.Proofs.YtclpbaokadfhhaaGreatDoor
open Go.RowKit
theorem OwnB.frozen {w : World} {base g n cap : Nat} {l : List UInt8} (h : OwnB w base (.slice (some ⟨g, 0, none⟩) n cap) l) (i : Nat) (hi : i < l.length) : w.frozen? ⟨g, i, none⟩ = false := by
  obtain ⟨g', cap', cur, fz, hv, hg, hh, hfz, hc, hl, ht⟩ := h
  injection hv with h1 _ _
  injection h1 with h1
  injection h1 with h1 _ _
  subst h1
  simp only [World.frozen?, hh]
  rcases hfz with rfl | hfz
  · simp
  · simp; omega
theorem OwnB.set {w : World} {base g n cap : Nat} {l : List UInt8} (h : OwnB w base (.slice (some ⟨g, 0, none⟩) n cap) l) (i : Nat) (_hi : i < l.length) (x : UInt8) :
    OwnB (w.setCell ⟨g, i, none⟩ (.int .u8 (x.toNat : Int))) base (.slice (some ⟨g, 0, none⟩) n cap) (l.set i x) ∧ base ≤ g := by
  obtain ⟨g', cap', cur, fz, hv, hg, hh, hfz, hc, hl, ht⟩ := h
  injection hv with h1 h2 h3
  injection h1 with h1
  injection h1 with h1 _ _
  subst h1 h2 h3
  refine ⟨?_, hg⟩
  rw [setCell_eq_setRow w g i cur _ fz _ hh]
  refine ⟨g, cap, _, fz, by simp, hg, setRow_heap w g cur _ _ fz hh, by simpa using hfz, by simp [hc], by simpa using hl, ?_⟩
  rw [List.length_set, Array.toList_setIfInBounds, List.take_set, ht]
  simp [Bs, List.map_set]
set_option maxRecDepth 100000 in
set_option maxHeartbeats 1000000 in
theorem masked_any (s : ByteArray) (c : Int) (C : UInt8) (hc : c = (C.toNat : Int)) (w : World) (hs : s.size ≤ 1000000) :
    Calls Tryz.prog 195 #[.string s, .int .u8 c] w fun e w' => e = .returned (.string ⟨(Sha.maskTo s.data.toList C s.size).toArray⟩) ∧ Below w.heap.size w w' := by
  obtain ⟨cap0, w1, hcv, hown, hb1⟩ := bytesOf s w.heap.size w (Nat.le_refl _)
  have hlen : s.data.toList.length = s.size := by simp
  subst hc
  generalize s.data.toList = L at hown hlen ⊢
  go_enter Tryz.func195, Tryz.ntmps195
  go_wp2
  clear hcv
  go_loopw [6] (fun i wr => ∃ k : Nat, k ≤ s.size ∧ i = .int .i64 k ∧ OwnB wr w.heap.size (.slice (some ⟨w.heap.size, 0, none⟩) s.size cap0) (Sha.maskTo L C k) ∧ Below w.heap.size w wr) (fun i _ => s.size - (intOf i).toNat)
  case atStart => exact ⟨0, by omega, rfl, hown, hb1⟩
  case round =>
    clear hown hb1
    obtain ⟨k, hk, rfl, hown, hbel⟩ := hrel
    by_cases hlt : k < s.size
    · have hkl : k < (Sha.maskTo L C k).length := by rw [Sha.maskTo_length]; omega
      have hcl := hown.cell k hkl
      rw [Sha.maskTo_at _ _ _ (by omega)] at hcl
      have hf := hown.frozen k hkl
      have hset := hown.set k hkl (L.getD k 0 ^^^ C)
      rw [Sha.maskTo_set _ _ _ (by omega)] at hset
      generalize L.getD k 0 = x at hcl hset
      rw [← xor_byte] at hset
      have HS : Hid _ := hset
      clear hset
      have i0 : (k : Int) < s.size := by omega
      go_wp2
      go_roundw
      case rel => exact ⟨k + 1, by omega, by go_num, HS.out.1, hbel.setCell (Nat.le_refl _) _⟩
      case measure => simp [intOf]; omega
    · have hk8 : k = s.size := by omega
      subst hk8
      have hso := OwnB.string hown (by rw [Sha.maskTo_length, hlen])
      go_wp2
      go_ret
      exact ⟨rfl, hbel⟩
theorem mask_filled (k : ByteArray) (c : UInt8) (_h : k.size ≤ 128) : Sha.MaskB k c = ⟨(Sha.maskTo (k.data.toList ++ zeros (128 - k.size)) c 128).toArray⟩ := by
  have : k.data.toList.length = k.size := by simp
  unfold Sha.MaskB Sha.mask
  rw [this]
def kfill (k : ByteArray) (j : Nat) : ByteArray := ⟨(k.data.toList ++ zeros j).toArray⟩
theorem kfill_size (k : ByteArray) (j : Nat) : (kfill k j).size = k.size + j := by
  show (k.data.toList ++ zeros j).toArray.size = _
  simp [zeros_length]
theorem kfill_step (k : ByteArray) (j : Nat) : kfill k j ++ ⟨#[0]⟩ = kfill k (j + 1) := by
  unfold kfill
  have := ByteArray.mk_append_mk (k.data.toList ++ zeros j) [0]
  rw [show (#[0] : Array UInt8) = [0].toArray from rfl, this]
  congr 2
  rw [zeros_split j 1]; simp [zeros]
def strLen : Value → Nat | .string s => s.size | _ => 0
set_option maxRecDepth 100000 in
set_option maxHeartbeats 2000000 in
theorem rmac_any (key data : ByteArray) (w : World) (hk : key.size ≤ 900000) (hd : data.size ≤ 900000) :
    Calls Tryz.prog 147 #[.string key, .string data] w fun e w' => e = .returned (.string (Sha.MacB Sha.K key data)) ∧ Below w.heap.size w w' := by
  have hmk := Sha.KeyB_size Sha.K key
  have HR : Hid (Sha.MacB Sha.K key data = Sha.MacK Sha.K (Sha.KeyB Sha.K key) data) := rfl
  generalize Sha.MacB Sha.K key data = R at HR ⊢
  by_cases hlong : 128 < key.size
  · have hkey : Sha.KeyB Sha.K key = Sha.OfB Sha.K key := by unfold Sha.KeyB; rw [if_pos hlong]
    rw [hkey] at hmk HR
    clear hkey
    have hL : (128 : Int) < key.size := by omega
    go_enter Tryz.func147, Tryz.ntmps147
    go_wp2_with fail
    refine (rdigest_any key _ (by omega)).mono ?_
    rintro e w1 ⟨rfl, hb1⟩
    generalize Sha.OfB Sha.K key = KEY at hmk HR ⊢
    have HK0 : Hid (KEY = kfill KEY 0) := by show _ = _; unfold kfill; simp [zeros]
    go_wp2_with fail
    go_loop [0] (fun v => ∃ j : Nat, j ≤ 128 - KEY.size ∧ v = .string (kfill KEY j)) (fun v => 128 - strLen v)
    case atStart => exact ⟨0, by omega, congrArg Value.string HK0.out⟩
    case round =>
      obtain ⟨j, hj, rfl⟩ := hrel
      have hsz := kfill_size KEY j
      by_cases hlt : j < 128 - KEY.size
      · have hlt' : (kfill KEY j).size < 128 := by omega
        have hstep := kfill_step KEY j
        have hsz2 := kfill_size KEY (j + 1)
        have HST : Hid _ := hstep
        clear hstep hsz
        generalize kfill KEY j = kk at hlt' HST
        go_wp2
        go_round
        case rel => exact ⟨j + 1, by omega, congrArg Value.string HST.out⟩
        case measure => simp only [strLen, ByteArray.size_append]; show 128 - (kk.size + 1) < 128 - kk.size; omega
      · have hj2 : j = 128 - KEY.size := by omega
        have hge : (kfill KEY j).size = 128 := by omega
        have m92 := mask_filled KEY 92 hmk
        have m54 := mask_filled KEY 54 hmk
        have hd2 : (kfill KEY j).data.toList = KEY.data.toList ++ zeros (128 - KEY.size) := by rw [hj2]; unfold kfill; simp
        rw [← hd2] at m92 m54
        have M92 : Hid _ := m92
        have M54 : Hid _ := m54
        clear m92 m54 hd2 hsz
        generalize kfill KEY j = kk at hge M92 M54 ⊢
        unfold Sha.MacK at HR
        have e54 := Sha.MaskB_size KEY 54 hmk
        have e92 := Sha.MaskB_size KEY 92 hmk
        have e64 := Sha.OfB_size Sha.K (Sha.MaskB KEY 54 ++ data)
        go_wp2_with fail
        refine (masked_any kk _ 54 rfl _ (by omega)).mono ?_
        rintro e w2 ⟨rfl, hb2⟩
        rw [hge, ← show Sha.MaskB KEY 54 = _ from M54.out]
        generalize Sha.MaskB KEY 54 = A54 at e54 e64 HR ⊢
        go_wp2_with fail
        refine (rdigest_any _ _ (by rw [ByteArray.size_append]; omega)).mono ?_
        rintro e w3 ⟨rfl, hb3⟩
        generalize Sha.OfB Sha.K (A54 ++ data) = D54 at e64 HR ⊢
        go_wp2_with fail
        refine (masked_any kk _ 92 rfl _ (by omega)).mono ?_
        rintro e w4 ⟨rfl, hb4⟩
        rw [hge, ← show Sha.MaskB KEY 92 = _ from M92.out]
        generalize Sha.MaskB KEY 92 = A92 at e92 HR ⊢
        go_wp2_with fail
        refine (rdigest_any _ _ (by rw [ByteArray.size_append]; omega)).mono ?_
        rintro e w5 ⟨rfl, hb5⟩
        have B2 := hb1.trans (hb2.mono hb1.size)
        have B3 := B2.trans (hb3.mono B2.size)
        have B4 := B3.trans (hb4.mono B3.size)
        go_wp2
        go_ret
        exact ⟨by rw [show R = _ from HR.out]; rfl, B4.trans (hb5.mono B4.size)⟩
  · have hkey : Sha.KeyB Sha.K key = key := by unfold Sha.KeyB; rw [if_neg hlong]
    rw [hkey] at hmk HR
    clear hkey
    have hL : ¬ (128 : Int) < key.size := by omega
    have hb1 := Below.refl w.heap.size w
    go_enter Tryz.func147, Tryz.ntmps147
    have HK0 : Hid (key = kfill key 0) := by show _ = _; unfold kfill; simp [zeros]
    go_wp2_with fail
    go_loop [0] (fun v => ∃ j : Nat, j ≤ 128 - key.size ∧ v = .string (kfill key j)) (fun v => 128 - strLen v)
    case atStart => exact ⟨0, by omega, congrArg Value.string HK0.out⟩
    case round =>
      obtain ⟨j, hj, rfl⟩ := hrel
      have hsz := kfill_size key j
      by_cases hlt : j < 128 - key.size
      · have hlt' : (kfill key j).size < 128 := by omega
        have hstep := kfill_step key j
        have hsz2 := kfill_size key (j + 1)
        have HST : Hid _ := hstep
        clear hstep hsz
        generalize kfill key j = kk at hlt' HST
        go_wp2
        go_round
        case rel => exact ⟨j + 1, by omega, congrArg Value.string HST.out⟩
        case measure => simp only [strLen, ByteArray.size_append]; show 128 - (kk.size + 1) < 128 - kk.size; omega
      · have hj2 : j = 128 - key.size := by omega
        have hge : (kfill key j).size = 128 := by omega
        have m92 := mask_filled key 92 hmk
        have m54 := mask_filled key 54 hmk
        have hd2 : (kfill key j).data.toList = key.data.toList ++ zeros (128 - key.size) := by rw [hj2]; unfold kfill; simp
        rw [← hd2] at m92 m54
        have M92 : Hid _ := m92
        have M54 : Hid _ := m54
        clear m92 m54 hd2 hsz
        generalize kfill key j = kk at hge M92 M54 ⊢
        unfold Sha.MacK at HR
        have e54 := Sha.MaskB_size key 54 hmk
        have e92 := Sha.MaskB_size key 92 hmk
        have e64 := Sha.OfB_size Sha.K (Sha.MaskB key 54 ++ data)
        go_wp2_with fail
        refine (masked_any kk _ 54 rfl _ (by omega)).mono ?_
        rintro e w2 ⟨rfl, hb2⟩
        rw [hge, ← show Sha.MaskB key 54 = _ from M54.out]
        generalize Sha.MaskB key 54 = A54 at e54 e64 HR ⊢
        go_wp2_with fail
        refine (rdigest_any _ _ (by rw [ByteArray.size_append]; omega)).mono ?_
        rintro e w3 ⟨rfl, hb3⟩
        generalize Sha.OfB Sha.K (A54 ++ data) = D54 at e64 HR ⊢
        go_wp2_with fail
        refine (masked_any kk _ 92 rfl _ (by omega)).mono ?_
        rintro e w4 ⟨rfl, hb4⟩
        rw [hge, ← show Sha.MaskB key 92 = _ from M92.out]
        generalize Sha.MaskB key 92 = A92 at e92 HR ⊢
        go_wp2_with fail
        refine (rdigest_any _ _ (by rw [ByteArray.size_append]; omega)).mono ?_
        rintro e w5 ⟨rfl, hb5⟩
        have B2 := hb1.trans (hb2.mono hb1.size)
        have B3 := B2.trans (hb3.mono B2.size)
        have B4 := B3.trans (hb4.mono B3.size)
        go_wp2
        go_ret
        exact ⟨by rw [show R = _ from HR.out]; rfl, B4.trans (hb5.mono B4.size)⟩
theorem RDigest_any (s : ByteArray) (w : World) (hs : s.size ≤ 9223372036854775807) :
    Calls Tryz.prog 90 #[.string s] w fun e w' => e = .returned (.tuple #[.string (Sha.DigestR Sha.K s).1, .int .i64 (Sha.DigestR Sha.K s).2]) ∧ Below w.heap.size w w' := by
  by_cases h : s.size ≤ 10000
  · have e1 : Sha.DigestR Sha.K s = (Sha.OfB Sha.K s, 0) := by unfold Sha.DigestR; rw [if_pos h]
    rw [e1]
    clear e1
    go_enter Tryz.func90, Tryz.ntmps90
    go_wp2_with fail
    refine (rdigest_any s _ (by omega)).mono ?_
    rintro e w2 ⟨rfl, hb2⟩
    go_wp2
    go_ret2
    exact ⟨rfl, hb2⟩
  · have e1 : Sha.DigestR Sha.K s = (⟨#[]⟩, 1) := by unfold Sha.DigestR; rw [if_neg h]
    rw [e1]
    clear e1
    go_enter Tryz.func90, Tryz.ntmps90
    go_wp2
    go_ret2
    exact ⟨rfl, Below.refl _ _⟩
theorem RMac_any (k s : ByteArray) (w : World) (hk : k.size ≤ 9223372036854775807) (hs : s.size ≤ 9223372036854775807) :
    Calls Tryz.prog 92 #[.string k, .string s] w fun e w' => e = .returned (.tuple #[.string (Sha.MacR Sha.K k s).1, .int .i64 (Sha.MacR Sha.K k s).2]) ∧ Below w.heap.size w w' := by
  by_cases h1 : k.size ≤ 10000
  · have d1 : decide ((10000 : Int) < (k.size : Int)) = false := by simp; omega
    by_cases h2 : s.size ≤ 10000
    · have d2 : decide ((10000 : Int) < (s.size : Int)) = false := by simp; omega
      have e1 : Sha.MacR Sha.K k s = (Sha.MacB Sha.K k s, 0) := by unfold Sha.MacR; rw [if_pos ⟨h1, h2⟩]
      rw [e1]
      clear e1
      go_enter Tryz.func92, Tryz.ntmps92
      go_wp2_with fail
      refine (rmac_any k s _ (by omega) (by omega)).mono ?_
      rintro e w2 ⟨rfl, hb2⟩
      go_wp2
      go_ret2
      exact ⟨rfl, hb2⟩
    · have d2 : decide ((10000 : Int) < (s.size : Int)) = true := by simp; omega
      have e1 : Sha.MacR Sha.K k s = (⟨#[]⟩, 1) := by unfold Sha.MacR; rw [if_neg (fun h => h2 h.2)]
      rw [e1]
      clear e1
      go_enter Tryz.func92, Tryz.ntmps92
      go_wp2
      go_ret2
      exact ⟨rfl, Below.refl _ _⟩
  · have d1 : decide ((10000 : Int) < (k.size : Int)) = true := by simp; omega
    have e1 : Sha.MacR Sha.K k s = (⟨#[]⟩, 1) := by unfold Sha.MacR; rw [if_neg (fun h => h1 h.1)]
    rw [e1]
    clear e1
    go_enter Tryz.func92, Tryz.ntmps92
    go_wp2
    go_ret2
    exact ⟨rfl, Below.refl _ _⟩
end Go.Proofs.YtclpbaokadfhhaaGreatDoor
namespace Go.Proofs.YtclpbaokadfhhaaGreatDoor
open Go.RowKit
theorem str_end (K : Nat → BitVec 64) (b p : ByteArray) (n i : Nat) (hi : i ≤ 16) (hn : n ≤ 64 * i) : (⟨(Sha.str K b p i).toArray⟩ : ByteArray).extract 0 n = ⟨((Sha.str K b p 16).take n).toArray⟩ := by
  have h := Sha.drow_end K b p n i hi hn
  unfold Sha.drow at h
  rw [show n - 64 * i = 0 by omega] at h
  rw [← h]
  apply ByteArray.ext
  simp [ByteArray.data_extract, zeros]
set_option maxRecDepth 100000 in
set_option maxHeartbeats 2000000 in
theorem rderive_any (secret salt purpose : ByteArray) (n : Nat) (w : World) (h1 : secret.size ≤ 100000) (h2 : salt.size ≤ 100000) (h3 : purpose.size ≤ 100000) (hn : n ≤ 1000) :
    Calls Tryz.prog 148 #[.string secret, .string salt, .string purpose, .int .i64 n] w fun e w' => e = .returned (.string (Sha.DeriveB Sha.K secret salt purpose n)) ∧ Below w.heap.size w w' := by
  have HR : Hid (Sha.DeriveB Sha.K secret salt purpose n = ⟨((Sha.str Sha.K (Sha.MacB Sha.K salt secret) purpose 16).take n).toArray⟩) := rfl
  generalize Sha.DeriveB Sha.K secret salt purpose n = R at HR ⊢
  go_enter Tryz.func148, Tryz.ntmps148
  go_wp2_with fail
  refine (rmac_any _ _ _ (by omega) (by omega)).mono ?_
  rintro e w1 ⟨rfl, hb1⟩
  have hB := Sha.MacB_size Sha.K salt secret
  generalize Sha.MacB Sha.K salt secret = B0 at hB HR ⊢
  go_wp2_with fail
  go_loopw [10, 11, 12] (fun o t q wr => ∃ i : Nat, i ≤ 16 ∧ o = .string ⟨(Sha.str Sha.K B0 purpose i).toArray⟩ ∧ t = .string (Sha.piece Sha.K B0 purpose i) ∧ q = .int .i64 ((i : Int) + 1) ∧ Below w.heap.size w wr) (fun o _ _ _ => 1024 - strLen o)
  case atStart => exact ⟨0, by omega, rfl, rfl, rfl, hb1⟩
  case round =>
    obtain ⟨i, hi, rfl, rfl, rfl, hbel⟩ := hrel
    have hsl := Sha.str_length Sha.K B0 purpose i
    by_cases hlt : 64 * i < n
    · have hi16 : i < 16 := by omega
      have i0 : 64 * (i : Int) < n := by omega
      have hps := Sha.piece_size Sha.K B0 purpose i
      have hone := oneByte i (by omega)
      have hcv := stringOf (cap := 1) (Blk.new wr (Bs [UInt8.ofNat (i + 1)]) 5) 1 rfl
      rw [← hone] at hcv
      clear hone
      have HP : Hid (Sha.piece Sha.K B0 purpose (i + 1) = Sha.MacB Sha.K B0 (Sha.piece Sha.K B0 purpose i ++ purpose ++ ⟨[UInt8.ofNat (i + 1)].toArray⟩)) := rfl
      have hcb : ([UInt8.ofNat (i + 1)].toArray).size ≤ 1 := by simp
      generalize [UInt8.ofNat (i + 1)].toArray = cb at hcv HP hcb
      have hcb' : (⟨cb⟩ : ByteArray).size ≤ 1 := hcb
      have e1 : (Sha.piece Sha.K B0 purpose i ++ purpose).size ≤ 100064 := by rw [ByteArray.size_append]; omega
      have hP1 := Sha.piece_size1 Sha.K B0 purpose i
      have HQ : Hid (Sha.str Sha.K B0 purpose (i + 1) = Sha.str Sha.K B0 purpose i ++ (Sha.piece Sha.K B0 purpose (i + 1)).data.toList) := rfl
      generalize hPP : Sha.piece Sha.K B0 purpose (i + 1) = P1 at hP1 HQ HP
      have HPP : Hid _ := hPP
      clear hPP
      generalize Sha.piece Sha.K B0 purpose i = P0 at hps e1 HP ⊢
      generalize Sha.str Sha.K B0 purpose i = S0 at hsl HQ ⊢
      have w1i : IntKind.u8.wrap ((i : Int) + 1) = (i : Int) + 1 := by rw [IntKind.wrap_u8']; omega
      go_wp2_with fail
      refine (rmac_any _ _ _ (by omega) (by rw [ByteArray.size_append]; omega)).mono ?_
      rintro e w3 ⟨rfl, hb3⟩
      rw [← show P1 = _ from HP.out]
      go_wp2
      go_roundw
      case rel =>
        refine ⟨i + 1, by omega, ?_, by rw [show Sha.piece Sha.K B0 purpose (i + 1) = P1 from HPP.out], by go_num, ?_⟩
        · rw [show Sha.str Sha.K B0 purpose (i + 1) = _ from HQ.out]
          exact congrArg Value.string (ByteArray.mk_append_mk S0 P1.data.toList)
        · have hbw := hbel.alloc hbel.size (.cells #[.int .u8 ((i : Int) + 1)] 5)
          exact hbw.trans (hb3.mono hbw.size)
      case measure =>
        simp only [strLen, ByteArray.size_append]
        show 1024 - (S0.toArray.size + P1.size) < 1024 - S0.toArray.size
        simp [hsl, hP1]; omega
    · have HE : Hid _ := str_end Sha.K B0 purpose n i hi (by omega)
      generalize Sha.str Sha.K B0 purpose i = S0 at hsl HE ⊢
      have hn0 : n ≤ S0.length := by omega
      have i0 : ¬ 64 * (i : Int) < n := by omega
      go_wp2
      go_ret
      exact ⟨by rw [show R = _ from HR.out, ← show _ = _ from HE.out]; rfl, hbel⟩
theorem deriveR_no (K : Nat → BitVec 64) (a b c : ByteArray) (n : Int) (h : ¬ (a.size ≤ 10000 ∧ b.size ≤ 10000 ∧ c.size ≤ 10000 ∧ 0 ≤ n ∧ n ≤ 1000)) : Sha.DeriveR K a b c n = (⟨#[]⟩, 1) := by
  unfold Sha.DeriveR; rw [if_neg h]
theorem deriveR_yes (K : Nat → BitVec 64) (a b c : ByteArray) (n : Int) (h : a.size ≤ 10000 ∧ b.size ≤ 10000 ∧ c.size ≤ 10000 ∧ 0 ≤ n ∧ n ≤ 1000) : Sha.DeriveR K a b c n = (Sha.DeriveB K a b c n.toNat, 0) := by
  unfold Sha.DeriveR; rw [if_pos h]
set_option maxRecDepth 100000 in
set_option maxHeartbeats 2000000 in
theorem RDerive_any (a b c : ByteArray) (n : Int) (w : World) (h1 : a.size ≤ 9223372036854775807) (h2 : b.size ≤ 9223372036854775807) (h3 : c.size ≤ 9223372036854775807) :
    Calls Tryz.prog 93 #[.string a, .string b, .string c, .int .i64 n] w fun e w' => e = .returned (.tuple #[.string (Sha.DeriveR Sha.K a b c n).1, .int .i64 (Sha.DeriveR Sha.K a b c n).2]) ∧ Below w.heap.size w w' := by
  by_cases ha : 10000 < a.size
  · have d1 : decide ((10000 : Int) < (a.size : Int)) = true := by simp; omega
    have e1 := deriveR_no Sha.K a b c n (fun h => by omega)
    rw [e1]
    clear e1
    go_enter Tryz.func93, Tryz.ntmps93
    go_wp2
    go_ret2
    exact ⟨rfl, Below.refl _ _⟩
  have d1 : decide ((10000 : Int) < (a.size : Int)) = false := by simp; omega
  by_cases hb : 10000 < b.size
  · have d2 : decide ((10000 : Int) < (b.size : Int)) = true := by simp; omega
    have e1 := deriveR_no Sha.K a b c n (fun h => by omega)
    rw [e1]
    clear e1
    go_enter Tryz.func93, Tryz.ntmps93
    go_wp2
    go_ret2
    exact ⟨rfl, Below.refl _ _⟩
  have d2 : decide ((10000 : Int) < (b.size : Int)) = false := by simp; omega
  by_cases hc : 10000 < c.size
  · have d3 : decide ((10000 : Int) < (c.size : Int)) = true := by simp; omega
    have e1 := deriveR_no Sha.K a b c n (fun h => by omega)
    rw [e1]
    clear e1
    go_enter Tryz.func93, Tryz.ntmps93
    go_wp2
    go_ret2
    exact ⟨rfl, Below.refl _ _⟩
  have d3 : decide ((10000 : Int) < (c.size : Int)) = false := by simp; omega
  by_cases hn0 : n < 0
  · have d4 : decide (n < 0) = true := by simpa using hn0
    have e1 := deriveR_no Sha.K a b c n (fun h => by omega)
    rw [e1]
    clear e1
    go_enter Tryz.func93, Tryz.ntmps93
    go_wp2
    go_ret2
    exact ⟨rfl, Below.refl _ _⟩
  have d4 : decide (n < 0) = false := by simpa using hn0
  by_cases hn1 : 1000 < n
  · have d5 : decide (1000 < n) = true := by simpa using hn1
    have e1 := deriveR_no Sha.K a b c n (fun h => by omega)
    rw [e1]
    clear e1
    go_enter Tryz.func93, Tryz.ntmps93
    go_wp2
    go_ret2
    exact ⟨rfl, Below.refl _ _⟩
  have d5 : decide (1000 < n) = false := by simpa using hn1
  have e1 := deriveR_yes Sha.K a b c n (by omega)
  obtain ⟨m, rfl⟩ := Int.eq_ofNat_of_zero_le (by omega : 0 ≤ n)
  rw [e1, Int.toNat_natCast]
  clear e1
  go_enter Tryz.func93, Tryz.ntmps93
  go_wp2_with fail
  refine (rderive_any a b c m _ (by omega) (by omega) (by omega) (by omega)).mono ?_
  rintro e w2 ⟨rfl, hb2⟩
  go_wp2
  go_ret2
  exact ⟨rfl, hb2⟩
end Go.Proofs.YtclpbaokadfhhaaGreatDoor
