/- Several texts as one: Rc9, Rc10, Rc11. -/
import Derived.Test.YtclpbaokadfhhaaGreatDoorZt
import Derived.Test.YtclpbaokadfhhaaGreatDoorZq
import Derived.Test.YtclpbaokadfhhaaGreatDoorZe
import Derived.Test.YtclpbaokadfhhaaGreatDoorRp1
import Derived.Test.YtclpbaokadfhhaaGreatDoorZl
namespace Go.Proofs.YtclpbaokadfhhaaGreatDoor
open Go.RowKit
namespace Cc
theorem putL_at (l : List UInt8) (off : Nat) (x : BitVec 64) (k j : Nat) (h : off + k ≤ l.length) : (putL l off x k).getD j 0 = if off ≤ j ∧ j < off + k then byteL x (j - off) else l.getD j 0 := by
  induction k with
  | zero => rw [putL, if_neg (by omega)]
  | succ k ih =>
    rw [putL]
    by_cases e : off + k = j
    · subst e
      rw [getD_set_eq _ _ _ _ (by rw [putL_length]; omega), if_pos (by omega), show off + k - off = k by omega]
    · rw [getD_set_neC _ _ _ _ _ e, ih (by omega)]
      by_cases h1 : off ≤ j ∧ j < off + k
      · rw [if_pos h1, if_pos (by omega)]
      · rw [if_neg h1, if_neg (by omega)]
theorem byteL_lo (x : BitVec 64) (j : Nat) : byteL x j = UInt8.ofNat (x.toNat / 256 ^ j % 256) := by
  unfold byteL
  rw [BitVec.toNat_ushiftRight, Nat.shiftRight_eq_div_pow, Nat.pow_mul, show (2 : Nat) ^ 8 = 256 by decide]
  apply UInt8.toNat_inj.1
  rw [UInt8.toNat_ofNat', UInt8.toNat_ofNat']
  omega
end Cc
namespace Po
theorem rowN_congr {f g : Nat → Nat} : ∀ k, (∀ i, i < k → f i = g i) → rowN f k = rowN g k
  | 0, _ => rfl
  | k + 1, h => by rw [rowN, rowN, rowN_congr k (fun i hi => h i (by omega)), h k (by omega)]
theorem eTo_congr (l : List Nat) {s t : Nat → Nat} : ∀ k, (∀ i, i < k → s i = t i) → eTo l s k = eTo l t k
  | 0, _ => rfl
  | k + 1, h => by rw [eTo, eTo, eTo_congr l k (fun i hi => h i (by omega)), h k (by omega)]
end Po
theorem key_at (M : List UInt8) (hM : M.length = 64) (i : Nat) (hi : i < 32) : (((⟨M.toArray⟩ : ByteArray).extract 0 32).data.toList.getD i 0) = M.getD i 0 := by
  have hs : (⟨M.toArray⟩ : ByteArray).size = 64 := by show M.toArray.size = 64; rw [List.size_toArray, hM]
  have h1 : i < ((⟨M.toArray⟩ : ByteArray).extract 0 32).size := by rw [ByteArray.size_extract, hs]; omega
  rw [← byte_at _ _ h1]
  have h2 := byte_at (⟨M.toArray⟩ : ByteArray) i (by omega)
  rw [show (⟨M.toArray⟩ : ByteArray).data.toList = M from rfl] at h2
  rw [← h2]
  simp [ByteArray.getElem_eq_getElem_data]
def TagSame : Prop := ∀ (f : Nat → UInt8) (s : ByteArray), s.size % 16 = 0 → s.size ≤ 900000 → Po.tagged (fun i => (f i).toNat) (fun j i => byN s (16 * j + i)) (s.size / 16) = Cc.tag f s
theorem count_lo (n : Nat) (h : n ≤ 1000000) : Fd.lo n 8 = Cc.countL n := by
  apply List.ext_getElem?
  intro j
  by_cases h8 : j < 8
  · have h1 : j < (Fd.lo n 8).length := by rw [Fd.lo_length]; omega
    have h2 : j < (Cc.countL n).length := by rw [Cc.countL_length]; omega
    have e : (Fd.lo n 8).getD j 0 = (Cc.countL n).getD j 0 := by
      unfold Cc.countL
      rw [Cc.lo_at _ _ _ h8, Cc.putL_at _ _ _ _ _ (by show 0 + 8 ≤ 8; omega), if_pos (by omega), Nat.sub_zero, Cc.byteL_lo, BitVec.toNat_ofNat, show n % 2 ^ 64 = n from Nat.mod_eq_of_lt (by omega)]
    rw [List.getD_eq_getElem?_getD, List.getD_eq_getElem?_getD, List.getElem?_eq_getElem h1, List.getElem?_eq_getElem h2] at e
    rw [List.getElem?_eq_getElem h1, List.getElem?_eq_getElem h2]
    exact congrArg some e
  · rw [List.getElem?_eq_none (by rw [Fd.lo_length]; omega), List.getElem?_eq_none (by rw [Cc.countL_length]; omega)]
theorem tagged_ext {f g : Nat → Nat} (h : ∀ i, i < 32 → f i = g i) (D : Nat → Nat → Nat) (n : Nat) : Po.tagged f D n = Po.tagged g D n := by
  unfold Po.tagged Po.rRow
  have e1 : Po.rowN (Po.rAt f) 16 = Po.rowN (Po.rAt g) 16 := Po.rowN_congr 16 (fun i hi => by unfold Po.rAt; rw [h i (by omega)])
  rw [e1, Po.eTo_congr _ 16 (fun i hi => h (16 + i) (by omega))]
set_option maxRecDepth 100000 in
set_option maxHeartbeats 8000000 in
theorem R_tag (HTS : TagSame) (key nonce title closed : ByteArray) (w : World) (hk : key.size = 32) (hn : nonce.size = 12) (ht : title.size ≤ 100000) (hc : closed.size ≤ 100000) :
    Calls Tryz.prog 150 #[.string key, .string nonce, .string title, .string closed] w fun e w' => e = .returned (.string (Cc.sealB key nonce title closed)) ∧ Below w.heap.size w w' := by
  have HBl : Hid (Rv 196 #[.string key, .int .i64 0, .string nonce] (.string ⟨(Cc.blk key 0 nonce).toArray⟩)) := fun wx => R_block key nonce 0 wx hk hn (by omega)
  have HP1 : Hid (Rv 198 #[.string title] (.string (Cc.fill title))) := fun wx => (R_padded title wx (by omega)).mono fun e w' ⟨h1, h2⟩ => ⟨h1, by rw [h2]; exact Below.refl _ _⟩
  have HP2 : Hid (Rv 198 #[.string closed] (.string (Cc.fill closed))) := fun wx => (R_padded closed wx (by omega)).mono fun e w' ⟨h1, h2⟩ => ⟨h1, by rw [h2]; exact Below.refl _ _⟩
  have HB1 : Hid (Rv 75 #[.int .i64 title.size, .int .i64 8] (.string (Cc.count title))) := fun wx => by
    have := bytes_any title.size 8 title.size 8 rfl rfl (by omega) (by omega) wx
    rw [count_lo _ (by omega)] at this
    exact this
  have HB2 : Hid (Rv 75 #[.int .i64 closed.size, .int .i64 8] (.string (Cc.count closed))) := fun wx => by
    have := bytes_any closed.size 8 closed.size 8 rfl rfl (by omega) (by omega) wx
    rw [count_lo _ (by omega)] at this
    exact this
  have hlM : (Cc.blk key 0 nonce).length = 64 := Cc.blk_length _ _ _
  have hTG := Cc.tagged_mod title closed
  have hTZ := Cc.tagged_size title closed
  have HTg : Hid (Rv 197 #[.string ((⟨(Cc.blk key 0 nonce).toArray⟩ : ByteArray).extract 0 32), .string (Cc.fill title ++ Cc.fill closed ++ Cc.count title ++ Cc.count closed)] (.string (Cc.sealB key nonce title closed))) := fun wx => by
    have h := R_Tagged ((⟨(Cc.blk key 0 nonce).toArray⟩ : ByteArray).extract 0 32) (Cc.tagged title closed) ((Cc.tagged title closed).size / 16) wx (by rw [ByteArray.size_extract]; show min 32 (Cc.blk key 0 nonce).toArray.size - 0 = 32; rw [List.size_toArray, hlM]; rfl) (by omega) (by omega)
    rw [tagged_ext (g := fun i => ((fun i => (Cc.blk key 0 nonce).getD i 0) i).toNat) (fun i hi => by
      exact congrArg UInt8.toNat (key_at _ hlM i hi)), HTS (fun i => (Cc.blk key 0 nonce).getD i 0) (Cc.tagged title closed) hTG (by omega)] at h
    exact h
  have sz1 := Cc.fill_size title
  have sz2 := Cc.fill_size closed
  have sz3 := Cc.count_size title
  have sz4 := Cc.count_size closed
  have fb1 : Cc.fillSize title.size ≤ 15 := by unfold Cc.fillSize; omega
  have fb2 : Cc.fillSize closed.size ≤ 15 := by unfold Cc.fillSize; omega
  generalize Cc.fill title = A at HP1 HTg sz1
  generalize Cc.fill closed = B at HP2 HTg sz2
  generalize Cc.count title = C at HB1 HTg sz3
  generalize Cc.count closed = D at HB2 HTg sz4
  have ad1 := add_strings A B (by omega)
  have ad2 := add_strings (A ++ B) C (by rw [ByteArray.size_append]; omega)
  have ad3 := add_strings (A ++ B ++ C) D (by rw [ByteArray.size_append, ByteArray.size_append]; omega)
  generalize A ++ B ++ C ++ D = ABCD at ad3 HTg
  generalize A ++ B ++ C = ABC at ad2 ad3
  generalize A ++ B = AB at ad1 ad2
  have hM : (⟨(Cc.blk key 0 nonce).toArray⟩ : ByteArray).size = 64 := by show (Cc.blk key 0 nonce).toArray.size = 64; rw [List.size_toArray, hlM]
  generalize (⟨(Cc.blk key 0 nonce).toArray⟩ : ByteArray) = M at HBl HTg hM
  generalize Cc.sealB key nonce title closed = R at HTg ⊢
  clear sz1 sz2 sz3 sz4 fb1 fb2 hTG hTZ hlM
  go_enter Tryz.func150, Tryz.ntmps150
  go_wp2_with fail
  refine (HBl.out _).mono ?_
  rintro e w1 ⟨rfl, k1⟩
  have hX : WD w w.heap.size [] w1 := WD.start.keep k1
  clear k1
  have hsl : ∀ wx, (Instr.sliceAt 9 (.string M) none (some (.int .i64 32)) none).run Tryz.prog wx = .ok (.string (M.extract 0 32)) wx := fun wx => by go_simp
  generalize M.extract 0 32 = K3 at hsl HTg
  go_wp2_with fail
  refine wp_region_M (S := WD w (w.heap.size) []) (ls := []) (by kernel_rfl) ?_
  have hX0 : WD w (w.heap.size) [] w1.drew := hX.drew
  clear hX
  generalize World.drew w1 = rd at hX0 ⊢
  refine wpAnyM_tk (i := 0) (dst := some 13) (v := .string M) rfl rfl (by kernel_rfl) (fun _ _ _ h => h) (Or.inl ⟨by rfl, ?hyr0⟩) hX0 ?rer0
  case hyr0 => exact fun wx _ => rfl
  refine wpAnyM_tk (i := 1) (dst := some 14) (v := ?vr1) rfl rfl (by kernel_rfl) (fun _ _ _ h => h) (Or.inl ⟨by rfl, ?hyr1⟩) hX0 ?rer1
  case hyr1 => (intro wx hSx; clear hSx; go_simp; try (with_reducible rfl))
  refine wpAnyM_tk (i := 2) (dst := some 15) (v := .string title) rfl rfl (by kernel_rfl) (fun _ _ _ h => h) (Or.inl ⟨by rfl, ?hyr2⟩) hX0 ?rer2
  case hyr2 => exact fun wx _ => rfl
  simp only [Act.put, qA, qB, qC]
  refine wpAnyM_tk (i := 4) (dst := some 17) (v := .string closed) rfl rfl (by kernel_rfl) (fun _ _ _ h => h) (Or.inl ⟨by rfl, ?hyr4⟩) hX0 ?rer4
  case hyr4 => exact fun wx _ => rfl
  refine wpAnyM_tk (i := 7) (dst := some 20) (v := .string title) rfl rfl (by kernel_rfl) (fun _ _ _ h => h) (Or.inl ⟨by rfl, ?hyr7⟩) hX0 ?rer7
  case hyr7 => exact fun wx _ => rfl
  refine wpAnyM_tk (i := 8) (dst := some 21) (v := ?vr8) rfl rfl (by kernel_rfl) (fun _ _ _ h => h) (Or.inl ⟨by rfl, ?hyr8⟩) hX0 ?rer8
  case hyr8 => (intro wx hSx; clear hSx; go_simp; try (with_reducible rfl))
  simp only [Act.put, qA, qB, qC]
  refine wpAnyM_tk (i := 11) (dst := some 24) (v := .string closed) rfl rfl (by kernel_rfl) (fun _ _ _ h => h) (Or.inl ⟨by rfl, ?hyr11⟩) hX0 ?rer11
  case hyr11 => exact fun wx _ => rfl
  refine wpAnyM_tk (i := 12) (dst := some 25) (v := ?vr12) rfl rfl (by kernel_rfl) (fun _ _ _ h => h) (Or.inl ⟨by rfl, ?hyr12⟩) hX0 ?rer12
  case hyr12 => (intro wx hSx; clear hSx; go_simp; try (with_reducible rfl))
  try simp only [Act.put, qA, qB, qC]
  change wpAnyM _ _ _ _ _ _ 9 #[true, true, true, false, true, false, false, true, true, false, false, true, true, false, false, false, false] _ _
  refine wpAnyM_phaseU2 (R := fun d u w' => (d 3 = true → u 16 = .string A) ∧ (d 5 = true → u 18 = .string B) ∧ (d 6 = true → u 19 = .string AB) ∧ (d 9 = true → u 22 = .string C) ∧ (d 10 = true → u 23 = .string ABC) ∧ (d 13 = true → u 26 = .string D) ∧ (d 14 = true → u 27 = .string ABCD) ∧ (d 15 = true → u 28 = .string R) ∧ (d 16 = true → u 8 = .string R) ∧ WD w (w.heap.size) [] w') [16, 18, 19, 22, 23, 26, 27, 28, 8] [3, 5, 6, 9, 10, 13, 14, 15, 16] #[true, true, true, true, true, true, true, true, true, true, true, true, true, true, true, true, true] (by kernel_rfl) (by kernel_rfl) (by kernel_rfl) ⟨fun h => Bool.noConfusion h, fun h => Bool.noConfusion h, fun h => Bool.noConfusion h, fun h => Bool.noConfusion h, fun h => Bool.noConfusion h, fun h => Bool.noConfusion h, fun h => Bool.noConfusion h, fun h => Bool.noConfusion h, fun h => Bool.noConfusion h, hX0⟩ ?stepsr ?finr
  case stepsr =>
    refine StepsU.cons rfl ?sr3 (StepsU.cons rfl ?sr5 (StepsU.cons rfl ?sr6 (StepsU.cons rfl ?sr9 (StepsU.cons rfl ?sr10 (StepsU.cons rfl ?sr13 (StepsU.cons rfl ?sr14 (StepsU.cons rfl ?sr15 (StepsU.cons rfl ?sr16 StepsU.nil))))))))
    case sr3 =>
      rintro d u wx ⟨h3, h5, h6, h9, h10, h13, h14, h15, h16, hX⟩ hd K hK
      simp only [layS, List.foldl, Act.put, qA, qB, qC]
      go_simp
      go_wp2_with (go_at_call 198; refine (HP1.out _).mono ?_; rintro e x0 ⟨rfl, k0⟩)
      refine hK.out (upV u 16 (.string A)) _ (hX.keep k0) ⟨fun _ => rfl, fun h => h5 h, fun h => h6 h, fun h => h9 h, fun h => h10 h, fun h => h13 h, fun h => h14 h, fun h => h15 h, fun h => h16 h, hX.keep k0⟩ _ ?_
      simp only [layS, List.foldl, Act.put, qA, qB, qC, upV, reduceIte, Nat.reduceEqDiff]
    case sr5 =>
      rintro d u wx ⟨h3, h5, h6, h9, h10, h13, h14, h15, h16, hX⟩ hd K hK
      simp only [layS, List.foldl, Act.put, qA, qB, qC]
      go_simp
      go_wp2_with (go_at_call 198; refine (HP2.out _).mono ?_; rintro e x0 ⟨rfl, k0⟩)
      refine hK.out (upV u 18 (.string B)) _ (hX.keep k0) ⟨fun h => h3 h, fun _ => rfl, fun h => h6 h, fun h => h9 h, fun h => h10 h, fun h => h13 h, fun h => h14 h, fun h => h15 h, fun h => h16 h, hX.keep k0⟩ _ ?_
      simp only [layS, List.foldl, Act.put, qA, qB, qC, upV, reduceIte, Nat.reduceEqDiff]
    case sr6 =>
      rintro d u wx ⟨h3, h5, h6, h9, h10, h13, h14, h15, h16, hX⟩ hd K hK
      have e3 := h3 (hd 3 (by kernel_rfl))
      have e5 := h5 (hd 5 (by kernel_rfl))
      simp only [layS, List.foldl, Act.put, qA, qB, qC, e3, e5]
      go_simp
      refine hK.out (upV u 19 (.string AB)) _ hX ⟨fun h => h3 h, fun h => h5 h, fun _ => rfl, fun h => h9 h, fun h => h10 h, fun h => h13 h, fun h => h14 h, fun h => h15 h, fun h => h16 h, hX⟩ _ ?_
      simp only [layS, List.foldl, Act.put, qA, qB, qC, upV, reduceIte, Nat.reduceEqDiff, e3, e5]
    case sr9 =>
      rintro d u wx ⟨h3, h5, h6, h9, h10, h13, h14, h15, h16, hX⟩ hd K hK
      simp only [layS, List.foldl, Act.put, qA, qB, qC]
      go_simp
      go_wp2_with (go_at_call 75; refine (HB1.out _).mono ?_; rintro e x0 ⟨rfl, k0⟩)
      refine hK.out (upV u 22 (.string C)) _ (hX.keep k0) ⟨fun h => h3 h, fun h => h5 h, fun h => h6 h, fun _ => rfl, fun h => h10 h, fun h => h13 h, fun h => h14 h, fun h => h15 h, fun h => h16 h, hX.keep k0⟩ _ ?_
      simp only [layS, List.foldl, Act.put, qA, qB, qC, upV, reduceIte, Nat.reduceEqDiff]
    case sr10 =>
      rintro d u wx ⟨h3, h5, h6, h9, h10, h13, h14, h15, h16, hX⟩ hd K hK
      have e6 := h6 (hd 6 (by kernel_rfl))
      have e9 := h9 (hd 9 (by kernel_rfl))
      simp only [layS, List.foldl, Act.put, qA, qB, qC, e6, e9]
      go_simp
      refine hK.out (upV u 23 (.string ABC)) _ hX ⟨fun h => h3 h, fun h => h5 h, fun h => h6 h, fun h => h9 h, fun _ => rfl, fun h => h13 h, fun h => h14 h, fun h => h15 h, fun h => h16 h, hX⟩ _ ?_
      simp only [layS, List.foldl, Act.put, qA, qB, qC, upV, reduceIte, Nat.reduceEqDiff, e6, e9]
    case sr13 =>
      rintro d u wx ⟨h3, h5, h6, h9, h10, h13, h14, h15, h16, hX⟩ hd K hK
      simp only [layS, List.foldl, Act.put, qA, qB, qC]
      go_simp
      go_wp2_with (go_at_call 75; refine (HB2.out _).mono ?_; rintro e x0 ⟨rfl, k0⟩)
      refine hK.out (upV u 26 (.string D)) _ (hX.keep k0) ⟨fun h => h3 h, fun h => h5 h, fun h => h6 h, fun h => h9 h, fun h => h10 h, fun _ => rfl, fun h => h14 h, fun h => h15 h, fun h => h16 h, hX.keep k0⟩ _ ?_
      simp only [layS, List.foldl, Act.put, qA, qB, qC, upV, reduceIte, Nat.reduceEqDiff]
    case sr14 =>
      rintro d u wx ⟨h3, h5, h6, h9, h10, h13, h14, h15, h16, hX⟩ hd K hK
      have e10 := h10 (hd 10 (by kernel_rfl))
      have e13 := h13 (hd 13 (by kernel_rfl))
      simp only [layS, List.foldl, Act.put, qA, qB, qC, e10, e13]
      go_simp
      refine hK.out (upV u 27 (.string ABCD)) _ hX ⟨fun h => h3 h, fun h => h5 h, fun h => h6 h, fun h => h9 h, fun h => h10 h, fun h => h13 h, fun _ => rfl, fun h => h15 h, fun h => h16 h, hX⟩ _ ?_
      simp only [layS, List.foldl, Act.put, qA, qB, qC, upV, reduceIte, Nat.reduceEqDiff, e10, e13]
    case sr15 =>
      rintro d u wx ⟨h3, h5, h6, h9, h10, h13, h14, h15, h16, hX⟩ hd K hK
      have e14 := h14 (hd 14 (by kernel_rfl))
      simp only [layS, List.foldl, Act.put, qA, qB, qC, e14]
      go_simp
      go_wp2_with (go_at_call 197; refine (HTg.out _).mono ?_; rintro e x0 ⟨rfl, k0⟩)
      refine hK.out (upV u 28 (.string R)) _ (hX.keep k0) ⟨fun h => h3 h, fun h => h5 h, fun h => h6 h, fun h => h9 h, fun h => h10 h, fun h => h13 h, fun h => h14 h, fun _ => rfl, fun h => h16 h, hX.keep k0⟩ _ ?_
      simp only [layS, List.foldl, Act.put, qA, qB, qC, upV, reduceIte, Nat.reduceEqDiff, e14]
    case sr16 =>
      rintro d u wx ⟨h3, h5, h6, h9, h10, h13, h14, h15, h16, hX⟩ hd K hK
      have e15 := h15 (hd 15 (by kernel_rfl))
      simp only [layS, List.foldl, Act.put, qA, qB, qC, e15]
      go_simp
      refine hK.out (upV u 8 (.string R)) _ hX ⟨fun h => h3 h, fun h => h5 h, fun h => h6 h, fun h => h9 h, fun h => h10 h, fun h => h13 h, fun h => h14 h, fun h => h15 h, fun _ => rfl, hX⟩ _ ?_
      simp only [layS, List.foldl, Act.put, qA, qB, qC, upV, reduceIte, Nat.reduceEqDiff, e15]
  case finr =>
    rintro n' d u rx ⟨h3, h5, h6, h9, h10, h13, h14, h15, h16, hX⟩ hd
    have e16 := h3 (hd 3 rfl)
    have e18 := h5 (hd 5 rfl)
    have e19 := h6 (hd 6 rfl)
    have e22 := h9 (hd 9 rfl)
    have e23 := h10 (hd 10 rfl)
    have e26 := h13 (hd 13 rfl)
    have e27 := h14 (hd 14 rfl)
    have e28 := h15 (hd 15 rfl)
    have e8 := h16 (hd 16 rfl)
    simp only [layS, List.foldl, Act.put, qA, qB, qC, e16, e18, e19, e22, e23, e26, e27, e28, e8]
    clear hd h3 h5 h6 h9 h10 h13 h14 h15 h16 e16 e18 e19 e22 e23 e26 e27 e28 e8
    change wpAnyM _ _ _ _ _ _ (n' + 0) _ _ _
    refine wpAnyM_done (by kernel_rfl) ?_ _
    have hend := hX.below
    go_wp2
    go_ret
    exact ⟨rfl, hend⟩
end Go.Proofs.YtclpbaokadfhhaaGreatDoor
namespace Go.Proofs.YtclpbaokadfhhaaGreatDoor
open Go.RowKit
theorem str_ne {a b : ByteArray} (h : ¬ a = b) : (a.toList == b.toList) = false := by
  cases hc : a.toList == b.toList with
  | false => rfl
  | true =>
    have h1 := eq_of_beq hc
    rw [ByteArray.toList_eq, ByteArray.toList_eq] at h1
    exact absurd (ba_ext h1) h
set_option maxRecDepth 100000 in
set_option maxHeartbeats 2000000 in
theorem R_Close (HTS : TagSame) (key nonce title data : ByteArray) (w : World) :
    Calls Tryz.prog 95 #[.string key, .string nonce, .string title, .string data] w fun e w' => e = .returned (.tuple #[.string (Cc.CloseR key nonce title data).1, .int .i64 (Cc.CloseR key nonce title data).2]) ∧ Below w.heap.size w w' := by
  by_cases h : key.size = 32 ∧ nonce.size = 12 ∧ title.size ≤ 12000 ∧ data.size ≤ 12000
  · have e1 : Cc.CloseR key nonce title data = (Cc.CloseB key nonce title data, 0) := by unfold Cc.CloseR; rw [if_pos h]
    rw [e1]
    obtain ⟨h1, h2, h3, h4⟩ := h
    have HX : Hid (Rv 149 #[.string key, .string nonce, .string data] (.string (Cc.TurnB key nonce data))) := fun wx => R_xored key nonce data wx h1 h2 (by omega)
    have sT := Cc.TurnB_size key nonce data
    have HG : Hid (Rv 150 #[.string key, .string nonce, .string title, .string (Cc.TurnB key nonce data)] (.string (Cc.sealB key nonce title (Cc.TurnB key nonce data)))) := fun wx => R_tag HTS key nonce title _ wx h1 h2 (by omega) (by omega)
    have sS := Cc.sealB_size key nonce title (Cc.TurnB key nonce data)
    have HC : Hid (Cc.CloseB key nonce title data = Cc.TurnB key nonce data ++ Cc.sealB key nonce title (Cc.TurnB key nonce data)) := rfl
    generalize Cc.CloseB key nonce title data = R at HC ⊢
    generalize Cc.sealB key nonce title (Cc.TurnB key nonce data) = Z at HG sS HC
    generalize Cc.TurnB key nonce data = Y at HX HG sT HC
    have ad := add_strings Y Z (by omega)
    rw [← HC.out] at ad
    clear e1
    have fa1 : ((key.size : Int) != 32) = false := by rw [bne_eq_false_iff_eq]; omega
    have fa2 : (key.size : Int) = 32 := by omega
    have fb1 : ((nonce.size : Int) != 12) = false := by rw [bne_eq_false_iff_eq]; omega
    have fb2 : (nonce.size : Int) = 12 := by omega
    have fc1 : decide ((title.size : Int) > 12000) = false := decide_eq_false (by omega)
    have fc2 : decide ((12000 : Int) < (title.size : Int)) = false := decide_eq_false (by omega)
    have fc3 : decide (12000 < title.size) = false := decide_eq_false (by omega)
    have fc4 : ¬ 12000 < title.size := by omega
    have fd1 : decide ((data.size : Int) > 12000) = false := decide_eq_false (by omega)
    have fd2 : decide ((12000 : Int) < (data.size : Int)) = false := decide_eq_false (by omega)
    have fd3 : decide (12000 < data.size) = false := decide_eq_false (by omega)
    have fd4 : ¬ 12000 < data.size := by omega
    go_enter Tryz.func95, Tryz.ntmps95
    go_wp2_with fail
    refine (HX.out _).mono ?_
    rintro e w1 ⟨rfl, k1⟩
    go_wp2_with fail
    refine (HG.out _).mono ?_
    rintro e w2 ⟨rfl, k2⟩
    go_wp2
    go_ret2
    exact ⟨rfl, k1.trans (k2.mono k1.size)⟩
  · have e1 : Cc.CloseR key nonce title data = (⟨#[]⟩, 1) := by unfold Cc.CloseR; rw [if_neg h]
    rw [e1]
    clear e1
    by_cases h1 : key.size = 32
    · by_cases h2 : nonce.size = 12
      · by_cases h3 : title.size ≤ 12000
        · have h4 : ¬ data.size ≤ 12000 := fun h4 => h ⟨h1, h2, h3, h4⟩
          replace h : Hid True := trivial
          have fa1 : ((key.size : Int) != 32) = false := by rw [bne_eq_false_iff_eq]; omega
          have fa2 : (key.size : Int) = 32 := by omega
          have fb1 : ((nonce.size : Int) != 12) = false := by rw [bne_eq_false_iff_eq]; omega
          have fb2 : (nonce.size : Int) = 12 := by omega
          have fc1 : decide ((title.size : Int) > 12000) = false := decide_eq_false (by omega)
          have fc2 : decide ((12000 : Int) < (title.size : Int)) = false := decide_eq_false (by omega)
          have fc3 : decide (12000 < title.size) = false := decide_eq_false (by omega)
          have fc4 : ¬ 12000 < title.size := by omega
          have fd1 : decide ((data.size : Int) > 12000) = true := decide_eq_true (by omega)
          have fd2 : decide ((12000 : Int) < (data.size : Int)) = true := decide_eq_true (by omega)
          have fd3 : decide (12000 < data.size) = true := decide_eq_true (by omega)
          have fd4 : 12000 < data.size := by omega
          go_enter Tryz.func95, Tryz.ntmps95
          go_wp2
          go_ret2
          exact ⟨rfl, Below.refl _ _⟩
        · replace h : Hid True := trivial
          have fa1 : ((key.size : Int) != 32) = false := by rw [bne_eq_false_iff_eq]; omega
          have fa2 : (key.size : Int) = 32 := by omega
          have fb1 : ((nonce.size : Int) != 12) = false := by rw [bne_eq_false_iff_eq]; omega
          have fb2 : (nonce.size : Int) = 12 := by omega
          have fc1 : decide ((title.size : Int) > 12000) = true := decide_eq_true (by omega)
          have fc2 : decide ((12000 : Int) < (title.size : Int)) = true := decide_eq_true (by omega)
          have fc3 : decide (12000 < title.size) = true := decide_eq_true (by omega)
          have fc4 : 12000 < title.size := by omega
          go_enter Tryz.func95, Tryz.ntmps95
          go_wp2
          go_ret2
          exact ⟨rfl, Below.refl _ _⟩
      · replace h : Hid True := trivial
        have fa1 : ((key.size : Int) != 32) = false := by rw [bne_eq_false_iff_eq]; omega
        have fa2 : (key.size : Int) = 32 := by omega
        have fb1 : ((nonce.size : Int) != 12) = true := by rw [bne_iff_ne]; omega
        have fb2 : ¬ (nonce.size : Int) = 12 := by omega
        go_enter Tryz.func95, Tryz.ntmps95
        go_wp2
        go_ret2
        exact ⟨rfl, Below.refl _ _⟩
    · replace h : Hid True := trivial
      have fa1 : ((key.size : Int) != 32) = true := by rw [bne_iff_ne]; omega
      have fa2 : ¬ (key.size : Int) = 32 := by omega
      go_enter Tryz.func95, Tryz.ntmps95
      go_wp2
      go_ret2
      exact ⟨rfl, Below.refl _ _⟩
set_option maxRecDepth 100000 in
set_option maxHeartbeats 2000000 in
theorem R_Unclose (HTS : TagSame) (key nonce title closed : ByteArray) (w : World) (hcs : closed.size ≤ 140737488351232) :
    Calls Tryz.prog 97 #[.string key, .string nonce, .string title, .string closed] w fun e w' => e = .returned (.tuple #[.string (Cc.UncloseR key nonce title closed).1, .int .i64 (Cc.UncloseR key nonce title closed).2]) ∧ Below w.heap.size w w' := by
  by_cases h : key.size = 32 ∧ nonce.size = 12 ∧ title.size ≤ 12000 ∧ 16 ≤ closed.size ∧ closed.size ≤ 12016
  · have e1 : Cc.UncloseR key nonce title closed = if Cc.isRight key nonce title closed then (Cc.TurnB key nonce (Cc.body closed), 0) else (⟨#[]⟩, 3) := by unfold Cc.UncloseR; rw [if_pos h]
    rw [e1]
    obtain ⟨h1, h2, h3, h4, h5⟩ := h
    have sB := Cc.body_size closed
    have HX : Hid (Rv 149 #[.string key, .string nonce, .string (Cc.body closed)] (.string (Cc.TurnB key nonce (Cc.body closed)))) := fun wx => R_xored key nonce _ wx h1 h2 (by omega)
    have HG : Hid (Rv 150 #[.string key, .string nonce, .string title, .string (Cc.body closed)] (.string (Cc.sealB key nonce title (Cc.body closed)))) := fun wx => R_tag HTS key nonce title _ wx h1 h2 (by omega) (by omega)
    have HR : Hid (Cc.isRight key nonce title closed = decide (Cc.tail closed = Cc.sealB key nonce title (Cc.body closed))) := rfl
    have hbd : Cc.body closed = closed.extract 0 (closed.size - 16) := rfl
    have htl : Cc.tail closed = closed.extract (closed.size - 16) closed.size := rfl
    generalize Cc.isRight key nonce title closed = ir at HR
    generalize Cc.sealB key nonce title (Cc.body closed) = Z at HG HR
    generalize Cc.TurnB key nonce (Cc.body closed) = Y at HX
    generalize Cc.tail closed = TL at HR htl
    generalize Cc.body closed = BD at HX HG hbd
    generalize hm : closed.size - 16 = m at hbd htl
    have hwn : IntKind.i64.wrap ((closed.size : Int) - 16) = (m : Int) := by rw [IntKind.wrap_i64]; omega
    have hwn2 : (closed.size : Int) - 16 = (m : Int) := by omega
    have n0 : decide ((m : Int) < 0) = false := decide_eq_false (by omega)
    have n1 : decide ((m : Int) > 12000) = false := decide_eq_false (by omega)
    have n2 : decide ((12000 : Int) < (m : Int)) = false := decide_eq_false (by omega)
    have n3 : decide (12000 < m) = false := decide_eq_false (by omega)
    have n4 : ¬ 12000 < m := by omega
    have m1 : (m : Int) ≤ (closed.size : Int) := by omega
    have m2 : m ≤ closed.size := by omega
    replace hm : Hid (closed.size - 16 = m) := hm
    replace htl : closed.extract m closed.size = TL := htl.symm
    replace hbd : closed.extract 0 m = BD := hbd.symm
    clear e1
    have fa1 : ((key.size : Int) != 32) = false := by rw [bne_eq_false_iff_eq]; omega
    have fa2 : (key.size : Int) = 32 := by omega
    have fb1 : ((nonce.size : Int) != 12) = false := by rw [bne_eq_false_iff_eq]; omega
    have fb2 : (nonce.size : Int) = 12 := by omega
    have fc1 : decide ((title.size : Int) > 12000) = false := decide_eq_false (by omega)
    have fc2 : decide ((12000 : Int) < (title.size : Int)) = false := decide_eq_false (by omega)
    have fc3 : decide (12000 < title.size) = false := decide_eq_false (by omega)
    have fc4 : ¬ 12000 < title.size := by omega
    by_cases hr : TL = Z
    · have e2 : ir = true := by rw [HR.out]; exact decide_eq_true hr
      subst hr
      rw [e2, if_pos rfl]
      clear e2 HR
      go_enter Tryz.func97, Tryz.ntmps97
      go_wp2_with fail
      refine (HG.out _).mono ?_
      rintro e w1 ⟨rfl, k1⟩
      go_wp2_with fail
      refine (HX.out _).mono ?_
      rintro e w2 ⟨rfl, k2⟩
      go_wp2
      go_ret2
      exact ⟨rfl, k1.trans (k2.mono k1.size)⟩
    · have e2 : ir = false := by rw [HR.out]; exact decide_eq_false hr
      rw [e2, if_neg (by decide)]
      have hn := str_ne (fun h : Z = TL => hr h.symm)
      have hn2 := str_ne hr
      replace hr : Hid (¬ TL = Z) := hr
      clear e2 HR
      go_enter Tryz.func97, Tryz.ntmps97
      go_wp2_with fail
      refine (HG.out _).mono ?_
      rintro e w1 ⟨rfl, k1⟩
      go_wp2
      go_ret2
      exact ⟨rfl, k1⟩
  · have e1 : Cc.UncloseR key nonce title closed = (⟨#[]⟩, 1) := by unfold Cc.UncloseR; rw [if_neg h]
    rw [e1]
    clear e1
    have hwn : IntKind.i64.wrap ((closed.size : Int) - 16) = (closed.size : Int) - 16 := by rw [IntKind.wrap_i64]; omega
    by_cases h1 : key.size = 32
    · by_cases h2 : nonce.size = 12
      · by_cases h3 : title.size ≤ 12000
        · by_cases h4 : 16 ≤ closed.size
          · have h5 : ¬ closed.size ≤ 12016 := fun h5 => h ⟨h1, h2, h3, h4, h5⟩
            replace h : Hid True := trivial
            have fa1 : ((key.size : Int) != 32) = false := by rw [bne_eq_false_iff_eq]; omega
            have fa2 : (key.size : Int) = 32 := by omega
            have fb1 : ((nonce.size : Int) != 12) = false := by rw [bne_eq_false_iff_eq]; omega
            have fb2 : (nonce.size : Int) = 12 := by omega
            have fc1 : decide ((title.size : Int) > 12000) = false := decide_eq_false (by omega)
            have fc2 : decide ((12000 : Int) < (title.size : Int)) = false := decide_eq_false (by omega)
            have fc3 : decide (12000 < title.size) = false := decide_eq_false (by omega)
            have fc4 : ¬ 12000 < title.size := by omega
            have n0 : decide ((closed.size : Int) - 16 < 0) = false := decide_eq_false (by omega)
            have n1 : decide ((closed.size : Int) - 16 > 12000) = true := decide_eq_true (by omega)
            have n2 : decide ((12000 : Int) < (closed.size : Int) - 16) = true := decide_eq_true (by omega)
            have n5 : (12000 : Int) < (closed.size : Int) - 16 := by omega
            have n6 : ¬ (closed.size : Int) - 16 < 0 := by omega
            go_enter Tryz.func97, Tryz.ntmps97
            go_wp2
            go_ret2
            exact ⟨rfl, Below.refl _ _⟩
          · replace h : Hid True := trivial
            have fa1 : ((key.size : Int) != 32) = false := by rw [bne_eq_false_iff_eq]; omega
            have fa2 : (key.size : Int) = 32 := by omega
            have fb1 : ((nonce.size : Int) != 12) = false := by rw [bne_eq_false_iff_eq]; omega
            have fb2 : (nonce.size : Int) = 12 := by omega
            have fc1 : decide ((title.size : Int) > 12000) = false := decide_eq_false (by omega)
            have fc2 : decide ((12000 : Int) < (title.size : Int)) = false := decide_eq_false (by omega)
            have fc3 : decide (12000 < title.size) = false := decide_eq_false (by omega)
            have fc4 : ¬ 12000 < title.size := by omega
            have n0 : decide ((closed.size : Int) - 16 < 0) = true := decide_eq_true (by omega)
            have n6 : (closed.size : Int) - 16 < 0 := by omega
            go_enter Tryz.func97, Tryz.ntmps97
            go_wp2
            go_ret2
            exact ⟨rfl, Below.refl _ _⟩
        · replace h : Hid True := trivial
          have fa1 : ((key.size : Int) != 32) = false := by rw [bne_eq_false_iff_eq]; omega
          have fa2 : (key.size : Int) = 32 := by omega
          have fb1 : ((nonce.size : Int) != 12) = false := by rw [bne_eq_false_iff_eq]; omega
          have fb2 : (nonce.size : Int) = 12 := by omega
          have fc1 : decide ((title.size : Int) > 12000) = true := decide_eq_true (by omega)
          have fc2 : decide ((12000 : Int) < (title.size : Int)) = true := decide_eq_true (by omega)
          have fc3 : decide (12000 < title.size) = true := decide_eq_true (by omega)
          have fc4 : 12000 < title.size := by omega
          go_enter Tryz.func97, Tryz.ntmps97
          go_wp2
          go_ret2
          exact ⟨rfl, Below.refl _ _⟩
      · replace h : Hid True := trivial
        have fa1 : ((key.size : Int) != 32) = false := by rw [bne_eq_false_iff_eq]; omega
        have fa2 : (key.size : Int) = 32 := by omega
        have fb1 : ((nonce.size : Int) != 12) = true := by rw [bne_iff_ne]; omega
        have fb2 : ¬ (nonce.size : Int) = 12 := by omega
        go_enter Tryz.func97, Tryz.ntmps97
        go_wp2
        go_ret2
        exact ⟨rfl, Below.refl _ _⟩
    · replace h : Hid True := trivial
      have fa1 : ((key.size : Int) != 32) = true := by rw [bne_iff_ne]; omega
      have fa2 : ¬ (key.size : Int) = 32 := by omega
      go_enter Tryz.func97, Tryz.ntmps97
      go_wp2
      go_ret2
      exact ⟨rfl, Below.refl _ _⟩
end Go.Proofs.YtclpbaokadfhhaaGreatDoor
namespace Go.Proofs.YtclpbaokadfhhaaGreatDoor
open Go.RowKit
theorem CloseR_size (key nonce title data : ByteArray) : (Cc.CloseR key nonce title data).1.size ≤ 1000000 := by
  unfold Cc.CloseR
  split
  · rename_i h
    rw [show ((Cc.CloseB key nonce title data, (0 : Int)) : ByteArray × Int).1.size = data.size + 16 from Cc.CloseB_size _ _ _ _]
    omega
  · show (⟨#[]⟩ : ByteArray).size ≤ _
    decide
set_option maxRecDepth 100000 in
set_option maxHeartbeats 4000000 in
theorem L_closes (HTS : TagSame) (o : OpV) (ho : o.Ok) (q : Nat) (w1 wx : World) (hq : 0 < q) (hk : o.k = 4 ∨ o.k = 5) (hI : Inv q w1 wx) :
    Calls Tryz.prog 42 #[.pointer (some ⟨q, 0, none⟩), .agg o.cs] wx fun e w' => e = .returned (.bool true) ∧ Inv q w1 w' := by
  obtain ⟨⟨v, v1, v2, v3, v4⟩, hbut, hT⟩ := hI
  have hqs : q < wx.heap.size := v4.lt
  have hS : (fun y => Blk y q v.cs 43 ∧ Blk y wx.heap.size o.cs 45 ∧ But q w1 y ∧ Tab Sha.K y) (wx.alloc (.cells o.cs 45)) := ⟨v4.alloc _, Blk.new _ _ _, hbut.alloc (by omega) _, hT.below ((Below.refl _ _).alloc (Nat.le_refl _) _)⟩
  have HCa : Hid (∀ wy : World, Calls Tryz.prog 94 #[.string o.a, .string o.b, .string o.c, .string o.d] wy fun e w' => e = .returned (.tuple #[.string (Cc.CloseR o.a o.b o.c o.d).1, .int .i64 (Cc.CloseR o.a o.b o.c o.d).2]) ∧ Below wy.heap.size wy w') := fun wy => Close_any o.a o.b o.c o.d wy ho.a ho.b ho.c ho.d
  have HCb : Hid (∀ wy : World, Calls Tryz.prog 95 #[.string o.a, .string o.b, .string o.c, .string o.d] wy fun e w' => e = .returned (.tuple #[.string (Cc.CloseR o.a o.b o.c o.d).1, .int .i64 (Cc.CloseR o.a o.b o.c o.d).2]) ∧ Below wy.heap.size wy w') := fun wy => R_Close HTS o.a o.b o.c o.d wy
  have sX := CloseR_size o.a o.b o.c o.d
  generalize (Cc.CloseR o.a o.b o.c o.d).1 = X at HCa HCb sX
  generalize (Cc.CloseR o.a o.b o.c o.d).2 = Y at HCa HCb
  have hcz : (if o.d.size = 0 then v.c else o.d).size ≤ 140737488351232 := by split; have := v1.c; omega; exact ho.d
  have HOr : Hid (∀ wy : World, Calls Tryz.prog 96 #[.string o.d, .string v.c] wy fun e w' => e = .returned (.string (if o.d.size = 0 then v.c else o.d)) ∧ w' = wy) := fun wy => L_or o.d v.c wy
  generalize (if o.d.size = 0 then v.c else o.d) = cz at hcz HOr
  have HUa : Hid (∀ wy : World, Calls Tryz.prog 31 #[.string o.a, .string o.b, .string o.c, .string cz] wy fun e w' => e = .returned (.tuple #[.string (Cc.UncloseR o.a o.b o.c cz).1, .int .i64 (Cc.UncloseR o.a o.b o.c cz).2]) ∧ Below wy.heap.size wy w') := fun wy => Unclose_any o.a o.b o.c cz wy ho.a ho.b ho.c hcz
  have HUb : Hid (∀ wy : World, Calls Tryz.prog 97 #[.string o.a, .string o.b, .string o.c, .string cz] wy fun e w' => e = .returned (.tuple #[.string (Cc.UncloseR o.a o.b o.c cz).1, .int .i64 (Cc.UncloseR o.a o.b o.c cz).2]) ∧ Below wy.heap.size wy w') := fun wy => R_Unclose HTS o.a o.b o.c cz wy hcz
  generalize (Cc.UncloseR o.a o.b o.c cz).1 = X2 at HUa HUb
  generalize (Cc.UncloseR o.a o.b o.c cz).2 = Y2 at HUa HUb
  have HKEEP : Hid (∀ a b : World, (fun y => Blk y q v.cs 43 ∧ Blk y wx.heap.size o.cs 45 ∧ But q w1 y ∧ Tab Sha.K y) a → Below a.heap.size a b → (fun y => Blk y q v.cs 43 ∧ Blk y wx.heap.size o.cs 45 ∧ But q w1 y ∧ Tab Sha.K y) b) := fun a b h k => ⟨h.1.keep k, h.2.1.keep k, h.2.2.1.keep k (Nat.le_of_lt h.1.lt), h.2.2.2.below k⟩
  obtain ⟨c0, c1, c2, c3, c4, c5⟩ := OpV.at hS.2.1
  have sO := o.size
  generalize hcs : o.cs = CS at hS c0 c1 c2 c3 c4 c5 sO HKEEP ⊢
  replace hcs : Hid (o.cs = CS) := hcs
  clear v4 hbut hT hcz
  rcases hk with hk | hk
  · rw [hk] at c0
    go_enter Tryz.func42, Tryz.ntmps42
    go_wp2_with fail
    clear c0 c1 c2 c3 c4 c5
    generalize wx.alloc (.cells CS 45) = wa at hS ⊢
    refine (HCa.out _).mono ?_
    rintro e wb ⟨rfl, kb⟩
    replace hS := HKEEP.out _ _ hS kb
    clear kb
    have hO := hS.2.1
    rw [← hcs.out] at hO
    obtain ⟨c0, c1, c2, c3, c4, c5⟩ := OpV.at hO
    clear hO
    go_wp2_with fail
    clear c0 c1 c2 c3 c4 c5
    refine (HCb.out _).mono ?_
    rintro e wc ⟨rfl, kc⟩
    replace hS := HKEEP.out _ _ hS kc
    clear kc HKEEP
    have f0 := hS.1.frozen 0
    have cc := hS.1.cell 0
    rw [show v.cs[0]? = some (.string v.c) from rfl] at cc
    have h1 : Blk (wc.setCell ⟨q, 0, none⟩ (.string X)) q ({ v with c := X } : Wv).cs 43 := hS.1.setAt 0 _ rfl
    have h2 := hS.2.2.1.set 0 (.string X)
    have h3 : Tab Sha.K (wc.setCell ⟨q, 0, none⟩ (.string X)) := hS.2.2.2.but ((Below.refl _ _).setCell (p := ⟨q, 0, none⟩) (Nat.le_refl _) _) hq
    have hfin : Hid (Inv q w1 (wc.setCell ⟨q, 0, none⟩ (.string X))) := ⟨⟨{ v with c := X }, ⟨sX, v1.s, v1.l, v1.t⟩, v2, v3, h1⟩, h2, h3⟩
    clear h1 h2 h3 hS
    go_wp2
    go_ret
    exact ⟨rfl, hfin.out⟩
  · rw [hk] at c0
    go_enter Tryz.func42, Tryz.ntmps42
    go_wp2_with fail
    clear c0 c1 c2 c3 c4 c5
    generalize wx.alloc (.cells CS 45) = wa at hS ⊢
    rw [← hcs.out] at hS
    refine wp_region_M (S := (fun y => Blk y q v.cs 43 ∧ Blk y wx.heap.size o.cs 45 ∧ But q w1 y ∧ Tab Sha.K y)) (ls := []) (by kernel_rfl) ?_
    have hSd : (fun y => Blk y q v.cs 43 ∧ Blk y wx.heap.size o.cs 45 ∧ But q w1 y ∧ Tab Sha.K y) wa.drew := ⟨hS.1.drew, hS.2.1.drew, hS.2.2.1.drew, hS.2.2.2⟩
    clear hS
    generalize wa.drew = wd at hSd ⊢
    have hS := hSd
    clear hSd
    refine wpAnyM_tk (i := 0) (dst := some 53) (v := ?v53) rfl rfl (by kernel_rfl) (fun _ _ _ h => h) (Or.inl ⟨by rfl, ?hy0⟩) hS ?re0
    case hy0 => (intro wx hSx; clear hSx; go_simp; try (with_reducible rfl))
    refine wpAnyM_tk (i := 1) (dst := some 54) (v := .string o.d) rfl rfl (by kernel_rfl) (fun _ _ _ h => h) (Or.inl ⟨by rfl, ?hy1⟩) hS ?re1
    case hy1 => (intro wx hSx; obtain ⟨c0, c1, c2, c3, c4, c5⟩ := OpV.at hSx.2.1; clear hSx; go_simp; try (with_reducible rfl))
    refine wpAnyM_tk (i := 2) (dst := some 55) (v := ?v55) rfl rfl (by kernel_rfl) (fun _ _ _ h => h) (Or.inl ⟨by rfl, ?hy2⟩) hS ?re2
    case hy2 => (intro wx hSx; clear hSx; go_simp; try (with_reducible rfl))
    simp only [Act.put, qA, qB, qC]
    refine wpAnyM_tk (i := 3) (dst := some 56) (v := ?v56) rfl rfl (by kernel_rfl) (fun _ _ _ h => h) (Or.inl ⟨by rfl, ?hy3⟩) hS ?re3
    case hy3 => (intro wx hSx; clear hSx; go_simp; try (with_reducible rfl))
    refine wpAnyM_tk (i := 4) (dst := some 57) (v := ?v57) rfl rfl (by kernel_rfl) (fun _ _ _ h => h) (Or.inl ⟨by rfl, ?hy4⟩) hS ?re4
    case hy4 => (intro wx hSx; clear hSx; go_simp; try (with_reducible rfl))
    refine wpAnyM_tk (i := 5) (dst := some 58) (v := .string v.c) rfl rfl (by kernel_rfl) (fun _ _ _ h => h) (Or.inl ⟨by rfl, ?hy5⟩) hS ?re5
    case hy5 => (intro wx hSx; have cc := hSx.1.cell 0; rw [show v.cs[0]? = some (.string v.c) from rfl] at cc; clear hSx; go_simp; try (with_reducible rfl))
    simp only [Act.put, qA, qB, qC]
    refine wpAnyM_one (i := 6) (by kernel_rfl) rfl (fun K hK => ?_)
    go_simp
    go_wp2_with (go_at_call 96; refine (HOr.out _).mono ?_; rintro e wf ⟨rfl, hwf⟩)
    try rw [hwf]
    refine hK.out _ _ hS ?_
    try simp only [Act.put, qA, qB, qC]
    clear hK K hwf
    refine wpAnyM_tk (i := 7) (dst := some 9) (v := .string cz) rfl rfl (by kernel_rfl) (fun _ _ _ h => h) (Or.inl ⟨by rfl, ?hy7⟩) hS ?re7
    case hy7 => exact fun wx _ => rfl
    try simp only [Act.put, qA, qB, qC]
    refine wpAnyM_done (by kernel_rfl) ?_ _
    obtain ⟨c0, c1, c2, c3, c4, c5⟩ := OpV.at hS.2.1
    rw [hcs.out] at hS
    clear HOr
    go_wp2_with fail
    clear c0 c1 c2 c3 c4 c5
    refine (HUa.out _).mono ?_
    rintro e we ⟨rfl, ke⟩
    replace hS := HKEEP.out _ _ hS ke
    clear ke
    have hO := hS.2.1
    rw [← hcs.out] at hO
    obtain ⟨c0, c1, c2, c3, c4, c5⟩ := OpV.at hO
    clear hO
    go_wp2_with fail
    clear c0 c1 c2 c3 c4 c5
    refine (HUb.out _).mono ?_
    rintro e wg ⟨rfl, kg⟩
    replace hS := HKEEP.out _ _ hS kg
    clear kg
    have hfin : Hid (Inv q w1 wg) := ⟨⟨v, v1, v2, v3, hS.1⟩, hS.2.2.1, hS.2.2.2⟩
    clear hS
    go_wp2
    go_ret
    exact ⟨rfl, hfin.out⟩
theorem closes_all (HTS : TagSame) (w : World) (hq : 0 < w.heap.size) (o : OpV) (ho : o.Ok) (hk : o.k = 4 ∨ o.k = 5) (w1 wx : World) (hI : Inv w.heap.size w1 wx) :
    Calls Tryz.prog 42 #[.pointer (some ⟨w.heap.size, 0, none⟩), .agg o.cs] wx fun e w' => e = .returned (.bool true) ∧ Inv w.heap.size w1 w' := L_closes HTS o ho _ w1 wx hq hk hI
end Go.Proofs.YtclpbaokadfhhaaGreatDoor
