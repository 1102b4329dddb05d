/- Several texts as one: Lu5, Lu7, Lu8, Lu9. -/
import Derived.Test.YtclpbaokadfhhaaGreatDoorUi
namespace Go.Proofs.YtclpbaokadfhhaaGreatDoor
open Go.RowKit
theorem mk12 (w : World) : (Instr.makeSlice 55 (.int .i64 12) (.int .i64 12)).run Tryz.prog w = .ok (.slice (some ⟨w.heap.size, 0, none⟩) 12 12) (w.alloc (.cells (Bs (zeros 12)) 5)) := by kernel_rfl

set_option maxRecDepth 100000 in
set_option maxHeartbeats 2000000 in
theorem T_first (K : Nat → BitVec 64) (L sec r P AG KY : ByteArray) (S X : Nat → ByteArray) (Y : Nat → Int) (many : Nat) (w : World) (hK : Tab K w) (hL : L.size ≤ 12000) (hm : 84 + 48 * many ≤ L.size + 48) (h35 : 35 ≤ L.size) (hP : L.extract 3 35 = P) (hr : r.size = 32)
    (hS : ∀ i, i < many → L.extract (36 + 48 * i) (84 + 48 * i) = S i)
    (HA : Hid (∀ wx : World, Calls Tryz.prog 15 #[.string sec, .string P] wx fun e w' => e = .returned (.tuple #[.string AG, .int .i64 0]) ∧ Below wx.heap.size wx w'))
    (HD : Hid (∀ wx : World, Tab K wx → Calls Tryz.prog 30 #[.string AG, .string (P ++ r), .string Le.forKey, .int .i64 32] wx fun e w' => e = .returned (.tuple #[.string KY, .int .i64 0]) ∧ Below wx.heap.size wx w'))
    (HU : Hid (∀ (wx : World) (i : Nat), i < many → Calls Tryz.prog 31 #[.string KY, .string Le.nonce, .string ⟨#[]⟩, .string (S i)] wx fun e w' => e = .returned (.tuple #[.string (X i), .int .i64 (Y i)]) ∧ Below wx.heap.size wx w')) :
    Calls Tryz.prog 16 #[.string sec, .string r, .string L, .int .i64 (many : Int)] w fun e w' => (∃ k : Nat, k ≤ many ∧ (∀ i, i < k → ¬ Y i = 0) ∧ ((k < many ∧ Y k = 0 ∧ e = .returned (.int .i64 (k : Int))) ∨ (k = many ∧ e = .returned (.int .i64 (-1))))) ∧ Below w.heap.size w w' := by
  have hPs : P.size = 32 := by rw [← hP, ByteArray.size_extract]; omega
  have A1 : Op.stringOp .add P r = pure (.string (P ++ r)) := add_strings _ _ (by rw [hPs, hr]; omega)
  generalize P ++ r = PR at A1 HD
  have hI0 : Hid (∀ i, i < 0 → ¬ Y i = 0) := fun i hi => absurd hi (Nat.not_lt_zero i)
  have q1 : (35 : Int) ≤ (L.size : Int) := by omega
  replace hS : Hid (∀ i, i < many → L.extract (36 + 48 * i) (84 + 48 * i) = S i) := hS
  go_enter Tryz.func16, Tryz.ntmps16
  go_wp2_with fail
  try rw [hP]
  refine (HA.out _).mono ?_
  rintro e w1 ⟨rfl, k1⟩
  go_wp2_with fail
  refine (HD.out _ (hK.below k1)).mono ?_
  rintro e w2 ⟨rfl, k2⟩
  have bel : Below w.heap.size w w2 := k1.trans (k2.mono k1.size)
  clear k1 k2 HA HD hK A1
  go_wp2_with fail
  replace bel : Hid (Below w.heap.size w w2) := bel
  go_loopw [14] (fun i wr => ∃ k : Nat, i = .int .i64 k ∧ k ≤ many ∧ Hid (∀ i, i < k → ¬ Y i = 0) ∧ Hid (Below w.heap.size w wr)) (fun i _ => many - (intOf i).toNat)
  case atStart => exact ⟨0, rfl, by omega, hI0, bel⟩
  case round =>
    clear bel hI0
    obtain ⟨k, rfl, hk, hN, hB⟩ := hrel
    by_cases hlt : k < many
    · have d1 : (k : Int) < (many : Int) := by omega
      have HU1 : Hid (∀ wx : World, Calls Tryz.prog 31 #[.string KY, .string Le.nonce, .string ⟨#[]⟩, .string (S k)] wx fun e w' => e = .returned (.tuple #[.string (X k), .int .i64 (Y k)]) ∧ Below wx.heap.size wx w') := fun wx => HU.out wx k hlt
      have hs := hS.out k hlt
      have w1' : IntKind.i64.wrap (48 * (k : Int)) = 48 * (k : Int) := by rw [IntKind.wrap_i64]; omega
      have w2' : IntKind.i64.wrap (36 + 48 * (k : Int)) = 36 + 48 * (k : Int) := by rw [IntKind.wrap_i64]; omega
      have w3' : IntKind.i64.wrap (84 + 48 * (k : Int)) = 84 + 48 * (k : Int) := by rw [IntKind.wrap_i64]; omega
      have t1 : (36 + 48 * (k : Int)).toNat = 36 + 48 * k := by omega
      have t2 : (84 + 48 * (k : Int)).toNat = 84 + 48 * k := by omega
      have o1 : (0 : Int) ≤ 36 + 48 * (k : Int) := by omega
      have o2 : 36 + 48 * (k : Int) ≤ 84 + 48 * (k : Int) := by omega
      have o3 : 84 + 48 * (k : Int) ≤ (L.size : Int) := by omega
      clear HU hS
      go_wp2_with fail
      refine wp_region_M (S := (fun y : World => Below w.heap.size w y)) (ls := []) (by kernel_rfl) ?_
      have hX : (fun y : World => Below w.heap.size w y) wr.drew := hB.out.drew
      clear hB
      generalize wr.drew = wd at hX ⊢
      refine wpAnyM_take (i := 0) (dst := some 39) (v := .string KY) rfl rfl (by kernel_rfl) (by kernel_rfl) (by kernel_rfl) (by kernel_rfl) (by kernel_rfl) (fun _ _ _ h => h) (Or.inl ⟨by rfl, ?hy0⟩) hX ?re0
      case hy0 => exact fun wx _ => rfl
      refine wpAnyM_take (i := 3) (dst := some 42) (v := .string L) rfl rfl (by kernel_rfl) (by kernel_rfl) (by kernel_rfl) (by kernel_rfl) (by kernel_rfl) (fun _ _ _ h => h) (Or.inl ⟨by rfl, ?hy3⟩) hX ?re3
      case hy3 => exact fun wx _ => rfl
      refine wpAnyM_take (i := 4) (dst := some 43) (v := .int .i64 (k : Int)) rfl rfl (by kernel_rfl) (by kernel_rfl) (by kernel_rfl) (by kernel_rfl) (by kernel_rfl) (fun _ _ _ h => h) (Or.inl ⟨by rfl, ?hy4⟩) hX ?re4
      case hy4 => exact fun wx _ => rfl
      simp only [Act.put, List.setIfInBounds_toArray, List.set_cons_zero, List.set_cons_succ]
      refine wpAnyM_take (i := 5) (dst := some 44) (v := .int .i64 (48 * (k : Int))) rfl rfl (by kernel_rfl) (by kernel_rfl) (by kernel_rfl) (by kernel_rfl) (by kernel_rfl) (fun _ _ _ h => h) (Or.inl ⟨by rfl, ?hy5⟩) hX ?re5
      case hy5 => (intro wx hSx; clear hSx; go_simp; try (with_reducible rfl))
      refine wpAnyM_take (i := 6) (dst := some 45) (v := .int .i64 (36 + 48 * (k : Int))) rfl rfl (by kernel_rfl) (by kernel_rfl) (by kernel_rfl) (by kernel_rfl) (by kernel_rfl) (fun _ _ _ h => h) (Or.inl ⟨by rfl, ?hy6⟩) hX ?re6
      case hy6 => (intro wx hSx; clear hSx; go_simp; try (with_reducible rfl))
      simp only [Act.put, List.setIfInBounds_toArray, List.set_cons_zero, List.set_cons_succ]
      refine wpAnyM_take (i := 7) (dst := some 46) (v := .int .i64 (k : Int)) rfl rfl (by kernel_rfl) (by kernel_rfl) (by kernel_rfl) (by kernel_rfl) (by kernel_rfl) (fun _ _ _ h => h) (Or.inl ⟨by rfl, ?hy7⟩) hX ?re7
      case hy7 => exact fun wx _ => rfl
      refine wpAnyM_take (i := 8) (dst := some 47) (v := .int .i64 (48 * (k : Int))) rfl rfl (by kernel_rfl) (by kernel_rfl) (by kernel_rfl) (by kernel_rfl) (by kernel_rfl) (fun _ _ _ h => h) (Or.inl ⟨by rfl, ?hy8⟩) hX ?re8
      case hy8 => (intro wx hSx; clear hSx; go_simp; try (with_reducible rfl))
      refine wpAnyM_take (i := 9) (dst := some 48) (v := .int .i64 (84 + 48 * (k : Int))) rfl rfl (by kernel_rfl) (by kernel_rfl) (by kernel_rfl) (by kernel_rfl) (by kernel_rfl) (fun _ _ _ h => h) (Or.inl ⟨by rfl, ?hy9⟩) hX ?re9
      case hy9 => (intro wx hSx; clear hSx; go_simp; try (with_reducible rfl))
      simp only [Act.put, List.setIfInBounds_toArray, List.set_cons_zero, List.set_cons_succ]
      refine wpAnyM_take (i := 10) (dst := some 49) (v := .string (S k)) rfl rfl (by kernel_rfl) (by kernel_rfl) (by kernel_rfl) (by kernel_rfl) (by kernel_rfl) (fun _ _ _ h => h) (Or.inl ⟨by rfl, ?hy10⟩) hX ?re10
      case hy10 => (intro wx hSx; clear hSx; go_simp)
      simp only [Act.put, List.setIfInBounds_toArray, List.set_cons_zero, List.set_cons_succ]
      have hm12 := mk12 wd
      have hcv := stringOf (cap := 12) (Blk.new wd (Bs (zeros 12)) 5) 12 rfl
      refine wpAnyM_one (i := 1) (by kernel_rfl) rfl (fun K' hK' => ?_)
      go_simp
      refine hK'.out _ _ (hX.alloc hX.size _) ?_
      try simp only [Act.put, List.setIfInBounds_toArray, List.set_cons_zero, List.set_cons_succ]
      clear hK' K' hm12
      have hX2 : (fun y : World => Below w.heap.size w y) (wd.alloc (.cells (Bs (zeros 12)) 5)) := hX.alloc hX.size _
      refine wpAnyM_one (i := 2) (by kernel_rfl) rfl (fun K' hK' => ?_)
      go_simp
      refine hK'.out _ _ hX2 ?_
      try simp only [Act.put, List.setIfInBounds_toArray, List.set_cons_zero, List.set_cons_succ]
      clear hK' K' hcv hX
      generalize wd.alloc (.cells (Bs (zeros 12)) 5) = we at hX2 ⊢
      refine wpAnyM_one (i := 11) (by kernel_rfl) rfl (fun K' hK' => ?_)
      go_simp
      go_wp2_with (go_at_call 31; refine (HU1.out _).mono ?_; rintro e w5 ⟨rfl, kk⟩)
      have hX3 : (fun y : World => Below w.heap.size w y) w5 := Below.trans hX2 (kk.mono (Below.size hX2))
      refine hK'.out _ _ hX3 ?_
      try simp only [Act.put, List.setIfInBounds_toArray, List.set_cons_zero, List.set_cons_succ]
      clear hK' K' kk hX2
      refine wpAnyM_take (i := 12) (dst := some 38) (v := .tuple #[.string (X k), .int .i64 (Y k)]) rfl rfl (by kernel_rfl) (by kernel_rfl) (by kernel_rfl) (by kernel_rfl) (by kernel_rfl) (fun _ _ _ h => h) (Or.inl ⟨by rfl, ?hy12⟩) hX3 ?re12
      case hy12 => exact fun wx _ => rfl
      refine wpAnyM_take (i := 13) (dst := some 51) (v := .string (X k)) rfl rfl (by kernel_rfl) (by kernel_rfl) (by kernel_rfl) (by kernel_rfl) (by kernel_rfl) (fun _ _ _ h => h) (Or.inl ⟨by rfl, ?hy13⟩) hX3 ?re13
      case hy13 => exact fun wx _ => rfl
      refine wpAnyM_take (i := 14) (dst := some 52) (v := .int .i64 (Y k)) rfl rfl (by kernel_rfl) (by kernel_rfl) (by kernel_rfl) (by kernel_rfl) (by kernel_rfl) (fun _ _ _ h => h) (Or.inl ⟨by rfl, ?hy14⟩) hX3 ?re14
      case hy14 => exact fun wx _ => rfl
      try simp only [Act.put, List.setIfInBounds_toArray, List.set_cons_zero, List.set_cons_succ]
      refine wpAnyM_take (i := 15) (dst := some 15) (v := .string (X k)) rfl rfl (by kernel_rfl) (by kernel_rfl) (by kernel_rfl) (by kernel_rfl) (by kernel_rfl) (fun _ _ _ h => h) (Or.inl ⟨by rfl, ?hy15⟩) hX3 ?re15
      case hy15 => exact fun wx _ => rfl
      refine wpAnyM_take (i := 16) (dst := some 16) (v := .int .i64 (Y k)) rfl rfl (by kernel_rfl) (by kernel_rfl) (by kernel_rfl) (by kernel_rfl) (by kernel_rfl) (fun _ _ _ h => h) (Or.inl ⟨by rfl, ?hy16⟩) hX3 ?re16
      case hy16 => exact fun wx _ => rfl
      try simp only [Act.put, List.setIfInBounds_toArray, List.set_cons_zero, List.set_cons_succ]
      refine wpAnyM_done (by kernel_rfl) ?_ _
      replace hX3 : Hid (Below w.heap.size w w5) := hX3
      clear HU1 hs
      have hNk := hN.out
      by_cases hY : Y k = 0
      · have d2 : (Y k == 0) = true := by rw [beq_iff_eq]; exact hY
        clear hN
        go_wp2
        go_ret
        exact ⟨⟨k, hk, hNk, Or.inl ⟨hlt, hY, rfl⟩⟩, hX3.out⟩
      · have d2 : (Y k == 0) = false := by rw [beq_eq_false_iff_ne]; exact hY
        have hN2 : Hid (∀ i, i < k + 1 → ¬ Y i = 0) := fun i hi => by
          rcases Nat.lt_or_ge i k with h | h
          · exact hNk i h
          · rw [show i = k by omega]; exact hY
        clear hN hNk
        go_wp2_with fail
        go_roundw
        case rel => exact ⟨k + 1, by go_num, by omega, hN2, hX3⟩
        case measure => simp [intOf]; omega
    · have hkn : k = many := by omega
      subst hkn
      have d1 : ¬ (k : Int) < (k : Int) := by omega
      go_wp2
      go_ret
      exact ⟨⟨k, Nat.le_refl _, hN.out, Or.inr ⟨rfl, rfl⟩⟩, hB.out⟩
end Go.Proofs.YtclpbaokadfhhaaGreatDoor

namespace Go.Proofs.YtclpbaokadfhhaaGreatDoor
namespace Le
theorem shareR_two (K : Nat → BitVec 64) (r s p i : ByteArray) (h : r.size = 32) : (shareR K r s p i).2 = if use s r = true then 0 else 2 := by
  unfold shareR
  rw [if_pos h]
  by_cases c : use s r = true
  · rw [if_pos c, if_pos c]
  · rw [if_neg c, if_neg c]
theorem agreeR_two (s r : ByteArray) (hs : s.size = 32) (hr : r.size = 32) : AgreeR s r = if use s r = true then (agr s r, 0) else (⟨#[]⟩, 2) := by
  unfold AgreeR use agr
  rw [if_pos ⟨hs, hr⟩]
  by_cases c : agreed s.data.toList r.data.toList = zeros 32
  · rw [if_pos c, if_neg (by rw [c]; decide)]
  · rw [if_neg c, if_pos (by rw [Bool.not_eq_true', beq_eq_false_iff_ne]; exact c)]
theorem errTo_two (K : Nat → BitVec 64) (s p i : ByteArray) (R : List ByteArray) (h : ∀ k, k < R.length → (nth R k).size = 32) : ∀ n, n ≤ R.length → errTo K s p i R n = 0 ∨ errTo K s p i R n = 2
  | 0, _ => Or.inl rfl
  | n + 1, hn => by
    rw [errTo]
    rcases errTo_two K s p i R h n (by omega) with e | e
    · rw [if_pos e, shareR_two K _ s p i (h n (by omega))]
      by_cases c : use s (nth R n) = true
      · rw [if_pos c]; exact Or.inl rfl
      · rw [if_neg c]; exact Or.inr rfl
    · rw [if_neg (by rw [e]; decide)]; exact Or.inr e
end Le
end Go.Proofs.YtclpbaokadfhhaaGreatDoor

namespace Go.Proofs.YtclpbaokadfhhaaGreatDoor
open Go.RowKit

set_option maxRecDepth 100000 in
set_option maxHeartbeats 1000000 in
theorem T_firstS (K : Nat → BitVec 64) (seed dice data sec : ByteArray) (R : List ByteArray) (many : Nat) (w : World) (hsec : sec.size = 32) (h8 : R.length ≤ 8) (hdi : dice.size = 64) (hda : data.size ≤ 10000) (hm : many < R.length)
    (he : Le.errTo K (dice.extract 0 32) (Le.pub (dice.extract 0 32)) (dice.extract 32 64) R R.length = 0) (hK : Tab K w) (hu : Le.use sec (Le.pub (dice.extract 0 32)) = true) :
    Calls Tryz.prog 16 #[.string sec, .string (Le.pub sec), .string (Le.letter K seed R dice data), .int .i64 (many : Int)] w fun e w' =>
      (∃ k : Nat, k ≤ many ∧ (∀ i, i < k → Cc.isRight (Le.key K (Le.agr sec (Le.pub (dice.extract 0 32))) (Le.pub (dice.extract 0 32)) (Le.pub sec)) Le.nonce ⟨#[]⟩ (Le.share K (Le.nth R i) (dice.extract 0 32) (Le.pub (dice.extract 0 32)) (dice.extract 32 64)) = false)
        ∧ ((k < many ∧ Cc.isRight (Le.key K (Le.agr sec (Le.pub (dice.extract 0 32))) (Le.pub (dice.extract 0 32)) (Le.pub sec)) Le.nonce ⟨#[]⟩ (Le.share K (Le.nth R k) (dice.extract 0 32) (Le.pub (dice.extract 0 32)) (dice.extract 32 64)) = true ∧ e = .returned (.int .i64 (k : Int))) ∨ (k = many ∧ e = .returned (.int .i64 (-1))))) ∧ Below w.heap.size w w' := by
  have x2 : (dice.extract 32 64).size = 32 := by rw [ByteArray.size_extract, hdi]; rfl
  have hz := Le.err_all _ _ _ _ _ _ he
  have sd := Le.cat_size K (dice.extract 0 32) (Le.pub (dice.extract 0 32)) (dice.extract 32 64) R x2 R.length hz R.length (Nat.le_refl _)
  have hP := Le.pieces K (dice.extract 0 32) (Le.pub (dice.extract 0 32)) (dice.extract 32 64) R x2 he Le.mark (Le.pub (dice.extract 0 32)) (Le.one R.length) (Le.ident K seed) (Le.cnt data) (Cc.CloseB (Le.body K (dice.extract 32 64)) Le.nonce (Le.title K seed R dice data) data) (Le.sig K seed (Le.signed K seed R dice data)) rfl (Le.pub_size _) rfl
  have hC := Le.cut8 Le.mark (Le.pub (dice.extract 0 32)) (Le.one R.length) (Le.catTo K (dice.extract 0 32) (Le.pub (dice.extract 0 32)) (dice.extract 32 64) R R.length) (Le.ident K seed) (Le.cnt data) (Cc.CloseB (Le.body K (dice.extract 32 64)) Le.nonce (Le.title K seed R dice data) data) (Le.sig K seed (Le.signed K seed R dice data)) R.length data.size rfl (Le.pub_size _) rfl sd (Le.ident_size K seed) (Le.cnt_size data) (Cc.CloseB_size _ _ _ _) (Le.sig_size K seed _)
  dsimp only at hC
  rw [← Le.letter_eq] at hP hC
  obtain ⟨z, _, x3, _⟩ := hC
  have hS : ∀ i, i < many → (Le.letter K seed R dice data).extract (36 + 48 * i) (84 + 48 * i) = Le.share K (Le.nth R i) (dice.extract 0 32) (Le.pub (dice.extract 0 32)) (dice.extract 32 64) := fun i hi => by
    have h1 := Le.pcs_at (Le.letter K seed R dice data) 36 R.length R.length i (by omega)
    rw [hP, if_pos (by omega)] at h1
    have h2 := Le.shs_at K (dice.extract 0 32) (Le.pub (dice.extract 0 32)) (dice.extract 32 64) R i (by omega)
    unfold Le.nth at h2
    rw [List.getD_eq_getElem?_getD, h1] at h2
    rw [show 84 + 48 * i = 36 + 48 * i + 48 by omega]
    exact h2
  have hsz : ∀ i, (Le.share K (Le.nth R i) (dice.extract 0 32) (Le.pub (dice.extract 0 32)) (dice.extract 32 64)).size = 48 := fun i => by rw [Le.share_size, x2]
  have hpu := Le.pub_size (dice.extract 0 32)
  have hps := Le.pub_size sec
  have hY : ∀ i, (Cc.UncloseR (Le.key K (Le.agr sec (Le.pub (dice.extract 0 32))) (Le.pub (dice.extract 0 32)) (Le.pub sec)) Le.nonce ⟨#[]⟩ (Le.share K (Le.nth R i) (dice.extract 0 32) (Le.pub (dice.extract 0 32)) (dice.extract 32 64))).2 = if Cc.isRight (Le.key K (Le.agr sec (Le.pub (dice.extract 0 32))) (Le.pub (dice.extract 0 32)) (Le.pub sec)) Le.nonce ⟨#[]⟩ (Le.share K (Le.nth R i) (dice.extract 0 32) (Le.pub (dice.extract 0 32)) (dice.extract 32 64)) = true then 0 else 3 := fun i => by
    unfold Cc.UncloseR
    rw [if_pos ⟨Le.key_size K _ _ _, rfl, (by decide), by rw [hsz]; omega, by rw [hsz]; omega⟩]
    split <;> rfl
  refine (T_first K (Le.letter K seed R dice data) sec (Le.pub sec) (Le.pub (dice.extract 0 32)) (Le.agr sec (Le.pub (dice.extract 0 32))) (Le.key K (Le.agr sec (Le.pub (dice.extract 0 32))) (Le.pub (dice.extract 0 32)) (Le.pub sec)) (fun i => Le.share K (Le.nth R i) (dice.extract 0 32) (Le.pub (dice.extract 0 32)) (dice.extract 32 64))
    (fun i => (Cc.UncloseR (Le.key K (Le.agr sec (Le.pub (dice.extract 0 32))) (Le.pub (dice.extract 0 32)) (Le.pub sec)) Le.nonce ⟨#[]⟩ (Le.share K (Le.nth R i) (dice.extract 0 32) (Le.pub (dice.extract 0 32)) (dice.extract 32 64))).1)
    (fun i => (Cc.UncloseR (Le.key K (Le.agr sec (Le.pub (dice.extract 0 32))) (Le.pub (dice.extract 0 32)) (Le.pub sec)) Le.nonce ⟨#[]⟩ (Le.share K (Le.nth R i) (dice.extract 0 32) (Le.pub (dice.extract 0 32)) (dice.extract 32 64))).2) many w hK (by omega) (by omega) (by omega) x3 hps hS ?_ ?_ ?_).mono ?_
  · intro wx
    have := Agree_any sec (Le.pub (dice.extract 0 32)) wx (by omega) (by omega)
    rw [Le.agreeR_two sec _ hsec hpu, if_pos hu] at this
    exact this
  · intro wx h
    have := Derive_any K (Le.agr sec (Le.pub (dice.extract 0 32))) (Le.pub (dice.extract 0 32) ++ Le.pub sec) Le.forKey 32 wx (by rw [Le.agr_size]; omega) (by rw [ByteArray.size_append]; omega) (by decide) h
    rw [show Sha.DeriveR K (Le.agr sec (Le.pub (dice.extract 0 32))) (Le.pub (dice.extract 0 32) ++ Le.pub sec) Le.forKey 32 = (Le.key K (Le.agr sec (Le.pub (dice.extract 0 32))) (Le.pub (dice.extract 0 32)) (Le.pub sec), 0) by
      unfold Sha.DeriveR
      rw [if_pos ⟨by rw [Le.agr_size]; omega, by rw [ByteArray.size_append]; omega, by decide, by decide, by decide⟩]; rfl] at this
    exact this
  · intro wx i hi
    exact Unclose_any _ _ _ _ wx (by rw [Le.key_size]; omega) (by decide) (by decide) (by rw [hsz]; omega)
  · rintro e w' ⟨⟨k, hk, hn, ho⟩, hb⟩
    refine ⟨⟨k, hk, fun i hi => ?_, ?_⟩, hb⟩
    · have h1 := hn i hi
      rw [hY i] at h1
      cases hc : Cc.isRight (Le.key K (Le.agr sec (Le.pub (dice.extract 0 32))) (Le.pub (dice.extract 0 32)) (Le.pub sec)) Le.nonce ⟨#[]⟩ (Le.share K (Le.nth R i) (dice.extract 0 32) (Le.pub (dice.extract 0 32)) (dice.extract 32 64)) with
      | false => rfl
      | true => rw [hc, if_pos rfl] at h1; exact absurd rfl h1
    · rcases ho with ⟨h1, h2, h3⟩ | h4
      · left
        refine ⟨h1, ?_, h3⟩
        rw [hY k] at h2
        cases hc : Cc.isRight (Le.key K (Le.agr sec (Le.pub (dice.extract 0 32))) (Le.pub (dice.extract 0 32)) (Le.pub sec)) Le.nonce ⟨#[]⟩ (Le.share K (Le.nth R k) (dice.extract 0 32) (Le.pub (dice.extract 0 32)) (dice.extract 32 64)) with
        | true => rfl
        | false => rw [hc, if_neg (by decide)] at h2; exact absurd h2 (by decide)
      · exact Or.inr h4
end Go.Proofs.YtclpbaokadfhhaaGreatDoor

namespace Go.Proofs.YtclpbaokadfhhaaGreatDoor
open Go.RowKit
namespace Le
theorem nth_map (l : List ByteArray) (i : Nat) (h : i < l.length) : nth (l.map pub) i = pub (nth l i) := by
  unfold nth
  rw [List.getD_eq_getElem?_getD, List.getD_eq_getElem?_getD, List.getElem?_map, List.getElem?_eq_getElem h]
  rfl
theorem nth_mem (l : List ByteArray) (i : Nat) (h : i < l.length) : nth l i ∈ l := by
  unfold nth
  rw [List.getD_eq_getElem?_getD, List.getElem?_eq_getElem h]
  exact List.getElem_mem h
theorem nth_32 (l : List ByteArray) (i : Nat) (h : i < (l.map pub).length) : (nth (l.map pub) i).size = 32 := by
  rw [nth_map l i (by rw [List.length_map] at h; exact h)]
  exact pub_size _
/-- all readers are of use: no error -/
theorem er_all (K : Nat → BitVec 64) (s p i : ByteArray) (R : List ByteArray) (h : ∀ k, k < R.length → (nth R k).size = 32) (hu : ∀ k, k < R.length → use s (nth R k) = true) : ∀ n, n ≤ R.length → errTo K s p i R n = 0
  | 0, _ => rfl
  | n + 1, hn => by
    rw [errTo, if_pos (er_all K s p i R h hu n (by omega)), shareR_two K _ s p i (h n (by omega)), if_pos (hu n (by omega))]
theorem er_some (K : Nat → BitVec 64) (s p i : ByteArray) (R : List ByteArray) (h : ∀ k, k < R.length → (nth R k).size = 32) (j : Nat) (hj : j < R.length) (hu : use s (nth R j) = false) : errTo K s p i R R.length = 2 := by
  rcases errTo_two K s p i R h R.length (Nat.le_refl _) with e | e
  · have := err_all K s p i R R.length e j hj
    rw [shareR_two K _ s p i (h j hj), hu] at this
    exact absurd this (by decide)
  · exact e
theorem letter_size (K : Nat → BitVec 64) (seed : ByteArray) (R : List ByteArray) (dice data : ByteArray) (hdi : dice.size = 64) (he : errTo K (dice.extract 0 32) (pub (dice.extract 0 32)) (dice.extract 32 64) R R.length = 0) : (letter K seed R dice data).size = 152 + 48 * R.length + data.size := by
  have x2 : (dice.extract 32 64).size = 32 := by rw [ByteArray.size_extract, hdi]; rfl
  have hz := err_all _ _ _ _ _ _ he
  have sd := cat_size K (dice.extract 0 32) (pub (dice.extract 0 32)) (dice.extract 32 64) R x2 R.length hz R.length (Nat.le_refl _)
  have hC := cut8 mark (pub (dice.extract 0 32)) (one R.length) (catTo K (dice.extract 0 32) (pub (dice.extract 0 32)) (dice.extract 32 64) R R.length) (ident K seed) (cnt data) (Cc.CloseB (body K (dice.extract 32 64)) nonce (title K seed R dice data) data) (sig K seed (signed K seed R dice data)) R.length data.size rfl (pub_size _) rfl sd (ident_size K seed) (cnt_size data) (Cc.CloseB_size _ _ _ _) (sig_size K seed _)
  rw [letter_eq]
  exact hC.1
end Le
/-- Open with key i finds place j -/
def OpenTo (K : Nat → BitVec 64) (sd di da : ByteArray) (l : List ByteArray) (i j : Nat) : Prop :=
  ∀ wx : World, Tab K wx → Calls Tryz.prog 17 #[.string (Le.nth l i), .string (Le.letter K sd (l.map Le.pub) di da)] wx fun e w' => e = .returned (.tuple #[.agg #[.string da, .string (Le.ident K sd), .int .i64 (j : Int)], .int .i64 0]) ∧ Below wx.heap.size wx w'

theorem T_firstO (K : Nat → BitVec 64) (sd di da : ByteArray) (l : List ByteArray) (i : Nat) (w : World) (h32 : ∀ x ∈ l, x.size = 32) (h8 : l.length ≤ 8) (hdi : di.size = 64) (hda : da.size ≤ 10000) (hi : i < l.length)
    (hu : ∀ k, k < l.length → Le.use (di.extract 0 32) (Le.nth (l.map Le.pub) k) = true) (hK : Tab K w) :
    Calls Tryz.prog 16 #[.string (Le.nth l i), .string (Le.nth (l.map Le.pub) i), .string (Le.letter K sd (l.map Le.pub) di da), .int .i64 (i : Int)] w fun e w' =>
      ((∃ k : Nat, k < i ∧ e = .returned (.int .i64 (k : Int)) ∧ (Le.nth (l.map Le.pub) k = Le.nth (l.map Le.pub) i → OpenTo K sd di da l i k)) ∨ (e = .returned (.int .i64 (-1)) ∧ OpenTo K sd di da l i i)) ∧ Below w.heap.size w w' := by
  have hL : (l.map Le.pub).length = l.length := List.length_map _
  have he := Le.er_all K (di.extract 0 32) (Le.pub (di.extract 0 32)) (di.extract 32 64) (l.map Le.pub) (Le.nth_32 l) (fun k hk => hu k (by rw [hL] at hk; exact hk)) _ (Nat.le_refl _)
  have hsec : (Le.nth l i).size = 32 := h32 _ (Le.nth_mem l i hi)
  have x1 : (di.extract 0 32).size = 32 := by rw [ByteArray.size_extract, hdi]; rfl
  have hmi := Le.nth_map l i hi
  have hui : Le.use (Le.nth l i) (Le.pub (di.extract 0 32)) = true := by
    rw [Le.use_both _ _ hsec x1, ← hmi]
    exact hu i hi
  have HO : ∀ j, j < l.length → Le.nth (l.map Le.pub) j = Le.nth (l.map Le.pub) i → (∀ q, q < j → Cc.isRight (Le.key K (Le.agr (Le.nth l i) (Le.pub (di.extract 0 32))) (Le.pub (di.extract 0 32)) (Le.pub (Le.nth l i))) Le.nonce ⟨#[]⟩ (Le.share K (Le.nth (l.map Le.pub) q) (di.extract 0 32) (Le.pub (di.extract 0 32)) (di.extract 32 64)) = false) → OpenTo K sd di da l i j := fun j hj hr hno wx hx =>
    P_Open (Le.nth l i) (Le.letter K sd (l.map Le.pub) di da) da (Le.ident K sd) (j : Int) 0 wx hsec (fun wy hy => T_OpenS K sd di da (Le.nth l i) (l.map Le.pub) j wy hsec (by omega) (by omega) hdi hda he (hx.below hy) (by omega) (by rw [hr, hmi]) hno)
  rw [hmi]
  refine (T_firstS K sd di da (Le.nth l i) (l.map Le.pub) i w hsec (by omega) hdi hda (by omega) he hK hui).mono ?_
  rintro e w' ⟨⟨k, hk, hn, ho⟩, hb⟩
  refine ⟨?_, hb⟩
  rcases ho with ⟨h1, h2, h3⟩ | ⟨h1, h3⟩
  · exact Or.inl ⟨k, h1, h3, fun hr => HO k (by omega) (by rw [hr, hmi]) hn⟩
  · subst h1
    exact Or.inr ⟨h3, HO k hi rfl hn⟩
end Go.Proofs.YtclpbaokadfhhaaGreatDoor
