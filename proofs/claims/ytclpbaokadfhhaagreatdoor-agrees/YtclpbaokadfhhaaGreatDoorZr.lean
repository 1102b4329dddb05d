/- Several texts as one: Rc1, Rc2, Rc3, Rc4. -/
import Derived.Test.YtclpbaokadfhhaaGreatDoorZm
import Derived.Test.YtclpbaokadfhhaaGreatDoorZg
import Derived.RegionTactic
import Derived.BigRegion
import Derived.Test.YtclpbaokadfhhaaGreatDoorZe
import Derived.Test.YtclpbaokadfhhaaGreatDoorCSeal
import Derived.Test.YtclpbaokadfhhaaGreatDoorRp1
namespace Go.Proofs.YtclpbaokadfhhaaGreatDoor
open Go.RowKit
set_option maxRecDepth 100000 in
set_option maxHeartbeats 1000000 in
theorem R_left (x : BitVec 32) (n : Nat) (w : World) (h0 : 0 < n) (hn : n < 32) :
    Calls Tryz.prog 260 #[.int .u32 (V x), .int .i64 n] w fun e w' => e = .returned (.int .u32 (V (Cc.rotl x n))) ∧ Below w.heap.size w w' := by
  have e1 : IntKind.i64.wrap (32 - (n : Int)) = ((32 - n : Nat) : Int) := by rw [IntKind.wrap_i64]; omega
  go_enter Tryz.func260, Tryz.ntmps260
  go_wp2_with fail
  go_region
  all_goals
    go_wp2
    go_ret
    refine ⟨?_, (Below.refl _ _).drew⟩
    rw [V_shl', V_shr, V_or]
    rfl
theorem four_eq (f : Nat → UInt8) : bits BinOp.or IntKind.u32 (bits BinOp.or IntKind.u32 (bits BinOp.or IntKind.u32 (((f 0).toNat : Int) % 4294967296) (((f 1).toNat : Int) % 4294967296 * 256 % 4294967296)) (((f 2).toNat : Int) % 4294967296 * 65536 % 4294967296)) (((f 3).toNat : Int) % 4294967296 * 16777216 % 4294967296) = V (Cc.wd f 4) := by
  have h0 := (f 0).toNat_lt
  have e0 : ((f 0).toNat : Int) % 4294967296 = V (Cc.wd f 1) := by
    rw [show Cc.wd f 1 = BitVec.ofNat 32 (f 0).toNat by simp [Cc.wd], ← V_of _ (by omega)]
    omega
  have e1 := cwd_step (Cc.wd f 1) (f 1) 1
  have e2 := cwd_step (Cc.wd f 2) (f 2) 2
  have e3 := cwd_step (Cc.wd f 3) (f 3) 3
  rw [show (2 : Int) ^ (8 * 1) = 256 by decide] at e1
  rw [show (2 : Int) ^ (8 * 2) = 65536 by decide] at e2
  rw [show (2 : Int) ^ (8 * 3) = 16777216 by decide] at e3
  rw [e0, e1]
  rw [show Cc.wd f 1 ||| BitVec.ofNat 32 (f 1).toNat <<< (8 * 1) = Cc.wd f 2 from rfl, e2]
  rw [show Cc.wd f 2 ||| BitVec.ofNat 32 (f 2).toNat <<< (8 * 2) = Cc.wd f 3 from rfl, e3]
  rfl
set_option maxRecDepth 100000 in
set_option maxHeartbeats 1000000 in
theorem R_four (s : ByteArray) (f : Nat → UInt8) (w : World) (hs : s.size = 4) (hf : ∀ i, i < 4 → s.data.toList.getD i 0 = f i) :
    Calls Tryz.prog 236 #[.string s] w fun e w' => e = .returned (.int .u32 (V (Cc.wd f 4))) ∧ Below w.heap.size w w' := by
  have x0 := index_str s 0 0 (by omega) (by rfl) (by omega)
  have x1 := index_str s 1 1 (by omega) (by rfl) (by omega)
  have x2 := index_str s 2 2 (by omega) (by rfl) (by omega)
  have x3 := index_str s 3 3 (by omega) (by rfl) (by omega)
  unfold byt at x0 x1 x2 x3
  rw [hf 0 (by omega)] at x0
  rw [hf 1 (by omega)] at x1
  rw [hf 2 (by omega)] at x2
  rw [hf 3 (by omega)] at x3
  go_enter Tryz.func236, Tryz.ntmps236
  go_wp2_with fail
  go_region
  all_goals
    go_wp2
    go_ret
    refine ⟨?_, (Below.refl _ _).drew⟩
    rw [four_eq]
    rfl
theorem q_cell {w : World} {p t : Nat} {l : List (BitVec 32)} (hb : Blk w p (Vs l) t) (i : Nat) (h : i < l.length) : w.cell? ⟨p, i, none⟩ = some (.int .u32 (V (l.getD i 0))) := by
  have := hb.cell i
  rw [Vs_at _ _ h] at this
  exact this
def qadd (l : List (BitVec 32)) (a b : Nat) : List (BitVec 32) := l.set a (l.getD a 0 + l.getD b 0)
def qrot (l : List (BitVec 32)) (d a n : Nat) : List (BitVec 32) := l.set d (Cc.rotl (l.getD d 0 ^^^ l.getD a 0) n)
theorem qadd_length (l : List (BitVec 32)) (a b : Nat) : (qadd l a b).length = l.length := by simp [qadd]
theorem qrot_length (l : List (BitVec 32)) (d a n : Nat) : (qrot l d a n).length = l.length := by simp [qrot]
theorem q_mix (l : List (BitVec 32)) (g b t n : Nat) (hg : g < l.length) (h : g ≠ t) : qrot (qadd l g b) t g n = Cc.mix l g b t n := by
  unfold qrot qadd
  rw [getD_set_neC _ _ _ _ _ h, getD_set_eq _ _ _ _ hg]; rfl
theorem q_all (l : List (BitVec 32)) (a b c d : Nat) (hl : l.length = 16) (ha : a < 16) (hc : c < 16) (had : a ≠ d) (hcb : c ≠ b) :
    qrot (qadd (qrot (qadd (qrot (qadd (qrot (qadd l a b) d a 16) c d) b c 12) a b) d a 8) c d) b c 7 = Cc.quarter l a b c d := by
  unfold Cc.quarter
  rw [q_mix l a b d 16 (by omega) had, q_mix _ c d b 12 (by rw [Cc.mix_length]; omega) hcb, q_mix _ a b d 8 (by rw [Cc.mix_length, Cc.mix_length]; omega) had, q_mix _ c d b 7 (by rw [Cc.mix_length, Cc.mix_length, Cc.mix_length]; omega) hcb]
end Go.Proofs.YtclpbaokadfhhaaGreatDoor
namespace Go.Proofs.YtclpbaokadfhhaaGreatDoor
open Go.RowKit
theorem zeroV16 (w : World) : Sem.run Tryz.prog (zeroValue 203) w = .ok (.agg (Vs none16)) w := by kernel_rfl
def QS (w : World) (L : List (BitVec 32)) (wx : World) : Prop := Blk wx w.heap.size (Vs L) 203 ∧ Blk wx (w.heap.size + 1) (Vs none16) 203 ∧ Below w.heap.size w wx
theorem QS.drew {w wx : World} {L : List (BitVec 32)} (h : QS w L wx) : QS w L wx.drew := ⟨h.1.drew, h.2.1.drew, h.2.2.drew⟩
theorem QS.keep {w wx wy : World} {L : List (BitVec 32)} (h : QS w L wx) (k : Below wx.heap.size wx wy) : QS w L wy := ⟨h.1.keep k, h.2.1.keep k, h.2.2.trans (k.mono h.2.2.size)⟩
theorem QS.set {w wx : World} {L : List (BitVec 32)} (h : QS w L wx) (i : Nat) (x : BitVec 32) : QS w (L.set i x) (wx.setCell ⟨w.heap.size, i, none⟩ (.int .u32 (V x))) := by
  have e : wx.setCell ⟨w.heap.size, i, none⟩ (.int .u32 (V x)) = wx.setRow w.heap.size (Vs (L.set i x)) := by rw [h.1.set, Vs_set]
  rw [e]
  exact ⟨h.1.row _, h.2.1.other (by omega) _, below_setRow h.2.2 (Nat.le_refl _) _⟩
set_option maxRecDepth 100000 in
set_option maxHeartbeats 8000000 in
theorem R_quarter (l : List (BitVec 32)) (a b c d : Nat) (w : World) (hl : l.length = 16) (ha : a < 16) (hb : b < 16) (hc : c < 16) (hd : d < 16) (had : a ≠ d) (hcb : c ≠ b) :
    Calls Tryz.prog 237 #[.agg (Vs l), .int .i64 a, .int .i64 b, .int .i64 c, .int .i64 d] w fun e w' => e = .returned (.agg (Vs (Cc.quarter l a b c d))) ∧ Below w.heap.size w w' := by
  have HQ : Hid (qrot (qadd (qrot (qadd (qrot (qadd (qrot (qadd l a b) d a 16) c d) b c 12) a b) d a 8) c d) b c 7 = Cc.quarter l a b c d) := q_all l a b c d hl ha hc had hcb
  generalize Cc.quarter l a b c d = R at HQ ⊢
  have hz := zeroV16
  have hns : (Vs l).size = 16 := by rw [Vs_size, hl]
  have ia : (a : Int) < 16 := by omega
  have ib : (b : Int) < 16 := by omega
  have ic : (c : Int) < 16 := by omega
  have id : (d : Int) < 16 := by omega
  have hS : QS w l ((w.alloc (.cells (Vs l) 203)).alloc (.cells (Vs none16) 203)) := ⟨heap_alloc2_old w _ _, heap_alloc2_new w _ _, ((Below.refl _ _).alloc (Nat.le_refl _) _).alloc (by simp) _⟩
  go_enter Tryz.func237, Tryz.ntmps237
  go_wp2_with fail
  generalize (w.alloc (.cells (Vs l) 203)).alloc (.cells (Vs none16) 203) = w0 at hS ⊢
  refine wp_region_M (S := QS w l) (ls := [9]) (by kernel_rfl) ?_
  have hSd : QS w l w0.drew := hS.drew
  clear hS
  generalize w0.drew = wd1 at hSd ⊢
  have hS := hSd
  clear hSd
  have cX : Hid (∀ wx, QS w l wx → wx.cell? ⟨w.heap.size, a, none⟩ = some (.int .u32 (V (l.getD a 0)))) := fun wx h => q_cell h.1 a (by omega)
  have cY : Hid (∀ wx, QS w l wx → wx.cell? ⟨w.heap.size, b, none⟩ = some (.int .u32 (V (l.getD b 0)))) := fun wx h => q_cell h.1 b (by omega)
  have eN : Hid (qadd l a b = l.set a (l.getD a 0 + l.getD b 0)) := rfl
  generalize l.getD a 0 = gx1 at cX eN
  generalize l.getD b 0 = gy1 at cY eN
  refine wpAnyM_tk (i := 0) (dst := some 11) (v := .int .i64 a) rfl rfl (by kernel_rfl) (fun _ _ _ h => h) (Or.inl ⟨by rfl, ?hy1_0⟩) hS ?re1_0
  case hy1_0 => exact fun wx _ => rfl
  refine wpAnyM_tk (i := 1) (dst := some 12) (v := .int .i64 a) rfl rfl (by kernel_rfl) (fun _ _ _ h => h) (Or.inl ⟨by rfl, ?hy1_1⟩) hS ?re1_1
  case hy1_1 => exact fun wx _ => rfl
  refine wpAnyM_tk (i := 2) (dst := some 13) (v := .pointer (some ⟨w.heap.size, a, none⟩)) rfl rfl (by kernel_rfl) (fun _ _ _ h => h) (Or.inl ⟨by rfl, ?hy1_2⟩) hS ?re1_2
  case hy1_2 => (intro wx hSx; clear hSx; go_simp; try (with_reducible rfl))
  simp only [Act.put, qA, qB, qC]
  refine wpAnyM_tk (i := 3) (dst := some 14) (v := .int .u32 (V gx1)) rfl rfl (by kernel_rfl) (fun _ _ _ h => h) (Or.inl ⟨by rfl, ?hy1_3⟩) hS ?re1_3
  case hy1_3 => (intro wx hSx; have cc := cX.out wx hSx; clear hSx; go_simp; try (with_reducible rfl))
  refine wpAnyM_tk (i := 4) (dst := some 15) (v := .int .i64 b) rfl rfl (by kernel_rfl) (fun _ _ _ h => h) (Or.inl ⟨by rfl, ?hy1_4⟩) hS ?re1_4
  case hy1_4 => exact fun wx _ => rfl
  refine wpAnyM_tk (i := 5) (dst := some 16) (v := .pointer (some ⟨w.heap.size, b, none⟩)) rfl rfl (by kernel_rfl) (fun _ _ _ h => h) (Or.inl ⟨by rfl, ?hy1_5⟩) hS ?re1_5
  case hy1_5 => (intro wx hSx; clear hSx; go_simp; try (with_reducible rfl))
  simp only [Act.put, qA, qB, qC]
  refine wpAnyM_tk (i := 6) (dst := some 17) (v := .int .u32 (V gy1)) rfl rfl (by kernel_rfl) (fun _ _ _ h => h) (Or.inl ⟨by rfl, ?hy1_6⟩) hS ?re1_6
  case hy1_6 => (intro wx hSx; have cc := cY.out wx hSx; clear hSx; go_simp; try (with_reducible rfl))
  refine wpAnyM_tk (i := 7) (dst := some 18) (v := .int .u32 (V (gx1 + gy1))) rfl rfl (by kernel_rfl) (fun _ _ _ h => h) (Or.inl ⟨by rfl, ?hy1_7⟩) hS ?re1_7
  case hy1_7 => (intro wx hSx; clear hSx; go_simp; first | rw [V_add] | rw [V_add'])
  refine wpAnyM_tk (i := 8) (dst := some 19) (v := .pointer (some ⟨w.heap.size, a, none⟩)) rfl rfl (by kernel_rfl) (fun _ _ _ h => h) (Or.inl ⟨by rfl, ?hy1_8⟩) hS ?re1_8
  case hy1_8 => (intro wx hSx; clear hSx; go_simp; try (with_reducible rfl))
  simp only [Act.put, qA, qB, qC]
  refine wpAnyM_late (i := 9) (by kernel_rfl) rfl rfl (fun K hK => ?_)
  have f0 := hS.1.frozen a
  have cc := cX.out _ hS
  go_simp
  refine hK.out _ _ ?_
  clear hK K f0 cc
  replace hS := hS.set a (gx1 + gy1)
  have hl1 : (qadd l a b).length = 16 := by rw [qadd_length]; exact hl
  rw [← eN.out] at hS
  skip
  replace hS : QS w (qadd l a b) (wd1.setCell ⟨w.heap.size, a, none⟩ (.int .u32 (V (gx1 + gy1)))) := hS
  generalize wd1.setCell ⟨w.heap.size, a, none⟩ (.int .u32 (V (gx1 + gy1))) = wn1 at hS ⊢
  clear eN cX cY
  generalize qadd l a b = L1 at hS HQ hl1
  refine wpAnyM_done (by kernel_rfl) ?_ _
  go_wp2_with fail
  refine wp_region_M (S := QS w L1) (ls := [10]) (by kernel_rfl) ?_
  have hSd : QS w L1 wn1.drew := hS.drew
  clear hS
  generalize wn1.drew = wd2 at hSd ⊢
  have hS := hSd
  clear hSd
  have cX : Hid (∀ wx, QS w L1 wx → wx.cell? ⟨w.heap.size, d, none⟩ = some (.int .u32 (V (L1.getD d 0)))) := fun wx h => q_cell h.1 d (by omega)
  have cY : Hid (∀ wx, QS w L1 wx → wx.cell? ⟨w.heap.size, a, none⟩ = some (.int .u32 (V (L1.getD a 0)))) := fun wx h => q_cell h.1 a (by omega)
  have eN : Hid (qrot L1 d a 16 = L1.set d (Cc.rotl (L1.getD d 0 ^^^ L1.getD a 0) 16)) := rfl
  generalize L1.getD d 0 = gx2 at cX eN
  generalize L1.getD a 0 = gy2 at cY eN
  refine wpAnyM_tk (i := 0) (dst := some 20) (v := .int .i64 d) rfl rfl (by kernel_rfl) (fun _ _ _ h => h) (Or.inl ⟨by rfl, ?hy2_0⟩) hS ?re2_0
  case hy2_0 => exact fun wx _ => rfl
  refine wpAnyM_tk (i := 1) (dst := some 21) (v := .int .i64 d) rfl rfl (by kernel_rfl) (fun _ _ _ h => h) (Or.inl ⟨by rfl, ?hy2_1⟩) hS ?re2_1
  case hy2_1 => exact fun wx _ => rfl
  refine wpAnyM_tk (i := 2) (dst := some 22) (v := .pointer (some ⟨w.heap.size, d, none⟩)) rfl rfl (by kernel_rfl) (fun _ _ _ h => h) (Or.inl ⟨by rfl, ?hy2_2⟩) hS ?re2_2
  case hy2_2 => (intro wx hSx; clear hSx; go_simp; try (with_reducible rfl))
  simp only [Act.put, qA, qB, qC]
  refine wpAnyM_tk (i := 3) (dst := some 23) (v := .int .u32 (V gx2)) rfl rfl (by kernel_rfl) (fun _ _ _ h => h) (Or.inl ⟨by rfl, ?hy2_3⟩) hS ?re2_3
  case hy2_3 => (intro wx hSx; have cc := cX.out wx hSx; clear hSx; go_simp; try (with_reducible rfl))
  refine wpAnyM_tk (i := 4) (dst := some 24) (v := .int .i64 a) rfl rfl (by kernel_rfl) (fun _ _ _ h => h) (Or.inl ⟨by rfl, ?hy2_4⟩) hS ?re2_4
  case hy2_4 => exact fun wx _ => rfl
  refine wpAnyM_tk (i := 5) (dst := some 25) (v := .pointer (some ⟨w.heap.size, a, none⟩)) rfl rfl (by kernel_rfl) (fun _ _ _ h => h) (Or.inl ⟨by rfl, ?hy2_5⟩) hS ?re2_5
  case hy2_5 => (intro wx hSx; clear hSx; go_simp; try (with_reducible rfl))
  simp only [Act.put, qA, qB, qC]
  refine wpAnyM_tk (i := 6) (dst := some 26) (v := .int .u32 (V gy2)) rfl rfl (by kernel_rfl) (fun _ _ _ h => h) (Or.inl ⟨by rfl, ?hy2_6⟩) hS ?re2_6
  case hy2_6 => (intro wx hSx; have cc := cY.out wx hSx; clear hSx; go_simp; try (with_reducible rfl))
  refine wpAnyM_tk (i := 7) (dst := some 27) (v := .int .u32 (V (gx2 ^^^ gy2))) rfl rfl (by kernel_rfl) (fun _ _ _ h => h) (Or.inl ⟨by rfl, ?hy2_7⟩) hS ?re2_7
  case hy2_7 => (intro wx hSx; clear hSx; go_simp; rw [V_xor])
  simp only [Act.put, qA, qB, qC]
  refine wpAnyM_one (i := 8) (by kernel_rfl) rfl (fun K hK => ?_)
  go_simp
  go_wp2_with (go_at_call 260; refine (R_left (gx2 ^^^ gy2) 16 _ (by omega) (by omega)).mono ?_; rintro e wf2 ⟨rfl, k0⟩)
  have hSk := hS.keep k0
  refine hK.out _ _ hSk ?_
  try simp only [Act.put, qA, qB, qC]
  clear hK K k0 hS
  have hS := hSk
  clear hSk
  refine wpAnyM_tk (i := 9) (dst := some 29) (v := .pointer (some ⟨w.heap.size, d, none⟩)) rfl rfl (by kernel_rfl) (fun _ _ _ h => h) (Or.inl ⟨by rfl, ?hy2_9⟩) hS ?re2_9
  case hy2_9 => (intro wx hSx; clear hSx; go_simp; try (with_reducible rfl))
  try simp only [Act.put, qA, qB, qC]
  refine wpAnyM_late (i := 10) (by kernel_rfl) rfl rfl (fun K hK => ?_)
  have f0 := hS.1.frozen d
  have cc := cX.out _ hS
  go_simp
  refine hK.out _ _ ?_
  clear hK K f0 cc
  replace hS := hS.set d (Cc.rotl (gx2 ^^^ gy2) 16)
  have hl2 : (qrot L1 d a 16).length = 16 := by rw [qrot_length]; exact hl1
  rw [← eN.out] at hS
  skip
  replace hS : QS w (qrot L1 d a 16) (wf2.setCell ⟨w.heap.size, d, none⟩ (.int .u32 (V (Cc.rotl (gx2 ^^^ gy2) 16)))) := hS
  generalize wf2.setCell ⟨w.heap.size, d, none⟩ (.int .u32 (V (Cc.rotl (gx2 ^^^ gy2) 16))) = wn2 at hS ⊢
  clear eN cX cY
  generalize qrot L1 d a 16 = L2 at hS HQ hl2
  refine wpAnyM_done (by kernel_rfl) ?_ _
  go_wp2_with fail
  refine wp_region_M (S := QS w L2) (ls := [9]) (by kernel_rfl) ?_
  have hSd : QS w L2 wn2.drew := hS.drew
  clear hS
  generalize wn2.drew = wd3 at hSd ⊢
  have hS := hSd
  clear hSd
  have cX : Hid (∀ wx, QS w L2 wx → wx.cell? ⟨w.heap.size, c, none⟩ = some (.int .u32 (V (L2.getD c 0)))) := fun wx h => q_cell h.1 c (by omega)
  have cY : Hid (∀ wx, QS w L2 wx → wx.cell? ⟨w.heap.size, d, none⟩ = some (.int .u32 (V (L2.getD d 0)))) := fun wx h => q_cell h.1 d (by omega)
  have eN : Hid (qadd L2 c d = L2.set c (L2.getD c 0 + L2.getD d 0)) := rfl
  generalize L2.getD c 0 = gx3 at cX eN
  generalize L2.getD d 0 = gy3 at cY eN
  refine wpAnyM_tk (i := 0) (dst := some 30) (v := .int .i64 c) rfl rfl (by kernel_rfl) (fun _ _ _ h => h) (Or.inl ⟨by rfl, ?hy3_0⟩) hS ?re3_0
  case hy3_0 => exact fun wx _ => rfl
  refine wpAnyM_tk (i := 1) (dst := some 31) (v := .int .i64 c) rfl rfl (by kernel_rfl) (fun _ _ _ h => h) (Or.inl ⟨by rfl, ?hy3_1⟩) hS ?re3_1
  case hy3_1 => exact fun wx _ => rfl
  refine wpAnyM_tk (i := 2) (dst := some 32) (v := .pointer (some ⟨w.heap.size, c, none⟩)) rfl rfl (by kernel_rfl) (fun _ _ _ h => h) (Or.inl ⟨by rfl, ?hy3_2⟩) hS ?re3_2
  case hy3_2 => (intro wx hSx; clear hSx; go_simp; try (with_reducible rfl))
  simp only [Act.put, qA, qB, qC]
  refine wpAnyM_tk (i := 3) (dst := some 33) (v := .int .u32 (V gx3)) rfl rfl (by kernel_rfl) (fun _ _ _ h => h) (Or.inl ⟨by rfl, ?hy3_3⟩) hS ?re3_3
  case hy3_3 => (intro wx hSx; have cc := cX.out wx hSx; clear hSx; go_simp; try (with_reducible rfl))
  refine wpAnyM_tk (i := 4) (dst := some 34) (v := .int .i64 d) rfl rfl (by kernel_rfl) (fun _ _ _ h => h) (Or.inl ⟨by rfl, ?hy3_4⟩) hS ?re3_4
  case hy3_4 => exact fun wx _ => rfl
  refine wpAnyM_tk (i := 5) (dst := some 35) (v := .pointer (some ⟨w.heap.size, d, none⟩)) rfl rfl (by kernel_rfl) (fun _ _ _ h => h) (Or.inl ⟨by rfl, ?hy3_5⟩) hS ?re3_5
  case hy3_5 => (intro wx hSx; clear hSx; go_simp; try (with_reducible rfl))
  simp only [Act.put, qA, qB, qC]
  refine wpAnyM_tk (i := 6) (dst := some 36) (v := .int .u32 (V gy3)) rfl rfl (by kernel_rfl) (fun _ _ _ h => h) (Or.inl ⟨by rfl, ?hy3_6⟩) hS ?re3_6
  case hy3_6 => (intro wx hSx; have cc := cY.out wx hSx; clear hSx; go_simp; try (with_reducible rfl))
  refine wpAnyM_tk (i := 7) (dst := some 37) (v := .int .u32 (V (gx3 + gy3))) rfl rfl (by kernel_rfl) (fun _ _ _ h => h) (Or.inl ⟨by rfl, ?hy3_7⟩) hS ?re3_7
  case hy3_7 => (intro wx hSx; clear hSx; go_simp; first | rw [V_add] | rw [V_add'])
  refine wpAnyM_tk (i := 8) (dst := some 38) (v := .pointer (some ⟨w.heap.size, c, none⟩)) rfl rfl (by kernel_rfl) (fun _ _ _ h => h) (Or.inl ⟨by rfl, ?hy3_8⟩) hS ?re3_8
  case hy3_8 => (intro wx hSx; clear hSx; go_simp; try (with_reducible rfl))
  simp only [Act.put, qA, qB, qC]
  refine wpAnyM_late (i := 9) (by kernel_rfl) rfl rfl (fun K hK => ?_)
  have f0 := hS.1.frozen c
  have cc := cX.out _ hS
  go_simp
  refine hK.out _ _ ?_
  clear hK K f0 cc
  replace hS := hS.set c (gx3 + gy3)
  have hl3 : (qadd L2 c d).length = 16 := by rw [qadd_length]; exact hl2
  rw [← eN.out] at hS
  skip
  replace hS : QS w (qadd L2 c d) (wd3.setCell ⟨w.heap.size, c, none⟩ (.int .u32 (V (gx3 + gy3)))) := hS
  generalize wd3.setCell ⟨w.heap.size, c, none⟩ (.int .u32 (V (gx3 + gy3))) = wn3 at hS ⊢
  clear eN cX cY
  generalize qadd L2 c d = L3 at hS HQ hl3
  refine wpAnyM_done (by kernel_rfl) ?_ _
  go_wp2_with fail
  refine wp_region_M (S := QS w L3) (ls := [10]) (by kernel_rfl) ?_
  have hSd : QS w L3 wn3.drew := hS.drew
  clear hS
  generalize wn3.drew = wd4 at hSd ⊢
  have hS := hSd
  clear hSd
  have cX : Hid (∀ wx, QS w L3 wx → wx.cell? ⟨w.heap.size, b, none⟩ = some (.int .u32 (V (L3.getD b 0)))) := fun wx h => q_cell h.1 b (by omega)
  have cY : Hid (∀ wx, QS w L3 wx → wx.cell? ⟨w.heap.size, c, none⟩ = some (.int .u32 (V (L3.getD c 0)))) := fun wx h => q_cell h.1 c (by omega)
  have eN : Hid (qrot L3 b c 12 = L3.set b (Cc.rotl (L3.getD b 0 ^^^ L3.getD c 0) 12)) := rfl
  generalize L3.getD b 0 = gx4 at cX eN
  generalize L3.getD c 0 = gy4 at cY eN
  refine wpAnyM_tk (i := 0) (dst := some 39) (v := .int .i64 b) rfl rfl (by kernel_rfl) (fun _ _ _ h => h) (Or.inl ⟨by rfl, ?hy4_0⟩) hS ?re4_0
  case hy4_0 => exact fun wx _ => rfl
  refine wpAnyM_tk (i := 1) (dst := some 40) (v := .int .i64 b) rfl rfl (by kernel_rfl) (fun _ _ _ h => h) (Or.inl ⟨by rfl, ?hy4_1⟩) hS ?re4_1
  case hy4_1 => exact fun wx _ => rfl
  refine wpAnyM_tk (i := 2) (dst := some 41) (v := .pointer (some ⟨w.heap.size, b, none⟩)) rfl rfl (by kernel_rfl) (fun _ _ _ h => h) (Or.inl ⟨by rfl, ?hy4_2⟩) hS ?re4_2
  case hy4_2 => (intro wx hSx; clear hSx; go_simp; try (with_reducible rfl))
  simp only [Act.put, qA, qB, qC]
  refine wpAnyM_tk (i := 3) (dst := some 42) (v := .int .u32 (V gx4)) rfl rfl (by kernel_rfl) (fun _ _ _ h => h) (Or.inl ⟨by rfl, ?hy4_3⟩) hS ?re4_3
  case hy4_3 => (intro wx hSx; have cc := cX.out wx hSx; clear hSx; go_simp; try (with_reducible rfl))
  refine wpAnyM_tk (i := 4) (dst := some 43) (v := .int .i64 c) rfl rfl (by kernel_rfl) (fun _ _ _ h => h) (Or.inl ⟨by rfl, ?hy4_4⟩) hS ?re4_4
  case hy4_4 => exact fun wx _ => rfl
  refine wpAnyM_tk (i := 5) (dst := some 44) (v := .pointer (some ⟨w.heap.size, c, none⟩)) rfl rfl (by kernel_rfl) (fun _ _ _ h => h) (Or.inl ⟨by rfl, ?hy4_5⟩) hS ?re4_5
  case hy4_5 => (intro wx hSx; clear hSx; go_simp; try (with_reducible rfl))
  simp only [Act.put, qA, qB, qC]
  refine wpAnyM_tk (i := 6) (dst := some 45) (v := .int .u32 (V gy4)) rfl rfl (by kernel_rfl) (fun _ _ _ h => h) (Or.inl ⟨by rfl, ?hy4_6⟩) hS ?re4_6
  case hy4_6 => (intro wx hSx; have cc := cY.out wx hSx; clear hSx; go_simp; try (with_reducible rfl))
  refine wpAnyM_tk (i := 7) (dst := some 46) (v := .int .u32 (V (gx4 ^^^ gy4))) rfl rfl (by kernel_rfl) (fun _ _ _ h => h) (Or.inl ⟨by rfl, ?hy4_7⟩) hS ?re4_7
  case hy4_7 => (intro wx hSx; clear hSx; go_simp; rw [V_xor])
  simp only [Act.put, qA, qB, qC]
  refine wpAnyM_one (i := 8) (by kernel_rfl) rfl (fun K hK => ?_)
  go_simp
  go_wp2_with (go_at_call 260; refine (R_left (gx4 ^^^ gy4) 12 _ (by omega) (by omega)).mono ?_; rintro e wf4 ⟨rfl, k0⟩)
  have hSk := hS.keep k0
  refine hK.out _ _ hSk ?_
  try simp only [Act.put, qA, qB, qC]
  clear hK K k0 hS
  have hS := hSk
  clear hSk
  refine wpAnyM_tk (i := 9) (dst := some 48) (v := .pointer (some ⟨w.heap.size, b, none⟩)) rfl rfl (by kernel_rfl) (fun _ _ _ h => h) (Or.inl ⟨by rfl, ?hy4_9⟩) hS ?re4_9
  case hy4_9 => (intro wx hSx; clear hSx; go_simp; try (with_reducible rfl))
  try simp only [Act.put, qA, qB, qC]
  refine wpAnyM_late (i := 10) (by kernel_rfl) rfl rfl (fun K hK => ?_)
  have f0 := hS.1.frozen b
  have cc := cX.out _ hS
  go_simp
  refine hK.out _ _ ?_
  clear hK K f0 cc
  replace hS := hS.set b (Cc.rotl (gx4 ^^^ gy4) 12)
  have hl4 : (qrot L3 b c 12).length = 16 := by rw [qrot_length]; exact hl3
  rw [← eN.out] at hS
  skip
  replace hS : QS w (qrot L3 b c 12) (wf4.setCell ⟨w.heap.size, b, none⟩ (.int .u32 (V (Cc.rotl (gx4 ^^^ gy4) 12)))) := hS
  generalize wf4.setCell ⟨w.heap.size, b, none⟩ (.int .u32 (V (Cc.rotl (gx4 ^^^ gy4) 12))) = wn4 at hS ⊢
  clear eN cX cY
  generalize qrot L3 b c 12 = L4 at hS HQ hl4
  refine wpAnyM_done (by kernel_rfl) ?_ _
  go_wp2_with fail
  refine wp_region_M (S := QS w L4) (ls := [9]) (by kernel_rfl) ?_
  have hSd : QS w L4 wn4.drew := hS.drew
  clear hS
  generalize wn4.drew = wd5 at hSd ⊢
  have hS := hSd
  clear hSd
  have cX : Hid (∀ wx, QS w L4 wx → wx.cell? ⟨w.heap.size, a, none⟩ = some (.int .u32 (V (L4.getD a 0)))) := fun wx h => q_cell h.1 a (by omega)
  have cY : Hid (∀ wx, QS w L4 wx → wx.cell? ⟨w.heap.size, b, none⟩ = some (.int .u32 (V (L4.getD b 0)))) := fun wx h => q_cell h.1 b (by omega)
  have eN : Hid (qadd L4 a b = L4.set a (L4.getD a 0 + L4.getD b 0)) := rfl
  generalize L4.getD a 0 = gx5 at cX eN
  generalize L4.getD b 0 = gy5 at cY eN
  refine wpAnyM_tk (i := 0) (dst := some 49) (v := .int .i64 a) rfl rfl (by kernel_rfl) (fun _ _ _ h => h) (Or.inl ⟨by rfl, ?hy5_0⟩) hS ?re5_0
  case hy5_0 => exact fun wx _ => rfl
  refine wpAnyM_tk (i := 1) (dst := some 50) (v := .int .i64 a) rfl rfl (by kernel_rfl) (fun _ _ _ h => h) (Or.inl ⟨by rfl, ?hy5_1⟩) hS ?re5_1
  case hy5_1 => exact fun wx _ => rfl
  refine wpAnyM_tk (i := 2) (dst := some 51) (v := .pointer (some ⟨w.heap.size, a, none⟩)) rfl rfl (by kernel_rfl) (fun _ _ _ h => h) (Or.inl ⟨by rfl, ?hy5_2⟩) hS ?re5_2
  case hy5_2 => (intro wx hSx; clear hSx; go_simp; try (with_reducible rfl))
  simp only [Act.put, qA, qB, qC]
  refine wpAnyM_tk (i := 3) (dst := some 52) (v := .int .u32 (V gx5)) rfl rfl (by kernel_rfl) (fun _ _ _ h => h) (Or.inl ⟨by rfl, ?hy5_3⟩) hS ?re5_3
  case hy5_3 => (intro wx hSx; have cc := cX.out wx hSx; clear hSx; go_simp; try (with_reducible rfl))
  refine wpAnyM_tk (i := 4) (dst := some 53) (v := .int .i64 b) rfl rfl (by kernel_rfl) (fun _ _ _ h => h) (Or.inl ⟨by rfl, ?hy5_4⟩) hS ?re5_4
  case hy5_4 => exact fun wx _ => rfl
  refine wpAnyM_tk (i := 5) (dst := some 54) (v := .pointer (some ⟨w.heap.size, b, none⟩)) rfl rfl (by kernel_rfl) (fun _ _ _ h => h) (Or.inl ⟨by rfl, ?hy5_5⟩) hS ?re5_5
  case hy5_5 => (intro wx hSx; clear hSx; go_simp; try (with_reducible rfl))
  simp only [Act.put, qA, qB, qC]
  refine wpAnyM_tk (i := 6) (dst := some 55) (v := .int .u32 (V gy5)) rfl rfl (by kernel_rfl) (fun _ _ _ h => h) (Or.inl ⟨by rfl, ?hy5_6⟩) hS ?re5_6
  case hy5_6 => (intro wx hSx; have cc := cY.out wx hSx; clear hSx; go_simp; try (with_reducible rfl))
  refine wpAnyM_tk (i := 7) (dst := some 56) (v := .int .u32 (V (gx5 + gy5))) rfl rfl (by kernel_rfl) (fun _ _ _ h => h) (Or.inl ⟨by rfl, ?hy5_7⟩) hS ?re5_7
  case hy5_7 => (intro wx hSx; clear hSx; go_simp; first | rw [V_add] | rw [V_add'])
  refine wpAnyM_tk (i := 8) (dst := some 57) (v := .pointer (some ⟨w.heap.size, a, none⟩)) rfl rfl (by kernel_rfl) (fun _ _ _ h => h) (Or.inl ⟨by rfl, ?hy5_8⟩) hS ?re5_8
  case hy5_8 => (intro wx hSx; clear hSx; go_simp; try (with_reducible rfl))
  simp only [Act.put, qA, qB, qC]
  refine wpAnyM_late (i := 9) (by kernel_rfl) rfl rfl (fun K hK => ?_)
  have f0 := hS.1.frozen a
  have cc := cX.out _ hS
  go_simp
  refine hK.out _ _ ?_
  clear hK K f0 cc
  replace hS := hS.set a (gx5 + gy5)
  have hl5 : (qadd L4 a b).length = 16 := by rw [qadd_length]; exact hl4
  rw [← eN.out] at hS
  skip
  replace hS : QS w (qadd L4 a b) (wd5.setCell ⟨w.heap.size, a, none⟩ (.int .u32 (V (gx5 + gy5)))) := hS
  generalize wd5.setCell ⟨w.heap.size, a, none⟩ (.int .u32 (V (gx5 + gy5))) = wn5 at hS ⊢
  clear eN cX cY
  generalize qadd L4 a b = L5 at hS HQ hl5
  refine wpAnyM_done (by kernel_rfl) ?_ _
  go_wp2_with fail
  refine wp_region_M (S := QS w L5) (ls := [10]) (by kernel_rfl) ?_
  have hSd : QS w L5 wn5.drew := hS.drew
  clear hS
  generalize wn5.drew = wd6 at hSd ⊢
  have hS := hSd
  clear hSd
  have cX : Hid (∀ wx, QS w L5 wx → wx.cell? ⟨w.heap.size, d, none⟩ = some (.int .u32 (V (L5.getD d 0)))) := fun wx h => q_cell h.1 d (by omega)
  have cY : Hid (∀ wx, QS w L5 wx → wx.cell? ⟨w.heap.size, a, none⟩ = some (.int .u32 (V (L5.getD a 0)))) := fun wx h => q_cell h.1 a (by omega)
  have eN : Hid (qrot L5 d a 8 = L5.set d (Cc.rotl (L5.getD d 0 ^^^ L5.getD a 0) 8)) := rfl
  generalize L5.getD d 0 = gx6 at cX eN
  generalize L5.getD a 0 = gy6 at cY eN
  refine wpAnyM_tk (i := 0) (dst := some 58) (v := .int .i64 d) rfl rfl (by kernel_rfl) (fun _ _ _ h => h) (Or.inl ⟨by rfl, ?hy6_0⟩) hS ?re6_0
  case hy6_0 => exact fun wx _ => rfl
  refine wpAnyM_tk (i := 1) (dst := some 59) (v := .int .i64 d) rfl rfl (by kernel_rfl) (fun _ _ _ h => h) (Or.inl ⟨by rfl, ?hy6_1⟩) hS ?re6_1
  case hy6_1 => exact fun wx _ => rfl
  refine wpAnyM_tk (i := 2) (dst := some 60) (v := .pointer (some ⟨w.heap.size, d, none⟩)) rfl rfl (by kernel_rfl) (fun _ _ _ h => h) (Or.inl ⟨by rfl, ?hy6_2⟩) hS ?re6_2
  case hy6_2 => (intro wx hSx; clear hSx; go_simp; try (with_reducible rfl))
  simp only [Act.put, qA, qB, qC]
  refine wpAnyM_tk (i := 3) (dst := some 61) (v := .int .u32 (V gx6)) rfl rfl (by kernel_rfl) (fun _ _ _ h => h) (Or.inl ⟨by rfl, ?hy6_3⟩) hS ?re6_3
  case hy6_3 => (intro wx hSx; have cc := cX.out wx hSx; clear hSx; go_simp; try (with_reducible rfl))
  refine wpAnyM_tk (i := 4) (dst := some 62) (v := .int .i64 a) rfl rfl (by kernel_rfl) (fun _ _ _ h => h) (Or.inl ⟨by rfl, ?hy6_4⟩) hS ?re6_4
  case hy6_4 => exact fun wx _ => rfl
  refine wpAnyM_tk (i := 5) (dst := some 63) (v := .pointer (some ⟨w.heap.size, a, none⟩)) rfl rfl (by kernel_rfl) (fun _ _ _ h => h) (Or.inl ⟨by rfl, ?hy6_5⟩) hS ?re6_5
  case hy6_5 => (intro wx hSx; clear hSx; go_simp; try (with_reducible rfl))
  simp only [Act.put, qA, qB, qC]
  refine wpAnyM_tk (i := 6) (dst := some 64) (v := .int .u32 (V gy6)) rfl rfl (by kernel_rfl) (fun _ _ _ h => h) (Or.inl ⟨by rfl, ?hy6_6⟩) hS ?re6_6
  case hy6_6 => (intro wx hSx; have cc := cY.out wx hSx; clear hSx; go_simp; try (with_reducible rfl))
  refine wpAnyM_tk (i := 7) (dst := some 65) (v := .int .u32 (V (gx6 ^^^ gy6))) rfl rfl (by kernel_rfl) (fun _ _ _ h => h) (Or.inl ⟨by rfl, ?hy6_7⟩) hS ?re6_7
  case hy6_7 => (intro wx hSx; clear hSx; go_simp; rw [V_xor])
  simp only [Act.put, qA, qB, qC]
  refine wpAnyM_one (i := 8) (by kernel_rfl) rfl (fun K hK => ?_)
  go_simp
  go_wp2_with (go_at_call 260; refine (R_left (gx6 ^^^ gy6) 8 _ (by omega) (by omega)).mono ?_; rintro e wf6 ⟨rfl, k0⟩)
  have hSk := hS.keep k0
  refine hK.out _ _ hSk ?_
  try simp only [Act.put, qA, qB, qC]
  clear hK K k0 hS
  have hS := hSk
  clear hSk
  refine wpAnyM_tk (i := 9) (dst := some 67) (v := .pointer (some ⟨w.heap.size, d, none⟩)) rfl rfl (by kernel_rfl) (fun _ _ _ h => h) (Or.inl ⟨by rfl, ?hy6_9⟩) hS ?re6_9
  case hy6_9 => (intro wx hSx; clear hSx; go_simp; try (with_reducible rfl))
  try simp only [Act.put, qA, qB, qC]
  refine wpAnyM_late (i := 10) (by kernel_rfl) rfl rfl (fun K hK => ?_)
  have f0 := hS.1.frozen d
  have cc := cX.out _ hS
  go_simp
  refine hK.out _ _ ?_
  clear hK K f0 cc
  replace hS := hS.set d (Cc.rotl (gx6 ^^^ gy6) 8)
  have hl6 : (qrot L5 d a 8).length = 16 := by rw [qrot_length]; exact hl5
  rw [← eN.out] at hS
  skip
  replace hS : QS w (qrot L5 d a 8) (wf6.setCell ⟨w.heap.size, d, none⟩ (.int .u32 (V (Cc.rotl (gx6 ^^^ gy6) 8)))) := hS
  generalize wf6.setCell ⟨w.heap.size, d, none⟩ (.int .u32 (V (Cc.rotl (gx6 ^^^ gy6) 8))) = wn6 at hS ⊢
  clear eN cX cY
  generalize qrot L5 d a 8 = L6 at hS HQ hl6
  refine wpAnyM_done (by kernel_rfl) ?_ _
  go_wp2_with fail
  refine wp_region_M (S := QS w L6) (ls := [9]) (by kernel_rfl) ?_
  have hSd : QS w L6 wn6.drew := hS.drew
  clear hS
  generalize wn6.drew = wd7 at hSd ⊢
  have hS := hSd
  clear hSd
  have cX : Hid (∀ wx, QS w L6 wx → wx.cell? ⟨w.heap.size, c, none⟩ = some (.int .u32 (V (L6.getD c 0)))) := fun wx h => q_cell h.1 c (by omega)
  have cY : Hid (∀ wx, QS w L6 wx → wx.cell? ⟨w.heap.size, d, none⟩ = some (.int .u32 (V (L6.getD d 0)))) := fun wx h => q_cell h.1 d (by omega)
  have eN : Hid (qadd L6 c d = L6.set c (L6.getD c 0 + L6.getD d 0)) := rfl
  generalize L6.getD c 0 = gx7 at cX eN
  generalize L6.getD d 0 = gy7 at cY eN
  refine wpAnyM_tk (i := 0) (dst := some 68) (v := .int .i64 c) rfl rfl (by kernel_rfl) (fun _ _ _ h => h) (Or.inl ⟨by rfl, ?hy7_0⟩) hS ?re7_0
  case hy7_0 => exact fun wx _ => rfl
  refine wpAnyM_tk (i := 1) (dst := some 69) (v := .int .i64 c) rfl rfl (by kernel_rfl) (fun _ _ _ h => h) (Or.inl ⟨by rfl, ?hy7_1⟩) hS ?re7_1
  case hy7_1 => exact fun wx _ => rfl
  refine wpAnyM_tk (i := 2) (dst := some 70) (v := .pointer (some ⟨w.heap.size, c, none⟩)) rfl rfl (by kernel_rfl) (fun _ _ _ h => h) (Or.inl ⟨by rfl, ?hy7_2⟩) hS ?re7_2
  case hy7_2 => (intro wx hSx; clear hSx; go_simp; try (with_reducible rfl))
  simp only [Act.put, qA, qB, qC]
  refine wpAnyM_tk (i := 3) (dst := some 71) (v := .int .u32 (V gx7)) rfl rfl (by kernel_rfl) (fun _ _ _ h => h) (Or.inl ⟨by rfl, ?hy7_3⟩) hS ?re7_3
  case hy7_3 => (intro wx hSx; have cc := cX.out wx hSx; clear hSx; go_simp; try (with_reducible rfl))
  refine wpAnyM_tk (i := 4) (dst := some 72) (v := .int .i64 d) rfl rfl (by kernel_rfl) (fun _ _ _ h => h) (Or.inl ⟨by rfl, ?hy7_4⟩) hS ?re7_4
  case hy7_4 => exact fun wx _ => rfl
  refine wpAnyM_tk (i := 5) (dst := some 73) (v := .pointer (some ⟨w.heap.size, d, none⟩)) rfl rfl (by kernel_rfl) (fun _ _ _ h => h) (Or.inl ⟨by rfl, ?hy7_5⟩) hS ?re7_5
  case hy7_5 => (intro wx hSx; clear hSx; go_simp; try (with_reducible rfl))
  simp only [Act.put, qA, qB, qC]
  refine wpAnyM_tk (i := 6) (dst := some 74) (v := .int .u32 (V gy7)) rfl rfl (by kernel_rfl) (fun _ _ _ h => h) (Or.inl ⟨by rfl, ?hy7_6⟩) hS ?re7_6
  case hy7_6 => (intro wx hSx; have cc := cY.out wx hSx; clear hSx; go_simp; try (with_reducible rfl))
  refine wpAnyM_tk (i := 7) (dst := some 75) (v := .int .u32 (V (gx7 + gy7))) rfl rfl (by kernel_rfl) (fun _ _ _ h => h) (Or.inl ⟨by rfl, ?hy7_7⟩) hS ?re7_7
  case hy7_7 => (intro wx hSx; clear hSx; go_simp; first | rw [V_add] | rw [V_add'])
  refine wpAnyM_tk (i := 8) (dst := some 76) (v := .pointer (some ⟨w.heap.size, c, none⟩)) rfl rfl (by kernel_rfl) (fun _ _ _ h => h) (Or.inl ⟨by rfl, ?hy7_8⟩) hS ?re7_8
  case hy7_8 => (intro wx hSx; clear hSx; go_simp; try (with_reducible rfl))
  simp only [Act.put, qA, qB, qC]
  refine wpAnyM_late (i := 9) (by kernel_rfl) rfl rfl (fun K hK => ?_)
  have f0 := hS.1.frozen c
  have cc := cX.out _ hS
  go_simp
  refine hK.out _ _ ?_
  clear hK K f0 cc
  replace hS := hS.set c (gx7 + gy7)
  have hl7 : (qadd L6 c d).length = 16 := by rw [qadd_length]; exact hl6
  rw [← eN.out] at hS
  skip
  replace hS : QS w (qadd L6 c d) (wd7.setCell ⟨w.heap.size, c, none⟩ (.int .u32 (V (gx7 + gy7)))) := hS
  generalize wd7.setCell ⟨w.heap.size, c, none⟩ (.int .u32 (V (gx7 + gy7))) = wn7 at hS ⊢
  clear eN cX cY
  generalize qadd L6 c d = L7 at hS HQ hl7
  refine wpAnyM_done (by kernel_rfl) ?_ _
  go_wp2_with fail
  refine wp_region_M (S := QS w L7) (ls := [10]) (by kernel_rfl) ?_
  have hSd : QS w L7 wn7.drew := hS.drew
  clear hS
  generalize wn7.drew = wd8 at hSd ⊢
  have hS := hSd
  clear hSd
  have cX : Hid (∀ wx, QS w L7 wx → wx.cell? ⟨w.heap.size, b, none⟩ = some (.int .u32 (V (L7.getD b 0)))) := fun wx h => q_cell h.1 b (by omega)
  have cY : Hid (∀ wx, QS w L7 wx → wx.cell? ⟨w.heap.size, c, none⟩ = some (.int .u32 (V (L7.getD c 0)))) := fun wx h => q_cell h.1 c (by omega)
  have eN : Hid (qrot L7 b c 7 = L7.set b (Cc.rotl (L7.getD b 0 ^^^ L7.getD c 0) 7)) := rfl
  generalize L7.getD b 0 = gx8 at cX eN
  generalize L7.getD c 0 = gy8 at cY eN
  refine wpAnyM_tk (i := 0) (dst := some 77) (v := .int .i64 b) rfl rfl (by kernel_rfl) (fun _ _ _ h => h) (Or.inl ⟨by rfl, ?hy8_0⟩) hS ?re8_0
  case hy8_0 => exact fun wx _ => rfl
  refine wpAnyM_tk (i := 1) (dst := some 78) (v := .int .i64 b) rfl rfl (by kernel_rfl) (fun _ _ _ h => h) (Or.inl ⟨by rfl, ?hy8_1⟩) hS ?re8_1
  case hy8_1 => exact fun wx _ => rfl
  refine wpAnyM_tk (i := 2) (dst := some 79) (v := .pointer (some ⟨w.heap.size, b, none⟩)) rfl rfl (by kernel_rfl) (fun _ _ _ h => h) (Or.inl ⟨by rfl, ?hy8_2⟩) hS ?re8_2
  case hy8_2 => (intro wx hSx; clear hSx; go_simp; try (with_reducible rfl))
  simp only [Act.put, qA, qB, qC]
  refine wpAnyM_tk (i := 3) (dst := some 80) (v := .int .u32 (V gx8)) rfl rfl (by kernel_rfl) (fun _ _ _ h => h) (Or.inl ⟨by rfl, ?hy8_3⟩) hS ?re8_3
  case hy8_3 => (intro wx hSx; have cc := cX.out wx hSx; clear hSx; go_simp; try (with_reducible rfl))
  refine wpAnyM_tk (i := 4) (dst := some 81) (v := .int .i64 c) rfl rfl (by kernel_rfl) (fun _ _ _ h => h) (Or.inl ⟨by rfl, ?hy8_4⟩) hS ?re8_4
  case hy8_4 => exact fun wx _ => rfl
  refine wpAnyM_tk (i := 5) (dst := some 82) (v := .pointer (some ⟨w.heap.size, c, none⟩)) rfl rfl (by kernel_rfl) (fun _ _ _ h => h) (Or.inl ⟨by rfl, ?hy8_5⟩) hS ?re8_5
  case hy8_5 => (intro wx hSx; clear hSx; go_simp; try (with_reducible rfl))
  simp only [Act.put, qA, qB, qC]
  refine wpAnyM_tk (i := 6) (dst := some 83) (v := .int .u32 (V gy8)) rfl rfl (by kernel_rfl) (fun _ _ _ h => h) (Or.inl ⟨by rfl, ?hy8_6⟩) hS ?re8_6
  case hy8_6 => (intro wx hSx; have cc := cY.out wx hSx; clear hSx; go_simp; try (with_reducible rfl))
  refine wpAnyM_tk (i := 7) (dst := some 84) (v := .int .u32 (V (gx8 ^^^ gy8))) rfl rfl (by kernel_rfl) (fun _ _ _ h => h) (Or.inl ⟨by rfl, ?hy8_7⟩) hS ?re8_7
  case hy8_7 => (intro wx hSx; clear hSx; go_simp; rw [V_xor])
  simp only [Act.put, qA, qB, qC]
  refine wpAnyM_one (i := 8) (by kernel_rfl) rfl (fun K hK => ?_)
  go_simp
  go_wp2_with (go_at_call 260; refine (R_left (gx8 ^^^ gy8) 7 _ (by omega) (by omega)).mono ?_; rintro e wf8 ⟨rfl, k0⟩)
  have hSk := hS.keep k0
  refine hK.out _ _ hSk ?_
  try simp only [Act.put, qA, qB, qC]
  clear hK K k0 hS
  have hS := hSk
  clear hSk
  refine wpAnyM_tk (i := 9) (dst := some 86) (v := .pointer (some ⟨w.heap.size, b, none⟩)) rfl rfl (by kernel_rfl) (fun _ _ _ h => h) (Or.inl ⟨by rfl, ?hy8_9⟩) hS ?re8_9
  case hy8_9 => (intro wx hSx; clear hSx; go_simp; try (with_reducible rfl))
  try simp only [Act.put, qA, qB, qC]
  refine wpAnyM_late (i := 10) (by kernel_rfl) rfl rfl (fun K hK => ?_)
  have f0 := hS.1.frozen b
  have cc := cX.out _ hS
  go_simp
  refine hK.out _ _ ?_
  clear hK K f0 cc
  replace hS := hS.set b (Cc.rotl (gx8 ^^^ gy8) 7)
  have hl8 : (qrot L7 b c 7).length = 16 := by rw [qrot_length]; exact hl7
  rw [← eN.out] at hS
  skip
  replace hS : QS w (qrot L7 b c 7) (wf8.setCell ⟨w.heap.size, b, none⟩ (.int .u32 (V (Cc.rotl (gx8 ^^^ gy8) 7)))) := hS
  generalize wf8.setCell ⟨w.heap.size, b, none⟩ (.int .u32 (V (Cc.rotl (gx8 ^^^ gy8) 7))) = wn8 at hS ⊢
  clear eN cX cY
  generalize qrot L7 b c 7 = L8 at hS HQ hl8
  refine wpAnyM_done (by kernel_rfl) ?_ _
  have e16 : (Vs L8).size = 16 := by rw [Vs_size, hl8]
  have g0 := hS.1
  have g1 := hS.2.1
  unfold Blk at g0 g1
  go_wp2_with (first
    | (refine wpList_load_row rfl 203 _ rfl w.heap.size rfl 203 _ (0, 0) _ g0 Tryz.underlying203 rfl (by rw [e16]; exact Tryz.info16V) ?_)
    | (refine wpList_store_row rfl 203 _ _ rfl (w.heap.size + 1) _ rfl rfl 203 _ g1 (by rw [e16]; exact Tryz.info16V) (by rw [e16]; rfl) (Vs_one _) ?_))
  rw [← show L8 = R from HQ.out]
  refine bodyPost_ret (v := .agg (Vs L8)) ?_ rfl ⟨rfl, below_setRow hS.2.2 (by omega) _⟩
  exact results_cell_row rfl _ _ (w.heap.size + 1) 203 _ (0, 0) _ rfl (hS.2.1.row _) Tryz.underlying203 rfl (by rw [e16]; exact Tryz.info16V)
end Go.Proofs.YtclpbaokadfhhaaGreatDoor
namespace Go.Proofs.YtclpbaokadfhhaaGreatDoor
open Go.RowKit
namespace Cc
def colTo (l : List (BitVec 32)) : Nat → List (BitVec 32)
  | 0 => l
  | k + 1 => quarter (colTo l k) k (4 + k) (8 + k) (12 + k)
def diaTo (l : List (BitVec 32)) : Nat → List (BitVec 32)
  | 0 => l
  | k + 1 => quarter (diaTo l k) k (4 + (k + 1) % 4) (8 + (k + 2) % 4) (12 + (k + 3) % 4)
theorem colTo_length (l : List (BitVec 32)) : ∀ k, (colTo l k).length = l.length
  | 0 => rfl
  | k + 1 => by rw [colTo, quarter_length, colTo_length l k]
theorem diaTo_length (l : List (BitVec 32)) : ∀ k, (diaTo l k).length = l.length
  | 0 => rfl
  | k + 1 => by rw [diaTo, quarter_length, diaTo_length l k]
theorem stir_two (l : List (BitVec 32)) : stir l = diaTo (colTo l 4) 4 := rfl
def outTo (W : Nat → BitVec 32) : Nat → List UInt8
  | 0 => []
  | k + 1 => outTo W k ++ Fd.lo (W k).toNat 4
theorem outTo_length (W : Nat → BitVec 32) : ∀ k, (outTo W k).length = 4 * k
  | 0 => rfl
  | k + 1 => by rw [outTo, List.length_append, outTo_length W k, Fd.lo_length]; omega
theorem put_at (l : List UInt8) (off : Nat) (x : BitVec 32) (k j : Nat) (h : off + k ≤ l.length) : (put l off x k).getD j 0 = if off ≤ j ∧ j < off + k then byteAt x (j - off) else l.getD j 0 := by
  induction k with
  | zero => rw [put, if_neg (by omega)]
  | succ k ih =>
    rw [put]
    by_cases e : off + k = j
    · subst e
      rw [getD_set_eq _ _ _ _ (by rw [put_length]; omega), if_pos (by omega), show off + k - off = k by omega]
    · rw [getD_set_neC _ _ _ _ _ e, ih (by omega)]
      by_cases h1 : off ≤ j ∧ j < off + k
      · rw [if_pos h1, if_pos (by omega)]
      · rw [if_neg h1, if_neg (by omega)]
theorem tellTo_at (W : Nat → BitVec 32) : ∀ (k j : Nat), k ≤ 16 → j < 4 * k → (tellTo W k).getD j 0 = byteAt (W (j / 4)) (j % 4)
  | 0, j, _, h => by omega
  | k + 1, j, hk, h => by
    rw [tellTo, put_at _ _ _ _ _ (by rw [tellTo_length]; omega)]
    by_cases h1 : k * 4 ≤ j ∧ j < k * 4 + 4
    · rw [if_pos h1, show j / 4 = k by omega, show j - k * 4 = j % 4 by omega]
    · rw [if_neg h1, tellTo_at W k j (by omega) (by omega)]
theorem lo_at (n k j : Nat) (h : j < k) : (Fd.lo n k).getD j 0 = UInt8.ofNat (n / 256 ^ j % 256) := by
  induction k with
  | zero => omega
  | succ k ih =>
    rw [Fd.lo]
    by_cases e : j < k
    · rw [List.getD_eq_getElem?_getD, List.getElem?_append_left (by rw [Fd.lo_length]; exact e), ← List.getD_eq_getElem?_getD, ih e]
    · rw [List.getD_eq_getElem?_getD, List.getElem?_append_right (by rw [Fd.lo_length]; omega), Fd.lo_length, show j - k = 0 by omega, show j = k by omega]
      rfl
theorem byteAt_lo (x : BitVec 32) (j : Nat) : byteAt x j = UInt8.ofNat (x.toNat / 256 ^ j % 256) := by
  unfold byteAt
  rw [BitVec.toNat_ushiftRight, Nat.shiftRight_eq_div_pow, Nat.pow_mul, show (2 : Nat) ^ 8 = 256 by decide]
  apply UInt8.toNat_inj.1
  rw [UInt8.toNat_ofNat', UInt8.toNat_ofNat']
  omega
theorem outTo_at (W : Nat → BitVec 32) : ∀ (k j : Nat), j < 4 * k → (outTo W k).getD j 0 = byteAt (W (j / 4)) (j % 4)
  | 0, j, h => by omega
  | k + 1, j, h => by
    rw [outTo]
    by_cases e : j < 4 * k
    · rw [List.getD_eq_getElem?_getD, List.getElem?_append_left (by rw [outTo_length]; exact e), ← List.getD_eq_getElem?_getD, outTo_at W k j e]
    · rw [List.getD_eq_getElem?_getD, List.getElem?_append_right (by rw [outTo_length]; omega), outTo_length, ← List.getD_eq_getElem?_getD, lo_at _ _ _ (by omega), show j / 4 = k by omega, show j - 4 * k = j % 4 by omega, byteAt_lo]
theorem out_tell (W : Nat → BitVec 32) : outTo W 16 = tellTo W 16 := by
  apply List.ext_getElem?
  intro j
  by_cases h : j < 64
  · have h1 : j < (outTo W 16).length := by rw [outTo_length]; omega
    have h2 : j < (tellTo W 16).length := by rw [tellTo_length]; omega
    have e := (outTo_at W 16 j (by omega)).trans (tellTo_at W 16 j (by omega) (by omega)).symm
    rw [List.getD_eq_getElem?_getD, List.getD_eq_getElem?_getD, List.getElem?_eq_getElem h1, List.getElem?_eq_getElem h2] at e
    rw [List.getElem?_eq_getElem h1, List.getElem?_eq_getElem h2]
    exact congrArg some e
  · rw [List.getElem?_eq_none (by rw [outTo_length]; omega), List.getElem?_eq_none (by rw [tellTo_length]; omega)]
end Cc
theorem four_at (s : ByteArray) (o : Nat) (w : World) (h : o + 4 ≤ s.size) :
    Calls Tryz.prog 236 #[.string (s.extract o (o + 4))] w fun e w' => e = .returned (.int .u32 (V (Cc.wordAt s o))) ∧ Below w.heap.size w w' := by
  refine R_four (s.extract o (o + 4)) (fun i => s.data.toList.getD (o + i) 0) w (by simp; omega) fun i hi => ?_
  rw [← byte_at _ _ (by simp; omega), ← byte_at s (o + i) (by omega)]
  simp [ByteArray.getElem_eq_getElem_data]
theorem quarter_col (l : List (BitVec 32)) (k : Nat) (w : World) (hl : l.length = 16) (hk : k < 4) :
    Calls Tryz.prog 237 #[.agg (Vs l), .int .i64 k, .int .i64 (4 + (k : Int)), .int .i64 (8 + (k : Int)), .int .i64 (12 + (k : Int))] w fun e w' => e = .returned (.agg (Vs (Cc.quarter l k (4 + k) (8 + k) (12 + k)))) ∧ Below w.heap.size w w' := by
  have := R_quarter l k (4 + k) (8 + k) (12 + k) w hl (by omega) (by omega) (by omega) (by omega) (by omega) (by omega)
  rw [show ((4 + k : Nat) : Int) = 4 + (k : Int) by omega, show ((8 + k : Nat) : Int) = 8 + (k : Int) by omega, show ((12 + k : Nat) : Int) = 12 + (k : Int) by omega] at this
  exact this
set_option maxRecDepth 100000 in
set_option maxHeartbeats 4000000 in
theorem R_block (key nonce : ByteArray) (c : Nat) (w : World) (hk : key.size = 32) (hn : nonce.size = 12) (hc : c ≤ 1000000) :
    Calls Tryz.prog 196 #[.string key, .int .i64 c, .string nonce] w fun e w' => e = .returned (.string ⟨(Cc.blk key (BitVec.ofNat 32 c) nonce).toArray⟩) ∧ Below w.heap.size w w' := by
  have HK : Hid (∀ k, k < 8 → Cc.wordAt key (k * 4) = Cc.first key (BitVec.ofNat 32 c) nonce (4 + k)) := fun k h => first_key key nonce _ k h
  have HN : Hid (∀ k, k < 3 → Cc.wordAt nonce (k * 4) = Cc.first key (BitVec.ofNat 32 c) nonce (13 + k)) := fun k h => first_nonce key nonce _ k h
  have HC : Hid (BitVec.ofNat 32 c = Cc.first key (BitVec.ofNat 32 c) nonce 12) := first_count key nonce _
  have HF : Hid (F16 = Vs (Cc.rowTo (Cc.first key (BitVec.ofNat 32 c) nonce) 4)) := F16_eq key nonce _
  generalize hW : Cc.first key (BitVec.ofNat 32 c) nonce = W at HK HN HC HF
  have HR : Hid (Cc.blk key (BitVec.ofNat 32 c) nonce = Cc.outTo (fun i => (Cc.turned (Cc.rowTo W 16) 10).getD i 0 + W i) 16) := by
    subst hW
    exact (Cc.out_tell _).symm
  clear hW
  generalize Cc.blk key (BitVec.ofNat 32 c) nonce = R at HR ⊢
  have hz := zeroV16
  have B1 : Hid (∀ wx : World, (Instr.build 203 #[(0, .int .u32 1634760805), (1, .int .u32 857760878), (2, .int .u32 2036477234), (3, .int .u32 1797285236)]).run Tryz.prog wx = .ok (.agg (Vs (Cc.rowTo W 4))) wx) := fun wx => by rw [← HF.out]; exact run_build _ _ _ _ (by kernel_rfl)
  clear HF
  have e4 : (Vs (Cc.rowTo W 4)).size = 16 := by rw [Vs_size, Cc.rowTo_length]
  have gz := Blk.new w (Vs none16) 203
  have hb := gz.row (Vs (Cc.rowTo W 4))
  have bel : Below w.heap.size w ((w.alloc (.cells (Vs none16) 203)).setRow w.heap.size (Vs (Cc.rowTo W 4))) := below_setRow ((Below.refl _ _).alloc (Nat.le_refl _) _) (Nat.le_refl _) _
  unfold Blk at gz
  go_enter Tryz.func196, Tryz.ntmps196
  go_wp2_with (first
    | (refine Rp.wpList_made rfl 203 _ rfl [(0, .int .u32 1634760805), (1, .int .u32 857760878), (2, .int .u32 2036477234), (3, .int .u32 1797285236)] rfl _ (B1.out _) ?_)
    | (refine wpList_store_row rfl 203 _ _ rfl w.heap.size _ rfl rfl 203 _ gz (by rw [e4]; exact Tryz.info16V) (by rw [e4]; rfl) (Vs_one _) ?_))
  clear gz B1
  generalize (w.alloc (.cells (Vs none16) 203)).setRow w.heap.size (Vs (Cc.rowTo W 4)) = w1 at hb bel ⊢
  go_loopw [8] (fun i wr => ∃ k : Nat, k ≤ 8 ∧ i = .int .i64 k ∧ Blk wr w.heap.size (Vs (Cc.rowTo W (4 + k))) 203 ∧ Below w.heap.size w wr) (fun i _ => 8 - (intOf i).toNat)
  case atStart => exact ⟨0, by omega, rfl, hb, bel⟩
  case round =>
    clear hb bel
    obtain ⟨k, hk8, rfl, hb, bel⟩ := hrel
    by_cases hlt : k < 8
    · have i0 : (k : Int) < 8 := by omega
      go_wp2_with fail
      refine (four_at key (4 * k) _ (by omega)).mono ?_
      rintro e w2 ⟨rfl, k2⟩
      replace hb := hb.keep k2
      replace bel := bel.trans (k2.mono bel.size)
      rw [show Cc.wordAt key (4 * k) = W (4 + k) from by rw [Nat.mul_comm]; exact HK.out k hlt]
      have g1 := hb.cell (4 + k)
      rw [Vs_at _ _ (by rw [Cc.rowTo_length]; omega)] at g1
      have g2 := hb.frozen (4 + k)
      have R1 := row16_store (w := w) (B := w.heap.size) (k := 4 + k) (x := W (4 + k)) (by omega) hb (Nat.le_refl _) bel rfl
      go_wp2
      go_roundw
      case rel => exact ⟨k + 1, by omega, by go_num, R1.1, R1.2.2⟩
      case measure => simp [intOf]; omega
    · have hk8' : k = 8 := by omega
      subst hk8'
      rw [show ((8 : Nat) : Int) = 8 from rfl]
      have g1 := hb.cell 12
      rw [Vs_at _ _ (by rw [Cc.rowTo_length]; omega)] at g1
      have g2 := hb.frozen 12
      have hcv : (c : Int) % 4294967296 = V (W 12) := by rw [← HC.out, ← V_of c (by omega)]; omega
      have hcw : IntKind.u32.wrap (c : Int) = V (W 12) := by rw [IntKind.wrap_u32]; exact hcv
      have R1 := row16_store (w := w) (B := w.heap.size) (k := 12) (x := W 12) (by omega) hb (Nat.le_refl _) bel rfl
      go_wp2
      generalize wr.setCell ⟨w.heap.size, 12, none⟩ (.int .u32 (V (W 12))) = wq at R1 ⊢
      obtain ⟨hb1, _, bel1⟩ := R1
      clear g1 g2 hb bel hcv hcw
      go_loopw [9] (fun i wr => ∃ k : Nat, k ≤ 3 ∧ i = .int .i64 k ∧ Blk wr w.heap.size (Vs (Cc.rowTo W (13 + k))) 203 ∧ Below w.heap.size w wr) (fun i _ => 3 - (intOf i).toNat)
      case atStart => exact ⟨0, by omega, rfl, hb1, bel1⟩
      case round =>
        clear hb1 bel1
        obtain ⟨k, hk3, rfl, hb, bel⟩ := hrel
        by_cases hlt : k < 3
        · have i0 : (k : Int) < 3 := by omega
          go_wp2_with fail
          refine (four_at nonce (4 * k) _ (by omega)).mono ?_
          rintro e w2 ⟨rfl, k2⟩
          replace hb := hb.keep k2
          replace bel := bel.trans (k2.mono bel.size)
          rw [show Cc.wordAt nonce (4 * k) = W (13 + k) from by rw [Nat.mul_comm]; exact HN.out k hlt]
          have g1 := hb.cell (13 + k)
          rw [Vs_at _ _ (by rw [Cc.rowTo_length]; omega)] at g1
          have g2 := hb.frozen (13 + k)
          have R1 := row16_store (w := w) (B := w.heap.size) (k := 13 + k) (x := W (13 + k)) (by omega) hb (Nat.le_refl _) bel rfl
          go_wp2
          go_roundw
          case rel => exact ⟨k + 1, by omega, by go_num, R1.1, R1.2.2⟩
          case measure => simp [intOf]; omega
        · have hk3' : k = 3 := by omega
          subst hk3'
          rw [show ((3 : Nat) : Int) = 3 from rfl]
          rw [show 13 + 3 = 16 from rfl] at hb
          have hX : Hid (∀ i, i < 16 → (Cc.rowTo W 16).getD i 0 = W i) := fun i hi => Cc.rowTo_at W i hi
          have lX := Cc.rowTo_length W 16
          generalize Cc.rowTo W 16 = X at hb HR hX lX
          have sX : (Vs X).size = 16 := by rw [Vs_size, lX]
          have g0 := hb
          have gn := Blk.new wr (Vs none16) 203
          have hbn := hb.alloc (.cells (Vs none16) 203)
          have hlt2 := hb.lt
          have hb2 : Blk ((wr.alloc (.cells (Vs none16) 203)).setRow wr.heap.size (Vs X)) wr.heap.size (Vs X) 203 := gn.row _
          have hb3 : Blk ((wr.alloc (.cells (Vs none16) 203)).setRow wr.heap.size (Vs X)) w.heap.size (Vs X) 203 := hbn.other (by omega) _
          have bel2 : Below w.heap.size w ((wr.alloc (.cells (Vs none16) 203)).setRow wr.heap.size (Vs X)) := below_setRow (bel.alloc bel.size _) bel.size _
          unfold Blk at g0 gn
          clear hbn
          go_wp2_with (first
            | (refine wpList_load_row rfl 203 _ rfl w.heap.size rfl 203 _ (0, 0) _ g0 Tryz.underlying203 rfl (by rw [sX]; exact Tryz.info16V) ?_)
            | (refine wpList_store_row rfl 203 _ _ rfl wr.heap.size _ rfl rfl 203 _ gn (by rw [sX]; exact Tryz.info16V) (by rw [sX]; rfl) (Vs_one _) ?_))
          clear g0 gn hb
          generalize (wr.alloc (.cells (Vs none16) 203)).setRow wr.heap.size (Vs X) = w3 at hb2 hb3 bel2 ⊢
          generalize wr.heap.size = q at hb2 hlt2 ⊢
          clear bel
          go_loopw [11] (fun i wy => ∃ k : Nat, k ≤ 10 ∧ i = .int .i64 k ∧ Blk wy q (Vs (Cc.turned X k)) 203 ∧ Blk wy w.heap.size (Vs X) 203 ∧ Below w.heap.size w wy) (fun i _ => 10 - (intOf i).toNat)
          case atStart => exact ⟨0, by omega, rfl, hb2, hb3, bel2⟩
          case round =>
            clear hb2 hb3 bel2
            obtain ⟨r, hr, rfl, hb2, hb3, bel⟩ := hrel
            by_cases hlt : r < 10
            · have r0 : (r : Int) < 10 := by omega
              have lY : (Cc.turned X r).length = 16 := by rw [Cc.turned_length, lX]
              have HT : Hid (Cc.turned X (r + 1) = Cc.diaTo (Cc.colTo (Cc.turned X r) 4) 4) := Cc.stir_two _
              generalize Cc.turned X r = Y at hb2 lY HT
              go_wp2_with fail
              go_loopw [12] (fun i wz => ∃ k : Nat, k ≤ 4 ∧ i = .int .i64 k ∧ Blk wz q (Vs (Cc.colTo Y k)) 203 ∧ Blk wz w.heap.size (Vs X) 203 ∧ Below w.heap.size w wz) (fun i _ => 4 - (intOf i).toNat)
              case atStart => exact ⟨0, by omega, rfl, hb2, hb3, bel⟩
              case round =>
                clear hb2 hb3 bel
                obtain ⟨k, hk4, rfl, hb2, hb3, bel⟩ := hrel
                by_cases hkt : k < 4
                · have k0 : (k : Int) < 4 := by omega
                  have lZ : (Cc.colTo Y k).length = 16 := by rw [Cc.colTo_length, lY]
                  have HZ : Hid (Cc.colTo Y (k + 1) = Cc.quarter (Cc.colTo Y k) k (4 + k) (8 + k) (12 + k)) := rfl
                  generalize Cc.colTo Y k = Z at hb2 lZ HZ
                  have sZ : (Vs Z).size = 16 := by rw [Vs_size, lZ]
                  have HQ : Hid (Rv 237 #[.agg (Vs Z), .int .i64 k, .int .i64 (4 + (k : Int)), .int .i64 (8 + (k : Int)), .int .i64 (12 + (k : Int))] (.agg (Vs (Cc.quarter Z k (4 + k) (8 + k) (12 + k))))) := fun wx => quarter_col Z k wx lZ hkt
                  have lQ : (Cc.quarter Z k (4 + k) (8 + k) (12 + k)).length = 16 := by rw [Cc.quarter_length, lZ]
                  generalize Cc.quarter Z k (4 + k) (8 + k) (12 + k) = Q at HQ lQ HZ
                  have sQ : (Vs Q).size = 16 := by rw [Vs_size, lQ]
                  have g0 := hb2
                  unfold Blk at g0
                  go_wp2_with (refine wpList_load_row rfl 203 _ rfl q rfl 203 _ (0, 0) _ g0 Tryz.underlying203 rfl (by rw [sZ]; exact Tryz.info16V) ?_)
                  clear g0
                  refine (HQ.out _).mono ?_
                  rintro e w5 ⟨rfl, k5⟩
                  replace hb2 := hb2.keep k5
                  replace hb3 := hb3.keep k5
                  replace bel := bel.trans (k5.mono bel.size)
                  have g1 := hb2
                  unfold Blk at g1
                  go_wp2_with (refine wpList_store_row rfl 203 _ _ rfl q _ rfl rfl 203 _ g1 (by rw [sQ]; exact Tryz.info16V) (by rw [sQ, sZ]) (Vs_one _) ?_)
                  go_roundw
                  case rel =>
                    refine ⟨k + 1, by omega, by go_num, ?_, hb3.other (by omega) _, below_setRow bel (by omega) _⟩
                    rw [HZ.out]; exact hb2.row _
                  case measure => simp [intOf]; omega
                · have hk4' : k = 4 := by omega
                  subst hk4'
                  rw [show ((4 : Nat) : Int) = 4 from rfl]
                  have lC : (Cc.colTo Y 4).length = 16 := by rw [Cc.colTo_length, lY]
                  generalize Cc.colTo Y 4 = C at hb2 HT lC
                  go_wp2_with fail
                  go_loopw [13] (fun i wz => ∃ k : Nat, k ≤ 4 ∧ i = .int .i64 k ∧ Blk wz q (Vs (Cc.diaTo C k)) 203 ∧ Blk wz w.heap.size (Vs X) 203 ∧ Below w.heap.size w wz) (fun i _ => 4 - (intOf i).toNat)
                  case atStart => exact ⟨0, by omega, rfl, hb2, hb3, bel⟩
                  case round =>
                    clear hb2 hb3 bel
                    obtain ⟨k, hk4, rfl, hb2, hb3, bel⟩ := hrel
                    by_cases hkt : k < 4
                    · have lZ : (Cc.diaTo C k).length = 16 := by rw [Cc.diaTo_length, lC]
                      have HZ : Hid (Cc.diaTo C (k + 1) = Cc.quarter (Cc.diaTo C k) k (4 + (k + 1) % 4) (8 + (k + 2) % 4) (12 + (k + 3) % 4)) := rfl
                      generalize Cc.diaTo C k = Z at hb2 lZ HZ
                      have sZ : (Vs Z).size = 16 := by rw [Vs_size, lZ]
                      have g0 := hb2
                      unfold Blk at g0
                      have hkk : k = 0 ∨ k = 1 ∨ k = 2 ∨ k = 3 := by omega
                      rcases hkk with rfl | rfl | rfl | rfl
                      · rw [show ((0 : Nat) : Int) = 0 from rfl]
                        have HQ : Hid (Rv 237 #[.agg (Vs Z), .int .i64 0, .int .i64 5, .int .i64 10, .int .i64 15] (.agg (Vs (Cc.quarter Z 0 5 10 15)))) := fun wx => R_quarter Z 0 5 10 15 wx lZ (by omega) (by omega) (by omega) (by omega) (by omega) (by omega)
                        have lQ : (Cc.quarter Z 0 5 10 15).length = 16 := by rw [Cc.quarter_length, lZ]
                        replace HZ : Hid (Cc.diaTo C 1 = Cc.quarter Z 0 5 10 15) := HZ
                        generalize Cc.quarter Z 0 5 10 15 = Q at HQ lQ HZ
                        have sQ : (Vs Q).size = 16 := by rw [Vs_size, lQ]
                        go_wp2_with (refine wpList_load_row rfl 203 _ rfl q rfl 203 _ (0, 0) _ g0 Tryz.underlying203 rfl (by rw [sZ]; exact Tryz.info16V) ?_)
                        clear g0
                        refine (HQ.out _).mono ?_
                        rintro e w5 ⟨rfl, k5⟩
                        replace hb2 := hb2.keep k5
                        replace hb3 := hb3.keep k5
                        replace bel := bel.trans (k5.mono bel.size)
                        have g1 := hb2
                        unfold Blk at g1
                        go_wp2_with (refine wpList_store_row rfl 203 _ _ rfl q _ rfl rfl 203 _ g1 (by rw [sQ]; exact Tryz.info16V) (by rw [sQ, sZ]) (Vs_one _) ?_)
                        go_roundw
                        case rel =>
                          refine ⟨1, by omega, by go_num, ?_, hb3.other (by omega) _, below_setRow bel (by omega) _⟩
                          rw [HZ.out]; exact hb2.row _
                        case measure => simp [intOf]
                      · rw [show ((1 : Nat) : Int) = 1 from rfl]
                        have HQ : Hid (Rv 237 #[.agg (Vs Z), .int .i64 1, .int .i64 6, .int .i64 11, .int .i64 12] (.agg (Vs (Cc.quarter Z 1 6 11 12)))) := fun wx => R_quarter Z 1 6 11 12 wx lZ (by omega) (by omega) (by omega) (by omega) (by omega) (by omega)
                        have lQ : (Cc.quarter Z 1 6 11 12).length = 16 := by rw [Cc.quarter_length, lZ]
                        replace HZ : Hid (Cc.diaTo C 2 = Cc.quarter Z 1 6 11 12) := HZ
                        generalize Cc.quarter Z 1 6 11 12 = Q at HQ lQ HZ
                        have sQ : (Vs Q).size = 16 := by rw [Vs_size, lQ]
                        go_wp2_with (refine wpList_load_row rfl 203 _ rfl q rfl 203 _ (0, 0) _ g0 Tryz.underlying203 rfl (by rw [sZ]; exact Tryz.info16V) ?_)
                        clear g0
                        refine (HQ.out _).mono ?_
                        rintro e w5 ⟨rfl, k5⟩
                        replace hb2 := hb2.keep k5
                        replace hb3 := hb3.keep k5
                        replace bel := bel.trans (k5.mono bel.size)
                        have g1 := hb2
                        unfold Blk at g1
                        go_wp2_with (refine wpList_store_row rfl 203 _ _ rfl q _ rfl rfl 203 _ g1 (by rw [sQ]; exact Tryz.info16V) (by rw [sQ, sZ]) (Vs_one _) ?_)
                        go_roundw
                        case rel =>
                          refine ⟨2, by omega, by go_num, ?_, hb3.other (by omega) _, below_setRow bel (by omega) _⟩
                          rw [HZ.out]; exact hb2.row _
                        case measure => simp [intOf]
                      · rw [show ((2 : Nat) : Int) = 2 from rfl]
                        have HQ : Hid (Rv 237 #[.agg (Vs Z), .int .i64 2, .int .i64 7, .int .i64 8, .int .i64 13] (.agg (Vs (Cc.quarter Z 2 7 8 13)))) := fun wx => R_quarter Z 2 7 8 13 wx lZ (by omega) (by omega) (by omega) (by omega) (by omega) (by omega)
                        have lQ : (Cc.quarter Z 2 7 8 13).length = 16 := by rw [Cc.quarter_length, lZ]
                        replace HZ : Hid (Cc.diaTo C 3 = Cc.quarter Z 2 7 8 13) := HZ
                        generalize Cc.quarter Z 2 7 8 13 = Q at HQ lQ HZ
                        have sQ : (Vs Q).size = 16 := by rw [Vs_size, lQ]
                        go_wp2_with (refine wpList_load_row rfl 203 _ rfl q rfl 203 _ (0, 0) _ g0 Tryz.underlying203 rfl (by rw [sZ]; exact Tryz.info16V) ?_)
                        clear g0
                        refine (HQ.out _).mono ?_
                        rintro e w5 ⟨rfl, k5⟩
                        replace hb2 := hb2.keep k5
                        replace hb3 := hb3.keep k5
                        replace bel := bel.trans (k5.mono bel.size)
                        have g1 := hb2
                        unfold Blk at g1
                        go_wp2_with (refine wpList_store_row rfl 203 _ _ rfl q _ rfl rfl 203 _ g1 (by rw [sQ]; exact Tryz.info16V) (by rw [sQ, sZ]) (Vs_one _) ?_)
                        go_roundw
                        case rel =>
                          refine ⟨3, by omega, by go_num, ?_, hb3.other (by omega) _, below_setRow bel (by omega) _⟩
                          rw [HZ.out]; exact hb2.row _
                        case measure => simp [intOf]
                      · rw [show ((3 : Nat) : Int) = 3 from rfl]
                        have HQ : Hid (Rv 237 #[.agg (Vs Z), .int .i64 3, .int .i64 4, .int .i64 9, .int .i64 14] (.agg (Vs (Cc.quarter Z 3 4 9 14)))) := fun wx => R_quarter Z 3 4 9 14 wx lZ (by omega) (by omega) (by omega) (by omega) (by omega) (by omega)
                        have lQ : (Cc.quarter Z 3 4 9 14).length = 16 := by rw [Cc.quarter_length, lZ]
                        replace HZ : Hid (Cc.diaTo C 4 = Cc.quarter Z 3 4 9 14) := HZ
                        generalize Cc.quarter Z 3 4 9 14 = Q at HQ lQ HZ
                        have sQ : (Vs Q).size = 16 := by rw [Vs_size, lQ]
                        go_wp2_with (refine wpList_load_row rfl 203 _ rfl q rfl 203 _ (0, 0) _ g0 Tryz.underlying203 rfl (by rw [sZ]; exact Tryz.info16V) ?_)
                        clear g0
                        refine (HQ.out _).mono ?_
                        rintro e w5 ⟨rfl, k5⟩
                        replace hb2 := hb2.keep k5
                        replace hb3 := hb3.keep k5
                        replace bel := bel.trans (k5.mono bel.size)
                        have g1 := hb2
                        unfold Blk at g1
                        go_wp2_with (refine wpList_store_row rfl 203 _ _ rfl q _ rfl rfl 203 _ g1 (by rw [sQ]; exact Tryz.info16V) (by rw [sQ, sZ]) (Vs_one _) ?_)
                        go_roundw
                        case rel =>
                          refine ⟨4, by omega, by go_num, ?_, hb3.other (by omega) _, below_setRow bel (by omega) _⟩
                          rw [HZ.out]; exact hb2.row _
                        case measure => simp [intOf]
                    · have hk4' : k = 4 := by omega
                      subst hk4'
                      rw [show ((4 : Nat) : Int) = 4 from rfl]
                      rw [← HT.out] at hb2
                      go_wp2_with fail
                      go_roundw
                      case rel => exact ⟨r + 1, by omega, by go_num, hb2, hb3, bel⟩
                      case measure => simp [intOf]; omega
            · have hr10 : r = 10 := by omega
              subst hr10
              rw [show ((10 : Nat) : Int) = 10 from rfl]
              have lY : (Cc.turned X 10).length = 16 := by rw [Cc.turned_length, lX]
              generalize Cc.turned X 10 = Y at hb2 lY HR
              go_wp2_with fail
              go_loopw [14, 15] (fun s i wz => ∃ k : Nat, k ≤ 16 ∧ i = .int .i64 k ∧ s = .string ⟨(Cc.outTo (fun i => Y.getD i 0 + W i) k).toArray⟩ ∧ Blk wz q (Vs Y) 203 ∧ Blk wz w.heap.size (Vs X) 203 ∧ Below w.heap.size w wz) (fun _ i _ => 16 - (intOf i).toNat)
              case atStart => exact ⟨0, by omega, rfl, rfl, hb2, hb3, bel⟩
              case round =>
                clear hb2 hb3 bel
                obtain ⟨k, hk16, rfl, rfl, hb2, hb3, bel⟩ := hrel
                by_cases hkt : k < 16
                · have k0 : (k : Int) < 16 := by omega
                  have HO : Hid (Cc.outTo (fun i => Y.getD i 0 + W i) (k + 1) = Cc.outTo (fun i => Y.getD i 0 + W i) k ++ Fd.lo (Y.getD k 0 + W k).toNat 4) := rfl
                  have lo := Cc.outTo_length (fun i => Y.getD i 0 + W i) k
                  have cX : Hid (∀ wx, (fun wx => Blk wx q (Vs Y) 203 ∧ Blk wx w.heap.size (Vs X) 203 ∧ Below w.heap.size w wx) wx → wx.cell? ⟨w.heap.size, k, none⟩ = some (.int .u32 (V (W k)))) := fun wx h => by have := q_cell h.2.1 k (by omega); rw [hX.out k hkt] at this; exact this
                  have cY : Hid (∀ wx, (fun wx => Blk wx q (Vs Y) 203 ∧ Blk wx w.heap.size (Vs X) 203 ∧ Below w.heap.size w wx) wx → wx.cell? ⟨q, k, none⟩ = some (.int .u32 (V (Y.getD k 0)))) := fun wx h => q_cell h.1 k (by omega)
                  generalize Cc.outTo (fun i => Y.getD i 0 + W i) k = o at lo HO ⊢
                  generalize Y.getD k 0 = gy at cY HO
                  generalize W k = gx at cX HO
                  rw [show gy + gx = gx + gy from BitVec.add_comm _ _] at HO
                  have HB : Hid (Rv 75 #[.int .i64 (V (gx + gy)), .int .i64 4] (.string ⟨(Fd.lo (gx + gy).toNat 4).toArray⟩)) := fun wx => bytes_any (V (gx + gy)) 4 (gx + gy).toNat 4 rfl rfl (by have := (gx + gy).isLt; omega) (by omega) wx
                  have ew : IntKind.i64.wrap (V (gx + gy)) = V (gx + gy) := by have h1 := V_lo (gx + gy); have h2 := V_hi (gx + gy); rw [IntKind.wrap_i64]; omega
                  have lB := Fd.lo_length (gx + gy).toNat 4
                  generalize Fd.lo (gx + gy).toNat 4 = B at HB HO lB
                  have hadd : Op.stringOp .add ⟨o.toArray⟩ ⟨B.toArray⟩ = pure (.string ⟨(o ++ B).toArray⟩) := by
                    rw [add_strings _ _ (by show o.toArray.size + B.toArray.size ≤ _; rw [List.size_toArray, List.size_toArray]; omega)]
                    exact congrArg (fun z => pure (Value.string z)) (ByteArray.mk_append_mk o B)
                  have hS0 : (fun wx => Blk wx q (Vs Y) 203 ∧ Blk wx w.heap.size (Vs X) 203 ∧ Below w.heap.size w wx) wr := ⟨hb2, hb3, bel⟩
                  clear hb2 hb3 bel
                  go_wp2_with fail
                  refine wp_region_M (S := (fun wx => Blk wx q (Vs Y) 203 ∧ Blk wx w.heap.size (Vs X) 203 ∧ Below w.heap.size w wx)) (ls := []) (by kernel_rfl) ?_
                  have hS : (fun wx => Blk wx q (Vs Y) 203 ∧ Blk wx w.heap.size (Vs X) 203 ∧ Below w.heap.size w wx) wr.drew := ⟨hS0.1.drew, hS0.2.1.drew, hS0.2.2.drew⟩
                  clear hS0
                  generalize wr.drew = wd at hS ⊢
                  refine wpAnyM_tk (i := 0) (dst := some 91) (v := .string ⟨o.toArray⟩) rfl rfl (by kernel_rfl) (fun _ _ _ h => h) (Or.inl ⟨by rfl, ?hy0⟩) hS ?re0
                  case hy0 => exact fun wx _ => rfl
                  refine wpAnyM_tk (i := 1) (dst := some 92) (v := .int .i64 k) rfl rfl (by kernel_rfl) (fun _ _ _ h => h) (Or.inl ⟨by rfl, ?hy1⟩) hS ?re1
                  case hy1 => exact fun wx _ => rfl
                  refine wpAnyM_tk (i := 2) (dst := some 93) (v := .pointer (some ⟨w.heap.size, k, none⟩)) rfl rfl (by kernel_rfl) (fun _ _ _ h => h) (Or.inl ⟨by rfl, ?hy2⟩) hS ?re2
                  case hy2 => (intro wx hSx; clear hSx; go_simp; try (with_reducible rfl))
                  simp only [Act.put, qA, qB, qC]
                  refine wpAnyM_tk (i := 3) (dst := some 94) (v := .int .u32 (V gx)) rfl rfl (by kernel_rfl) (fun _ _ _ h => h) (Or.inl ⟨by rfl, ?hy3⟩) hS ?re3
                  case hy3 => (intro wx hSx; have cc := cX.out wx hSx; clear hSx; go_simp; try (with_reducible rfl))
                  refine wpAnyM_tk (i := 4) (dst := some 95) (v := .int .i64 k) rfl rfl (by kernel_rfl) (fun _ _ _ h => h) (Or.inl ⟨by rfl, ?hy4⟩) hS ?re4
                  case hy4 => exact fun wx _ => rfl
                  refine wpAnyM_tk (i := 5) (dst := some 96) (v := .pointer (some ⟨q, k, none⟩)) rfl rfl (by kernel_rfl) (fun _ _ _ h => h) (Or.inl ⟨by rfl, ?hy5⟩) hS ?re5
                  case hy5 => (intro wx hSx; clear hSx; go_simp; try (with_reducible rfl))
                  simp only [Act.put, qA, qB, qC]
                  refine wpAnyM_tk (i := 6) (dst := some 97) (v := .int .u32 (V gy)) rfl rfl (by kernel_rfl) (fun _ _ _ h => h) (Or.inl ⟨by rfl, ?hy6⟩) hS ?re6
                  case hy6 => (intro wx hSx; have cc := cY.out wx hSx; clear hSx; go_simp; try (with_reducible rfl))
                  refine wpAnyM_tk (i := 7) (dst := some 98) (v := .int .u32 (V (gx + gy))) rfl rfl (by kernel_rfl) (fun _ _ _ h => h) (Or.inl ⟨by rfl, ?hy7⟩) hS ?re7
                  case hy7 => (intro wx hSx; clear hSx; go_simp; first | rw [V_add] | rw [V_add'])
                  refine wpAnyM_tk (i := 8) (dst := some 99) (v := .int .i64 (V (gx + gy))) rfl rfl (by kernel_rfl) (fun _ _ _ h => h) (Or.inl ⟨by rfl, ?hy8⟩) hS ?re8
                  case hy8 => (intro wx hSx; clear hSx; go_simp; try (with_reducible rfl))
                  simp only [Act.put, qA, qB, qC]
                  refine wpAnyM_one (i := 9) (by kernel_rfl) rfl (fun K hK => ?_)
                  go_simp
                  go_wp2_with (go_at_call 75; refine (HB.out _).mono ?_; rintro e wf ⟨rfl, k0⟩)
                  have hSk : (fun wx => Blk wx q (Vs Y) 203 ∧ Blk wx w.heap.size (Vs X) 203 ∧ Below w.heap.size w wx) wf := ⟨hS.1.keep k0, hS.2.1.keep k0, hS.2.2.trans (k0.mono hS.2.2.size)⟩
                  refine hK.out _ _ hSk ?_
                  try simp only [Act.put, qA, qB, qC]
                  clear hK K k0 hS
                  have hS := hSk
                  clear hSk
                  refine wpAnyM_tk (i := 10) (dst := some 101) (v := .string ⟨(o ++ B).toArray⟩) rfl rfl (by kernel_rfl) (fun _ _ _ h => h) (Or.inl ⟨by rfl, ?hy10⟩) hS ?re10
                  case hy10 => (intro wx hSx; clear hSx; go_simp; try (with_reducible rfl))
                  refine wpAnyM_tk (i := 11) (dst := some 14) (v := .string ⟨(o ++ B).toArray⟩) rfl rfl (by kernel_rfl) (fun _ _ _ h => h) (Or.inl ⟨by rfl, ?hy11⟩) hS ?re11
                  case hy11 => exact fun wx _ => rfl
                  try simp only [Act.put, qA, qB, qC]
                  refine wpAnyM_done (by kernel_rfl) ?_ _
                  go_wp2_with fail
                  go_roundw
                  case rel =>
                    refine ⟨k + 1, by omega, by go_num, ?_, hS.1, hS.2.1, hS.2.2⟩
                    rw [HO.out]
                  case measure => simp [intOf]; omega
                · have hk16' : k = 16 := by omega
                  subst hk16'
                  rw [← HR.out]
                  go_wp2
                  go_ret
                  exact ⟨rfl, bel⟩
end Go.Proofs.YtclpbaokadfhhaaGreatDoor
namespace Go.Proofs.YtclpbaokadfhhaaGreatDoor
open Go.RowKit
set_option maxRecDepth 100000 in
set_option maxHeartbeats 2000000 in
theorem R_xored (key nonce data : ByteArray) (w : World) (hk : key.size = 32) (hn : nonce.size = 12) (hd : data.size ≤ 1000000) :
    Calls Tryz.prog 149 #[.string key, .string nonce, .string data] w fun e w' => e = .returned (.string (Cc.TurnB key nonce data)) ∧ Below w.heap.size w w' := by
  obtain ⟨cap, w1, hcv, ho, hbel⟩ := bytesOf data w.heap.size w (Nat.le_refl _)
  replace ho := ho.at
  have HB : Hid (∀ (x : Nat) (wx : World), x ≤ 1000000 → Calls Tryz.prog 196 #[.string key, .int .i64 x, .string nonce] wx fun e w' => e = .returned (.string ⟨(Cc.blk key (BitVec.ofNat 32 x) nonce).toArray⟩) ∧ Below wx.heap.size wx w') := fun x wx h => R_block key nonce x wx hk hn h
  have HT : Hid (Cc.TurnB key nonce data = ⟨(Cc.xorTo (Cc.ks key nonce) data.data.toList data.size).toArray⟩) := by
    have : Cc.TurnB key nonce data = ⟨(Cc.xorTo (Cc.ks key nonce) data.data.toList data.size).toArray⟩ := rfl
    exact this
  have hlen : data.data.toList.length = data.size := by simp
  generalize Cc.TurnB key nonce data = R at HT ⊢
  generalize data.data.toList = l at HT ho hlen
  go_enter Tryz.func149, Tryz.ntmps149
  go_wp2_with fail
  clear hcv
  go_loopw [8] (fun i wr => ∃ j : Nat, 64 * j < data.size + 64 ∧ i = .int .i64 (64 * j : Nat) ∧ OwnR wr w.heap.size cap (Cc.xorTo (Cc.ks key nonce) l (64 * j)) ∧ Below w.heap.size w wr) (fun i _ => data.size + 64 - (intOf i).toNat)
  case atStart => exact ⟨0, by omega, rfl, by rw [Nat.mul_zero, Cc.xorTo_zero]; exact ho, hbel⟩
  case round =>
    clear ho hbel w1
    obtain ⟨j, hj, rfl, ho, hbel⟩ := hrel
    by_cases hlt : 64 * j < data.size
    · have hlt6 : w.heap.size < wr.heap.size := ho.lt
      have hj6 : j + 1 ≤ 1000000 := by omega
      generalize hat : 64 * j = at0 at hj hlt ho
      have HAT : Hid (64 * j = at0) := hat
      have hc : 1 + (at0 : Int) / 64 = (j : Int) + 1 := by omega
      have HBj : Hid (Rv 196 #[.string key, .int .i64 ((j : Int) + 1), .string nonce] (.string ⟨(Cc.blk key (BitVec.ofNat 32 (j + 1)) nonce).toArray⟩)) := fun wx => HB.out (j + 1) wx hj6
      clear hat
      go_wp2_with fail
      refine (HBj.out _).mono ?_
      rintro e w2 ⟨rfl, hb2⟩
      have hlM : (Cc.blk key (BitVec.ofNat 32 (j + 1)) nonce).length = 64 := Cc.blk_length _ _ _
      have HM : Hid (∀ i, i < 64 → (Cc.blk key (BitVec.ofNat 32 (j + 1)) nonce).getD i 0 = Cc.ks key nonce (at0 + i)) := fun i hi => by
        unfold Cc.ks; rw [show (at0 + i) / 64 = j by have := HAT.out; omega, show (at0 + i) % 64 = i by have := HAT.out; omega]
      generalize Cc.blk key (BitVec.ofNat 32 (j + 1)) nonce = M at hlM HM ⊢
      have ho2 := ho.below hb2 hlt6
      have hbel2 : Below w.heap.size w w2 := hbel.trans (hb2.mono hbel.size)
      clear ho hbel hb2 hc
      obtain ⟨m, hm0, hm1, hm2, hm3⟩ : ∃ m : Nat, 0 < m ∧ m ≤ 64 ∧ at0 + m ≤ data.size ∧ (m = 64 ∨ at0 + m = data.size) := by
        by_cases h : at0 + 64 ≤ data.size
        · exact ⟨64, by omega, by omega, by omega, .inl rfl⟩
        · exact ⟨data.size - at0, by omega, by omega, by omega, .inr (by omega)⟩
      have hsM : (⟨M.toArray⟩ : ByteArray).size = 64 := by show M.toArray.size = 64; rw [List.size_toArray, hlM]
      have HX : Hid (∀ i, i < 64 → byt ⟨M.toArray⟩ i = ((Cc.ks key nonce (at0 + i)).toNat : Int)) := fun i hi => by rw [← HM.out i hi]; rfl
      generalize (⟨M.toArray⟩ : ByteArray) = S at hsM HX ⊢
      go_wp2_with fail
      go_loopw [10] (fun i wr => ∃ k : Nat, k ≤ m ∧ i = .int .i64 (at0 + k : Nat) ∧ OwnR wr w.heap.size cap (Cc.xorTo (Cc.ks key nonce) l (at0 + k)) ∧ Below w.heap.size w wr) (fun i _ => at0 + m - (intOf i).toNat)
      case atStart => exact ⟨0, Nat.zero_le _, rfl, ho2, hbel2⟩
      case round =>
        clear ho2 hbel2
        obtain ⟨k, hkm, rfl, ho, hbel⟩ := hrel
        generalize hik : at0 + k = i at ho
        by_cases hlk : k < m
        · have h1 := ho.cell i (by rw [Cc.xorTo_length]; omega)
          rw [Cc.xorTo_at _ _ _ (by omega)] at h1
          have h2 := ho.frozen i (by rw [Cc.xorTo_length]; omega)
          have hix := index_str S (k : Int) k (by omega) (by omega) (by omega)
          rw [HX.out k (by omega), hik] at hix
          have HS : Hid ((Cc.xorTo (Cc.ks key nonce) l i).set i (l.getD i 0 ^^^ Cc.ks key nonce i) = Cc.xorTo (Cc.ks key nonce) l (i + 1)) := Cc.xorTo_set _ _ _ (by omega)
          generalize l.getD i 0 = x at h1 HS
          generalize Cc.ks key nonce i = y at hix HS
          have i1 : decide ((i : Int) < (at0 : Int) + 64) = true := decide_eq_true (by omega)
          have i2 : decide ((i : Int) < (data.size : Int)) = true := decide_eq_true (by omega)
          have i3 : IntKind.i64.wrap ((i : Int) - (at0 : Int)) = (k : Int) := by rw [IntKind.wrap_i64]; omega
          have i4 : (i : Int) < (data.size : Int) := by omega
          have i6 : (0 : Int) ≤ (i : Int) := by omega
          replace hik : Hid (at0 + k = i) := hik
          go_wp2_with fail
          go_region
          all_goals
            go_wp2
            go_roundw
            case rel => exact ⟨k + 1, by omega, by have := hik.out; rw [show at0 + (k + 1) = i + 1 by omega]; go_num, by have := hik.out; rw [show at0 + (k + 1) = i + 1 by omega, xor_byte, ← show _ = _ from HS.out]; exact (ho.set _ _).drew, (hbel.setCell (Nat.le_refl _) _).drew⟩
            case measure => have := hik.out; simp [intOf]; omega
        · have hkm' : k = m := by omega
          subst hkm'
          have hend : Hid (OwnR wr w.heap.size cap (Cc.xorTo (Cc.ks key nonce) l (64 * (j + 1)))) := by
            have h0 := HAT.out
            show OwnR wr w.heap.size cap (Cc.xorTo (Cc.ks key nonce) l (64 * (j + 1)))
            rcases hm3 with h | h
            · rw [show 64 * (j + 1) = i by omega]; exact ho
            · rw [xorTo_all _ _ (64 * (j + 1)) (by omega), ← xorTo_all _ _ i (by omega)]; exact ho
          have hb64 : Hid (64 * (j + 1) < data.size + 64) := (by have h0 := HAT.out; omega : 64 * (j + 1) < data.size + 64)
          by_cases h64 : i < at0 + 64
          · have i1 : decide ((i : Int) < (at0 : Int) + 64) = true := decide_eq_true (by omega)
            have i2 : decide ((i : Int) < (data.size : Int)) = false := decide_eq_false (by omega)
            have i2n : decide (i < data.size) = false := decide_eq_false (by omega)
            have i2m : ¬ i < data.size := by omega
            clear ho hm3 hik h64
            go_wp2
            go_roundw
            case rel => exact ⟨j + 1, hb64.out, int_eq (by have := HAT.out; omega), hend.out, hbel⟩
            case measure => simp [intOf]; have := HAT.out; omega
          · have i1 : decide ((i : Int) < (at0 : Int) + 64) = false := decide_eq_false (by omega)
            clear ho hm3 hik h64
            go_wp2
            go_roundw
            case rel => exact ⟨j + 1, hb64.out, int_eq (by have := HAT.out; omega), hend.out, hbel⟩
            case measure => simp [intOf]; have := HAT.out; omega
    · rw [xorTo_all _ _ (64 * j) (by omega), hlen] at ho
      have hso := stringOfOwn (n := data.size) ho (by rw [Cc.xorTo_length, hlen])
      go_wp2
      go_ret
      exact ⟨by rw [show R = _ from HT.out]; rfl, hbel⟩
end Go.Proofs.YtclpbaokadfhhaaGreatDoor
