/- Several texts as one: Cp4, Cp5, Fr, Cp6. -/
import Derived.Test.YtclpbaokadfhhaaGreatDoorYb
import Derived.Test.YtclpbaokadfhhaaGreatDoorXm
import Derived.Test.YtclpbaokadfhhaaGreatDoorYe
import Derived.ChangeKeysEq
namespace Go.Proofs.YtclpbaokadfhhaaGreatDoor
open Go.RowKit

theorem buildStart (w : World) : (Instr.build 122 #[(1, .agg (Ws Ff.one5)), (2, .agg (Ws Ff.one5))]).run Tryz.prog w = .ok (.agg (Ws (Cv.row Cv.start))) w := run_build w _ _ _ (by kernel_rfl)
theorem start_ok : Cv.Ok Cv.start := ⟨rfl, rfl, rfl⟩

set_option maxRecDepth 100000 in
set_option maxHeartbeats 8000000 in
theorem C_times (a : Cv.Pn) (n : List (BitVec 64)) (w : World) (ha : Cv.Ok a) (hn : n.length = 4) :
    Calls Tryz.prog 116 #[.agg (Ws (Cv.row a)), .agg (Ws n)] w fun e w' => e = .returned (.agg (Ws (Cv.row (Cv.timesN a n)))) ∧ Below w.heap.size w w' := by
  have hz := zero15
  have H1 : Hid (∀ wx : World, Calls Tryz.prog 173 #[] wx fun e w' => e = .returned (.agg (Ws Ff.one5)) ∧ Below wx.heap.size wx w') := C_one
  have HB := buildStart
  have sZ := Z15_len
  generalize Z15 = ZO at hz sZ
  generalize Ff.one5 = O at H1 HB
  have sZ' : (Ws ZO).size = 15 := by rw [Ws_size, sZ]
  have la : (Cv.row a).length = 15 := ha.row
  have sa : (Ws (Cv.row a)).size = 15 := by rw [Ws_size, la]
  have sn : (Ws n).size = 4 := by rw [Ws_size, hn]
  have HE : Hid (Cv.timesN a n = Cv.timesTo a n 253) := by
    have : Cv.timesN a n = Cv.timesTo a n 253 := rfl
    exact this
  generalize Cv.timesN a n = R at HE ⊢
  have lS : (Cv.row Cv.start).length = 15 := start_ok.row
  have sS0 : (Ws (Cv.row Cv.start)).size = 15 := by rw [Ws_size, lS]
  have HP : Hid (∀ (p : Cv.Pn), Cv.Ok p → ∀ wx : World, Calls Tryz.prog 174 #[.agg (Ws (Cv.row p)), .agg (Ws (Cv.row a))] wx fun e w' => e = .returned (.agg (Ws (Cv.row (Cv.plus p a)))) ∧ Below wx.heap.size wx w') := fun p hp wx => C_plus p a wx hp ha
  generalize hra : Cv.row a = ra at la sa HP ⊢
  clear hra
  have hW : WD w w.heap.size [(w.heap.size + 1 + 1, Ws ZO, 122), (w.heap.size + 1, Ws n, 71), (w.heap.size, Ws ra, 122)] (((w.alloc (.cells (Ws ra) 122)).alloc (.cells (Ws n) 71)).alloc (.cells (Ws ZO) 122)) := by
    have h1 := (WD.start (w := w)).new (Ws ra) 122
    have h2 := h1.new (Ws n) 71
    rw [show (w.alloc (.cells (Ws ra) 122)).heap.size = w.heap.size + 1 by simp] at h2
    have h3 := h2.new (Ws ZO) 122
    rw [show ((w.alloc (.cells (Ws ra) 122)).alloc (.cells (Ws n) 71)).heap.size = w.heap.size + 1 + 1 by simp] at h3
    exact h3
  go_enter Tryz.func116, Tryz.ntmps116
  go_wp2_with fail
  generalize ((w.alloc (.cells (Ws ra) 122)).alloc (.cells (Ws n) 71)).alloc (.cells (Ws ZO) 122) = w1 at hW ⊢
  refine (H1.out _).mono ?_
  rintro e w2 ⟨rfl, k2⟩
  replace hW := hW.keep k2
  clear k2
  go_wp2_with fail
  refine (H1.out _).mono ?_
  rintro e w3 ⟨rfl, k3⟩
  replace hW := hW.keep k3
  clear k3
  have hN := hW.new (Ws ZO) 122
  have gz := hN.get 0 rfl
  dsimp only at gz
  unfold Blk at gz
  generalize hst : Cv.row Cv.start = rs at HB lS sS0
  replace hst : Hid (Cv.row Cv.start = rs) := hst
  go_wp2_with (first
    | (refine wpList_made rfl 122 _ rfl [(1, .agg (Ws O)), (2, .agg (Ws O))] rfl _ (HB _) ?_)
    | (refine wpList_store_row rfl 122 _ _ rfl w3.heap.size _ rfl rfl 122 _ gz (by rw [sS0]; exact Tryz.infoP15) (by rw [sS0, sZ']) (Ws_one _) ?_))
  replace hW : WD w w.heap.size [(w3.heap.size, Ws rs, 122), (w.heap.size + 1 + 1, Ws ZO, 122), (w.heap.size + 1, Ws n, 71), (w.heap.size, Ws ra, 122)] ((w3.alloc (.cells (Ws ZO) 122)).setRow w3.heap.size (Ws rs)) := hN.over 0 rfl (Ws rs)
  clear hN gz HB hz
  generalize (w3.alloc (.cells (Ws ZO) 122)).setRow w3.heap.size (Ws rs) = w4 at hW ⊢
  generalize w3.heap.size = q at hW ⊢
  rw [← hst.out] at hW
  clear hst lS sS0
  go_loopw [6] (fun c wr => ∃ m : Nat, m ≤ 253 ∧ c = .int .i64 (252 - (m : Int)) ∧ WD w w.heap.size [(q, Ws (Cv.row (Cv.timesTo a n m)), 122), (w.heap.size + 1 + 1, Ws ZO, 122), (w.heap.size + 1, Ws n, 71), (w.heap.size, Ws ra, 122)] wr) (fun c _ => ((intOf c) + 1).toNat)
  case atStart => exact ⟨0, by omega, rfl, hW⟩
  case round =>
    clear hW
    obtain ⟨m, hm, rfl, hW⟩ := hrel
    have hok := Cv.timesTo_ok a n m
    by_cases hlt : m < 253
    · have HS : Hid (Cv.timesTo a n (m + 1) = Cv.choose (Sc.bit n (252 - m)) (Cv.plus (Cv.timesTo a n m) (Cv.timesTo a n m)) (Cv.plus (Cv.plus (Cv.timesTo a n m) (Cv.timesTo a n m)) a)) := by
        have : Cv.timesTo a n (m + 1) = Cv.choose (Sc.bit n (252 - m)) (Cv.plus (Cv.timesTo a n m) (Cv.timesTo a n m)) (Cv.plus (Cv.plus (Cv.timesTo a n m) (Cv.timesTo a n m)) a) := by rw [Cv.timesTo]
        exact this
      obtain ⟨at0, hat⟩ : ∃ at0 : Nat, at0 = 252 - m := ⟨_, rfl⟩
      rw [← hat] at HS
      have hc : (252 - (m : Int)) = (at0 : Int) := by omega
      rw [hc]
      have hat2 : at0 ≤ 252 := by omega
      clear hat
      replace hc : Hid (252 - (m : Int) = (at0 : Int)) := hc
      have i3 : (0 : Int) ≤ (at0 : Int) := by omega
      generalize hS : Cv.timesTo a n m = S at hW hok HS
      clear hS
      have J1 : Hid (∀ wx : World, Calls Tryz.prog 174 #[.agg (Ws (Cv.row S)), .agg (Ws (Cv.row S))] wx fun e w' => e = .returned (.agg (Ws (Cv.row (Cv.plus S S)))) ∧ Below wx.heap.size wx w') := fun wx => C_plus S S wx hok hok
      have ok1 := Cv.plus_ok S S
      generalize Cv.plus S S = D at J1 ok1 HS
      have J2 : Hid (∀ wx : World, Calls Tryz.prog 176 #[.agg (Ws n), .int .i64 (at0 : Int)] wx fun e w' => e = .returned (.int .u64 (U (Sc.bit n at0))) ∧ Below wx.heap.size wx w') := fun wx => S_bit n at0 wx hn (by omega)
      generalize Sc.bit n at0 = t at J2 HS
      have J3 : Hid (∀ wx : World, Calls Tryz.prog 174 #[.agg (Ws (Cv.row D)), .agg (Ws ra)] wx fun e w' => e = .returned (.agg (Ws (Cv.row (Cv.plus D a)))) ∧ Below wx.heap.size wx w') := HP.out D ok1
      have ok2 := Cv.plus_ok D a
      generalize Cv.plus D a = E at J3 ok2 HS
      have J4 : Hid (∀ wx : World, Calls Tryz.prog 175 #[.int .u64 (U t), .agg (Ws (Cv.row D)), .agg (Ws (Cv.row E))] wx fun e w' => e = .returned (.agg (Ws (Cv.row (Cv.choose t D E)))) ∧ Below wx.heap.size wx w') := fun wx => C_choose t D E wx ok1 ok2
      have ok3 := Cv.choose_ok t E ok1
      generalize Cv.choose t D E = G at J4 ok3 HS
      have lS := hok.row
      have lD := ok1.row
      have lG := ok3.row
      generalize Cv.row S = rS at hW J1 lS
      generalize Cv.row D = rD at J1 J3 J4 lD
      generalize Cv.row E = rE at J3 J4
      generalize hG : Cv.row G = rG at J4 lG
      replace hG : Hid (Cv.row G = rG) := hG
      have sS : (Ws rS).size = 15 := by rw [Ws_size, lS]
      have sD : (Ws rD).size = 15 := by rw [Ws_size, lD]
      have srG : (Ws rG).size = 15 := by rw [Ws_size, lG]
      clear hok ok1 ok2 ok3
      have g0 := hW.get 0 rfl
      dsimp only at g0
      unfold Blk at g0
      go_wp2_with (first
        | (refine wpList_load_row rfl 122 _ rfl q rfl 122 _ (0, 0) _ g0 Tryz.underlying122 rfl (by rw [sS]; exact Tryz.infoP15) ?_))
      clear g0
      refine (J1.out _).mono ?_
      rintro e x1 ⟨rfl, k1⟩
      replace hW := hW.keep k1
      clear k1
      have g0 := hW.get 0 rfl
      dsimp only at g0
      unfold Blk at g0
      go_wp2_with (first
        | (refine wpList_store_row rfl 122 _ _ rfl q _ rfl rfl 122 _ g0 (by rw [sD]; exact Tryz.infoP15) (by rw [sD, sS]) (Ws_one _) ?_))
      replace hW : WD w w.heap.size [(q, Ws rD, 122), (w.heap.size + 1 + 1, Ws ZO, 122), (w.heap.size + 1, Ws n, 71), (w.heap.size, Ws ra, 122)] (x1.setRow q (Ws rD)) := hW.over 0 rfl (Ws rD)
      clear g0
      generalize x1.setRow q (Ws rD) = x2 at hW ⊢
      refine wp_region_M (S := WD w (w.heap.size) [(q, Ws rD, 122), (w.heap.size + 1 + 1, Ws ZO, 122), (w.heap.size + 1, Ws n, 71), (w.heap.size, Ws ra, 122)]) (ls := [8]) (by kernel_rfl) ?_
      have hW0 : WD w (w.heap.size) [(q, Ws rD, 122), (w.heap.size + 1 + 1, Ws ZO, 122), (w.heap.size + 1, Ws n, 71), (w.heap.size, Ws ra, 122)] x2.drew := hW.drew
      clear hW
      generalize World.drew x2 = rd at hW0 ⊢
      refine wpAnyM_take (i := 0) (dst := some 17) (v := .agg (Ws n)) rfl rfl (by kernel_rfl) (by kernel_rfl) (by kernel_rfl) (by kernel_rfl) (by kernel_rfl) (fun _ _ _ h => h) (Or.inl ⟨by rfl, ?hyr0⟩) hW0 ?rer0
      case hyr0 => exact fun wx hSx => exec_load_row 71 _ rfl (w.heap.size + 1) rfl 71 _ (0, 0) _ (hSx.get 2 rfl) Tryz.underlying71 rfl (by rw [sn]; exact Tryz.infoS4)
      refine wpAnyM_take (i := 1) (dst := some 18) (v := ?vr1) rfl rfl (by kernel_rfl) (by kernel_rfl) (by kernel_rfl) (by kernel_rfl) (by kernel_rfl) (fun _ _ _ h => h) (Or.inl ⟨by rfl, ?hyr1⟩) hW0 ?rer1
      case hyr1 => (intro wx hSx; clear hSx; go_simp; try (with_reducible rfl))
      refine wpAnyM_take (i := 3) (dst := some 20) (v := .agg (Ws rD)) rfl rfl (by kernel_rfl) (by kernel_rfl) (by kernel_rfl) (by kernel_rfl) (by kernel_rfl) (fun _ _ _ h => h) (Or.inl ⟨by rfl, ?hyr3⟩) hW0 ?rer3
      case hyr3 => exact fun wx hSx => exec_load_row 122 _ rfl (q) rfl 122 _ (0, 0) _ (hSx.get 0 rfl) Tryz.underlying122 rfl (by rw [sD]; exact Tryz.infoP15)
      simp only [Act.put, List.setIfInBounds_toArray, List.set_cons_zero, List.set_cons_succ]
      refine wpAnyM_take (i := 4) (dst := some 21) (v := .agg (Ws rD)) rfl rfl (by kernel_rfl) (by kernel_rfl) (by kernel_rfl) (by kernel_rfl) (by kernel_rfl) (fun _ _ _ h => h) (Or.inl ⟨by rfl, ?hyr4⟩) hW0 ?rer4
      case hyr4 => exact fun wx hSx => exec_load_row 122 _ rfl (q) rfl 122 _ (0, 0) _ (hSx.get 0 rfl) Tryz.underlying122 rfl (by rw [sD]; exact Tryz.infoP15)
      refine wpAnyM_take (i := 5) (dst := some 22) (v := .agg (Ws ra)) rfl rfl (by kernel_rfl) (by kernel_rfl) (by kernel_rfl) (by kernel_rfl) (by kernel_rfl) (fun _ _ _ h => h) (Or.inl ⟨by rfl, ?hyr5⟩) hW0 ?rer5
      case hyr5 => exact fun wx hSx => exec_load_row 122 _ rfl (w.heap.size) rfl 122 _ (0, 0) _ (hSx.get 3 rfl) Tryz.underlying122 rfl (by rw [sa]; exact Tryz.infoP15)
      try simp only [Act.put, List.setIfInBounds_toArray, List.set_cons_zero, List.set_cons_succ]
      refine wpAnyM_one (i := 2) (by kernel_rfl) rfl (fun K hK => ?_)
      go_simp
      go_wp2_with (go_at_call 176; refine (J2.out _).mono ?_; rintro e rx0 ⟨rfl, k0⟩)
      have hW1 := hW0.keep k0
      refine hK.out _ _ hW1 ?_
      try simp only [Act.put, List.setIfInBounds_toArray, List.set_cons_zero, List.set_cons_succ]
      clear hK K k0 hW0
      refine wpAnyM_one (i := 6) (by kernel_rfl) rfl (fun K hK => ?_)
      go_simp
      go_wp2_with (go_at_call 174; refine (J3.out _).mono ?_; rintro e rx1 ⟨rfl, k0⟩)
      have hW2 := hW1.keep k0
      refine hK.out _ _ hW2 ?_
      try simp only [Act.put, List.setIfInBounds_toArray, List.set_cons_zero, List.set_cons_succ]
      clear hK K k0 hW1
      refine wpAnyM_one (i := 7) (by kernel_rfl) rfl (fun K hK => ?_)
      go_simp
      go_wp2_with (go_at_call 175; refine (J4.out _).mono ?_; rintro e rx2 ⟨rfl, k0⟩)
      have hW3 := hW2.keep k0
      refine hK.out _ _ hW3 ?_
      try simp only [Act.put, List.setIfInBounds_toArray, List.set_cons_zero, List.set_cons_succ]
      clear hK K k0 hW2
      refine wpAnyM_late (i := 8) (by kernel_rfl) rfl rfl (fun K hK => ?_)
      have hst := storeRow (l := rG) (hW3.get 0 rfl) (by rw [sD, lG])
      go_simp
      refine hK.out _ _ ?_
      clear hK K hst
      replace hW3 : WD w (w.heap.size) [(q, Ws rG, 122), (w.heap.size + 1 + 1, Ws ZO, 122), (w.heap.size + 1, Ws n, 71), (w.heap.size, Ws ra, 122)] (rx2.setRow (q) (Ws rG)) := hW3.over 0 rfl (Ws rG)
      generalize rx2.setRow (q) (Ws rG) = ry0 at hW3 ⊢
      refine wpAnyM_done (by kernel_rfl) ?_ _
      go_wp2
      go_roundw
      case rel =>
        refine ⟨m + 1, by omega, by have := hc.out; go_num, ?_⟩
        rw [show Cv.timesTo a n (m + 1) = _ from HS.out, hG.out]
        exact hW3
      case measure => have := hc.out; simp [intOf]; try omega
    · have hk8 : m = 253 := by omega
      subst hk8
      have lS := hok.row
      generalize hS : Cv.timesTo a n 253 = S at hW lS HE
      clear hS hok
      generalize hrS : Cv.row S = rS at hW lS
      replace hrS : Hid (Cv.row S = rS) := hrS
      have sS : (Ws rS).size = 15 := by rw [Ws_size, lS]
      have g0 := hW.get 0 rfl
      have g1 := hW.get 1 rfl
      dsimp only at g0 g1
      unfold Blk at g0 g1
      go_wp2_with (first
        | (refine wpList_load_row rfl 122 _ rfl q rfl 122 _ (0, 0) _ g0 Tryz.underlying122 rfl (by rw [sS]; exact Tryz.infoP15) ?_)
        | (refine wpList_store_row rfl 122 _ _ rfl (w.heap.size + 1 + 1) _ rfl rfl 122 _ g1 (by rw [sS]; exact Tryz.infoP15) (by rw [sS, sZ']) (Ws_one _) ?_))
      have hW5 := hW.over 1 rfl (Ws rS)
      refine bodyPost_ret (v := .agg (Ws rS)) ?_ rfl ⟨by rw [show R = _ from HE.out, hrS.out], hW5.below⟩
      exact results_cell_row rfl _ _ (w.heap.size + 1 + 1) 122 _ (0, 0) _ rfl (hW5.get 1 rfl) Tryz.underlying122 rfl (by rw [sS]; exact Tryz.infoP15)
end Go.Proofs.YtclpbaokadfhhaaGreatDoor

namespace Go.Proofs.YtclpbaokadfhhaaGreatDoor
open Go.RowKit

/-- rows, and a slice of bytes -/
def WO (w0 : World) (base : Nat) (l : BL) (g cap : Nat) (L : List UInt8) (w : World) : Prop := WD w0 base l w ∧ OwnR w g cap L
theorem WO.keep {w0 w w' : World} {base g cap : Nat} {l : BL} {L : List UInt8} (h : WO w0 base l g cap L w) (k : Below w.heap.size w w') : WO w0 base l g cap L w' := ⟨h.1.keep k, h.2.below k h.2.lt⟩
theorem WO.drew {w0 w : World} {base g cap : Nat} {l : BL} {L : List UInt8} (h : WO w0 base l g cap L w) : WO w0 base l g cap L w.drew := ⟨h.1.drew, h.2.drew⟩
theorem WO.get {w0 w : World} {base g cap : Nat} {l : BL} {L : List UInt8} (h : WO w0 base l g cap L w) (i : Nat) {x : Nat × Array Value × Nat} (hi : l[i]? = some x) : Blk w x.1 x.2.1 x.2.2 := h.1.get i hi
theorem shl7 (b : UInt8) : IntKind.u8.wrap ((b.toNat : Int) * 128) = ((b <<< 7).toNat : Int) := by
  rw [IntKind.wrap_u8, UInt8.toNat_shiftLeft]
  have := b.toNat_lt
  show _ = (((b.toNat <<< ((7 : UInt8).toNat % 8)) % 2 ^ 8 : Nat) : Int)
  rw [show (7 : UInt8).toNat % 8 = 7 from rfl, Nat.shiftLeft_eq]
  omega

set_option maxRecDepth 100000 in
set_option maxHeartbeats 8000000 in
theorem C_bytes' (A B C I V W' : List (BitVec 64)) (Y : List UInt8) (x y s v : UInt8) (w : World) (hy : Hid (Y.getD 31 0 = y)) (f1 : IntKind.u8.wrap ((x.toNat : Int) * 128) = (s.toNat : Int)) (f2 : bits BinOp.or IntKind.u8 (y.toNat : Int) (s.toNat : Int) = (v.toNat : Int)) (hA : A.length = 5) (hB : B.length = 5) (hC : C.length = 5)
    (H1 : Hid (∀ wx : World, Calls Tryz.prog 112 #[.agg (Ws C)] wx fun e w' => e = .returned (.agg (Ws I)) ∧ Below wx.heap.size wx w')) (hI : I.length = 5)
    (H2 : Hid (∀ wx : World, Calls Tryz.prog 111 #[.agg (Ws B), .agg (Ws I)] wx fun e w' => e = .returned (.agg (Ws V)) ∧ Below wx.heap.size wx w'))
    (H3 : Hid (∀ wx : World, Calls Tryz.prog 58 #[.agg (Ws V)] wx fun e w' => e = .returned (.string ⟨Y.toArray⟩) ∧ Below wx.heap.size wx w')) (hY : Y.length = 32)
    (H4 : Hid (∀ wx : World, Calls Tryz.prog 111 #[.agg (Ws A), .agg (Ws I)] wx fun e w' => e = .returned (.agg (Ws W')) ∧ Below wx.heap.size wx w'))
    (H5 : Hid (∀ wx : World, Calls Tryz.prog 177 #[.agg (Ws W')] wx fun e w' => e = .returned (.int .u8 (x.toNat : Int)) ∧ Below wx.heap.size wx w')) :
    Calls Tryz.prog 117 #[.agg (Ws (pt A B C))] w fun e w' => e = .returned (.string ⟨(Y.set 31 v).toArray⟩) ∧ Below w.heap.size w w' := by
  have sA : (Ws A).size = 5 := by rw [Ws_size, hA]
  have sB : (Ws B).size = 5 := by rw [Ws_size, hB]
  have sC : (Ws C).size = 5 := by rw [Ws_size, hC]
  have sI : (Ws I).size = 5 := by rw [Ws_size, hI]
  have hlR : (Y.set 31 v).length = 32 := by rw [List.length_set, hY]
  generalize hRs : (⟨(Y.set 31 v).toArray⟩ : ByteArray) = RS
  replace hRs : Hid ((⟨(Y.set 31 v).toArray⟩ : ByteArray) = RS) := hRs
  have hW : WD w w.heap.size [(w.heap.size, Ws (pt A B C), 122)] (w.alloc (.cells (Ws (pt A B C)) 122)) := (WD.start (w := w)).new (Ws (pt A B C)) 122
  have c1 := ptZ (hW.get 0 rfl) hA hB
  dsimp only at c1
  have sP : (Ws (pt A B C)).size = 15 := pt_size hA hB hC
  generalize hPa : Ws (pt A B C) = PA at sP hW c1 ⊢
  replace hPa : Hid (Ws (pt A B C) = PA) := hPa
  go_enter Tryz.func117, Tryz.ntmps117
  go_wp2_with (first
    | (refine wpList_mid rfl 69 _ rfl w.heap.size 10 rfl (Ws C) _ c1 Tryz.underlying69 rfl (by rw [sC]; exact Tryz.infoF5) ?_))
  clear c1
  generalize w.alloc (.cells PA 122) = w1 at hW ⊢
  rw [← hPa.out] at hW ⊢
  clear sP hPa
  refine (H1.out _).mono ?_
  rintro e w2 ⟨rfl, k2⟩
  replace hW := hW.keep k2
  clear k2
  have hN := hW.new #[.int .u64 0, .int .u64 0, .int .u64 0, .int .u64 0, .int .u64 0] 69
  have gz := hN.get 0 rfl
  dsimp only at gz
  unfold Blk at gz
  replace hW : WD w w.heap.size [(w2.heap.size, Ws I, 69), (w.heap.size, Ws (pt A B C), 122)] ((w2.alloc (.cells #[.int .u64 0, .int .u64 0, .int .u64 0, .int .u64 0, .int .u64 0] 69)).setRow w2.heap.size (Ws I)) := hN.over 0 rfl (Ws I)
  have c1 := ptY (hW.get 1 rfl) hA
  have g0 := hW.get 0 rfl
  dsimp only at c1 g0
  unfold Blk at g0
  go_wp2_with (first
    | (refine wpList_store_row rfl 69 _ _ rfl w2.heap.size _ rfl rfl 69 _ gz (by rw [sI]; exact Tryz.infoF5) (by rw [sI]; rfl) (Ws_one _) ?_)
    | (refine wpList_mid rfl 69 _ rfl w.heap.size 5 rfl (Ws B) _ c1 Tryz.underlying69 rfl (by rw [sB]; exact Tryz.infoF5) ?_)
    | (refine wpList_load_row rfl 69 _ rfl w2.heap.size rfl 69 _ (0, 0) _ g0 Tryz.underlying69 rfl (by rw [sI]; exact Tryz.infoF5) ?_))
  clear hN gz c1 g0
  generalize (w2.alloc (.cells #[.int .u64 0, .int .u64 0, .int .u64 0, .int .u64 0, .int .u64 0] 69)).setRow w2.heap.size (Ws I) = w3 at hW ⊢
  generalize w2.heap.size = q at hW ⊢
  refine (H2.out _).mono ?_
  rintro e w4 ⟨rfl, k4⟩
  replace hW := hW.keep k4
  clear k4
  go_wp2_with fail
  refine (H3.out _).mono ?_
  rintro e w5 ⟨rfl, k5⟩
  replace hW := hW.keep k5
  clear k5 H1 H2 H3
  have hsz : (⟨Y.toArray⟩ : ByteArray).size = 32 := hY
  have hdt : (⟨Y.toArray⟩ : ByteArray).data.toList = Y := rfl
  generalize (⟨Y.toArray⟩ : ByteArray) = ys at hsz hdt ⊢
  obtain ⟨cap, w6, hcv, ho, b6⟩ := bytesOf ys w.heap.size w5 hW.1.2.2.1
  replace ho := ho.at
  rw [hdt] at ho
  rw [hsz] at hcv
  have hO : WO w w.heap.size [(q, Ws I, 69), (w.heap.size, Ws (pt A B C), 122)] w5.heap.size cap Y w6 := ⟨hW.keep b6, ho⟩
  have hge : w.heap.size ≤ w5.heap.size := hW.1.2.2.1
  clear hW ho b6
  go_wp2_with fail
  clear hcv
  generalize w5.heap.size = gg at hO hge ⊢
  refine wp_region_M (S := WO w w.heap.size [(q, Ws I, 69), (w.heap.size, Ws (pt A B C), 122)] gg cap Y) (ls := [11]) (by kernel_rfl) ?_
  have hO0 : WO w w.heap.size [(q, Ws I, 69), (w.heap.size, Ws (pt A B C), 122)] gg cap Y w6.drew := hO.drew
  clear hO
  generalize World.drew w6 = bd at hO0 ⊢
  refine wpAnyM_take (i := 0) (dst := some 14) (v := ?vb0) rfl rfl (by kernel_rfl) (by kernel_rfl) (by kernel_rfl) (by kernel_rfl) (by kernel_rfl) (fun _ _ _ h => h) (Or.inl ⟨by rfl, ?hyb0⟩) hO0 ?reb0
  case hyb0 => (intro wx hSx; clear hSx; go_simp; try (with_reducible rfl))
  refine wpAnyM_take (i := 1) (dst := some 15) (v := ?vb1) rfl rfl (by kernel_rfl) (by kernel_rfl) (by kernel_rfl) (by kernel_rfl) (by kernel_rfl) (fun _ _ _ h => h) (Or.inl ⟨by rfl, ?hyb1⟩) hO0 ?reb1
  case hyb1 => (intro wx hSx; clear hSx; go_simp; try (with_reducible rfl))
  refine wpAnyM_take (i := 2) (dst := some 16) (v := .int .u8 (y.toNat : Int)) rfl rfl (by kernel_rfl) (by kernel_rfl) (by kernel_rfl) (by kernel_rfl) (by kernel_rfl) (fun _ _ _ h => h) (Or.inl ⟨by rfl, ?hyb2⟩) hO0 ?reb2
  case hyb2 => (intro wx hSx; have c31 := hSx.2.cell 31 (by omega); rw [hy.out] at c31; clear hSx; go_simp; try (with_reducible rfl))
  simp only [Act.put, List.setIfInBounds_toArray, List.set_cons_zero, List.set_cons_succ]
  refine wpAnyM_take (i := 3) (dst := some 17) (v := ?vb3) rfl rfl (by kernel_rfl) (by kernel_rfl) (by kernel_rfl) (by kernel_rfl) (by kernel_rfl) (fun _ _ _ h => h) (Or.inl ⟨by rfl, ?hyb3⟩) hO0 ?reb3
  case hyb3 => (intro wx hSx; clear hSx; go_simp; try (with_reducible rfl))
  refine wpAnyM_take (i := 4) (dst := some 18) (v := .agg (Ws A)) rfl rfl (by kernel_rfl) (by kernel_rfl) (by kernel_rfl) (by kernel_rfl) (by kernel_rfl) (fun _ _ _ h => h) (Or.inl ⟨by rfl, ?hyb4⟩) hO0 ?reb4
  case hyb4 => exact fun wx hSx => exec_mid 69 _ rfl w.heap.size 0 rfl (Ws A) _ (ptX (hSx.get 1 rfl)) Tryz.underlying69 rfl (by rw [sA]; exact Tryz.infoF5)
  refine wpAnyM_take (i := 5) (dst := some 19) (v := .agg (Ws I)) rfl rfl (by kernel_rfl) (by kernel_rfl) (by kernel_rfl) (by kernel_rfl) (by kernel_rfl) (fun _ _ _ h => h) (Or.inl ⟨by rfl, ?hyb5⟩) hO0 ?reb5
  case hyb5 => exact fun wx hSx => exec_load_row 69 _ rfl q rfl 69 _ (0, 0) _ (hSx.get 0 rfl) Tryz.underlying69 rfl (by rw [sI]; exact Tryz.infoF5)
  simp only [Act.put, List.setIfInBounds_toArray, List.set_cons_zero, List.set_cons_succ]
  refine wpAnyM_one (i := 6) (by kernel_rfl) rfl (fun K hK => ?_)
  go_simp
  go_wp2_with (go_at_call 111; refine (H4.out _).mono ?_; rintro e bx0 ⟨rfl, k0⟩)
  have hO1 := hO0.keep k0
  refine hK.out _ _ hO1 ?_
  try simp only [Act.put, List.setIfInBounds_toArray, List.set_cons_zero, List.set_cons_succ]
  clear hK K k0 hO0
  refine wpAnyM_one (i := 7) (by kernel_rfl) rfl (fun K hK => ?_)
  go_simp
  go_wp2_with (go_at_call 177; refine (H5.out _).mono ?_; rintro e bx1 ⟨rfl, k0⟩)
  have hO2 := hO1.keep k0
  refine hK.out _ _ hO2 ?_
  try simp only [Act.put, List.setIfInBounds_toArray, List.set_cons_zero, List.set_cons_succ]
  clear hK K k0 hO1
  have o2 := hO2.2.set 31 v
  have c31 := hO2.2.cell 31 (by omega)
  have f31 := hO2.2.frozen 31 (by omega)
  rw [hy.out] at c31
  have bel := hO2.1.below.setCell (p := ⟨gg, 31, none⟩) hge (.int .u8 (v.toNat : Int))
  have hso := stringOfOwn (n := 32) o2 hlR.symm
  rw [hRs.out] at hso
  refine wpAnyM_take (i := 8) (dst := some 22) (v := .int .u8 (s.toNat : Int)) rfl rfl (by kernel_rfl) (by kernel_rfl) (by kernel_rfl) (by kernel_rfl) (by kernel_rfl) (fun _ _ _ h => h) (Or.inl ⟨by rfl, ?hyb8⟩) hO2 ?reb8
  case hyb8 => (intro wx hSx; clear hSx; go_simp; try (with_reducible rfl))
  simp only [Act.put, List.setIfInBounds_toArray, List.set_cons_zero, List.set_cons_succ]
  refine wpAnyM_take (i := 9) (dst := some 23) (v := .int .u8 (v.toNat : Int)) rfl rfl (by kernel_rfl) (by kernel_rfl) (by kernel_rfl) (by kernel_rfl) (by kernel_rfl) (fun _ _ _ h => h) (Or.inl ⟨by rfl, ?hyb9⟩) hO2 ?reb9
  case hyb9 => (intro wx hSx; clear hSx; go_simp; try (with_reducible rfl))
  try simp only [Act.put, List.setIfInBounds_toArray, List.set_cons_zero, List.set_cons_succ]
  refine wpAnyM_take (i := 10) (dst := some 24) (v := ?vb10) rfl rfl (by kernel_rfl) (by kernel_rfl) (by kernel_rfl) (by kernel_rfl) (by kernel_rfl) (fun _ _ _ h => h) (Or.inl ⟨by rfl, ?hyb10⟩) hO2 ?reb10
  case hyb10 => (intro wx hSx; clear hSx; go_simp; try (with_reducible rfl))
  try simp only [Act.put, List.setIfInBounds_toArray, List.set_cons_zero, List.set_cons_succ]
  refine wpAnyM_late (i := 11) (by kernel_rfl) rfl rfl (fun K hK => ?_)
  go_simp
  refine hK.out _ _ ?_
  clear hK K f1 f2 c31 f31 o2 hlR
  refine wpAnyM_done (by kernel_rfl) ?_ _
  generalize World.setCell bx1 _ _ = wz at hso bel ⊢
  go_wp2
  go_ret
  exact ⟨rfl, bel⟩
theorem C_bytes (a : Cv.Pn) (w : World) (ha : Cv.Ok a) :
    Calls Tryz.prog 117 #[.agg (Ws (Cv.row a))] w fun e w' => e = .returned (.string ⟨(Cv.bytes a).toArray⟩) ∧ Below w.heap.size w w' := by
  have lt := Ff.times_length a.x (Ff.inverse a.z)
  have ly := Ff.times_length a.y (Ff.inverse a.z)
  have li := Ff.inverse_length a.z
  have := C_bytes' a.x a.y a.z (Ff.inverse a.z) (Ff.times a.y (Ff.inverse a.z)) (Ff.times a.x (Ff.inverse a.z)) (Cv.yb a) (Cv.xb a) _ _ _ w rfl (shl7 _) (or_byte _ _) ha.1 ha.2.1 ha.2.2 (fun wx => F_inverse _ wx ha.2.2) li (fun wx => F_times _ _ wx ha.2.1 li) (fun wx => F_bytes _ wx ly) (Cv.yb_length a) (fun wx => F_times _ _ wx ha.1 li) (fun wx => F_lowestBit _ wx lt)
  unfold Cv.bytes
  exact this
end Go.Proofs.YtclpbaokadfhhaaGreatDoor

namespace Go.Proofs.YtclpbaokadfhhaaGreatDoor
open Go.RowKit

theorem eqItems_words {P : Program} (w : World) (d : Nat) (e : TypeId) (he : P.underlying e = some (.int .u64)) (X Y : List (BitVec 64)) : ∀ l : List Nat, (∀ i ∈ l, i < X.length ∧ i < Y.length) →
    (Op.eqItems (d + 1) e 1 (Ws X) (Ws Y) l).run P w = .ok (l.all fun i => X.getD i 0 == Y.getD i 0) w
  | [], _ => by simp [Op.eqItems]
  | i :: l, h => by
    obtain ⟨h1, h2⟩ := h i (by simp)
    have px : (part e (Ws X) (i * 1)).run P w = .ok (.int .u64 (U (X.getD i 0))) w := by
      rw [Nat.mul_one]
      have := Ws_at X i h1
      simp [part, isAgg, run_underlying he, this]
    have py : (part e (Ws Y) (i * 1)).run P w = .ok (.int .u64 (U (Y.getD i 0))) w := by
      rw [Nat.mul_one]
      have := Ws_at Y i h2
      simp [part, isAgg, run_underlying he, this]
    have pe : (Op.equalIn (d + 1) e (.int .u64 (U (X.getD i 0))) (.int .u64 (U (Y.getD i 0)))).run P w = .ok (X.getD i 0 == Y.getD i 0) w := by
      rw [run_equalIn_int w d e .u64 .u64 _ _ he]
      congr 1
      rw [Bool.eq_iff_iff]
      simp only [beq_iff_eq]
      constructor
      · intro hh; apply BitVec.eq_of_toNat_eq; unfold U at hh; omega
      · intro hh; rw [hh]
    have ih := eqItems_words w d e he X Y l (fun j hj => h j (by simp [hj]))
    simp only [Op.eqItems, Sem.run_bind, px, py, pe, Result.andThen_ok, List.all_cons]
    cases hb : (X.getD i 0 == Y.getD i 0)
    · simp
    · simpa using ih
set_option maxRecDepth 100000 in
theorem F_equal (X Y : List (BitVec 64)) (hX : X.length = 5) (hY : Y.length = 5) (w : World) :
    (Op.equalIn 10000 69 (.agg (Ws X)) (.agg (Ws Y))).run Tryz.prog w = .ok (decide (X = Y)) w := by
  have hs : (Tryz.prog.info? 67).isSome = true := by kernel_rfl
  obtain ⟨i, hi⟩ := Option.isSome_iff_exists.1 hs
  rw [run_equalIn_array w 9999 (e := 67) (n := 5) (Ws X) (Ws Y) Tryz.underlying69 hi]
  rw [show Tryz.prog.cellsOf 67 = 1 from by kernel_rfl, eqItems_words w 9998 67 Tryz.underlying67 X Y (List.range 5) (fun i hi => by simp at hi; omega)]
  congr 1
  obtain ⟨x0, x1, x2, x3, x4, rfl⟩ := Ff.five X hX
  obtain ⟨y0, y1, y2, y3, y4, rfl⟩ := Ff.five Y hY
  rw [Bool.eq_iff_iff]
  simp [List.range, List.range.loop]
theorem F_equal_is {X Y : List (BitVec 64)} (hX : X.length = 5) (hY : Y.length = 5) (h : X = Y) (w : World) : (Op.equalIn 10000 69 (.agg (Ws X)) (.agg (Ws Y))).run Tryz.prog w = .ok true w := by
  rw [F_equal X Y hX hY, decide_eq_true h]
theorem F_equal_not {X Y : List (BitVec 64)} (hX : X.length = 5) (hY : Y.length = 5) (h : ¬ X = Y) (w : World) : (Op.equalIn 10000 69 (.agg (Ws X)) (.agg (Ws Y))).run Tryz.prog w = .ok false w := by
  rw [F_equal X Y hX hY, decide_eq_false h]

set_option maxRecDepth 100000 in
set_option maxHeartbeats 8000000 in
theorem F_root' (a : List (BitVec 64)) (w : World) (ha : a.length = 5) (O R1 R2 L0 L1 L2 S1 S2 : List (BitVec 64))
    (H1 : Hid (∀ wx : World, Calls Tryz.prog 167 #[.agg (Ws a), .int .i64 251] wx fun e w' => e = .returned (.agg (Ws O)) ∧ Below wx.heap.size wx w'))
    (H2 : Hid (∀ wx : World, Calls Tryz.prog 163 #[.agg (Ws O)] wx fun e w' => e = .returned (.agg (Ws R1)) ∧ Below wx.heap.size wx w')) (hR1 : R1.length = 5)
    (H3 : Hid (∀ wx : World, Calls Tryz.prog 163 #[.agg (Ws R1)] wx fun e w' => e = .returned (.agg (Ws S1)) ∧ Below wx.heap.size wx w'))
    (H4 : Hid (∀ wx : World, Calls Tryz.prog 125 #[.agg (Ws S1)] wx fun e w' => e = .returned (.agg (Ws L1)) ∧ Below wx.heap.size wx w'))
    (H5 : Hid (∀ wx : World, Calls Tryz.prog 125 #[.agg (Ws a)] wx fun e w' => e = .returned (.agg (Ws L0)) ∧ Below wx.heap.size wx w'))
    (H6 : Hid (∀ wx : World, Calls Tryz.prog 111 #[.agg (Ws R1), .agg (Ws Ff.im)] wx fun e w' => e = .returned (.agg (Ws R2)) ∧ Below wx.heap.size wx w')) (hR2 : R2.length = 5)
    (H7 : Hid (∀ wx : World, Calls Tryz.prog 163 #[.agg (Ws R2)] wx fun e w' => e = .returned (.agg (Ws S2)) ∧ Below wx.heap.size wx w'))
    (H8 : Hid (∀ wx : World, Calls Tryz.prog 125 #[.agg (Ws S2)] wx fun e w' => e = .returned (.agg (Ws L2)) ∧ Below wx.heap.size wx w'))
    (hL0 : L0.length = 5) (hL1 : L1.length = 5) (hL2 : L2.length = 5) :
    Calls Tryz.prog 228 #[.agg (Ws a)] w fun e w' => e = .returned (if L1 = L0 then .tuple #[.agg (Ws R1), .bool true] else if L2 = L0 then .tuple #[.agg (Ws R2), .bool true] else .tuple #[.agg (Ws [0, 0, 0, 0, 0]), .bool false]) ∧ Below w.heap.size w w' := by
  have H9 : Hid (∀ wx : World, Calls Tryz.prog 249 #[] wx fun e w' => e = .returned (.agg (Ws Ff.im)) ∧ Below wx.heap.size wx w') := F_im
  generalize Ff.im = IM at H6 H9
  have sa : (Ws a).size = 5 := by rw [Ws_size, ha]
  have sR1 : (Ws R1).size = 5 := by rw [Ws_size, hR1]
  have sR2 : (Ws R2).size = 5 := by rw [Ws_size, hR2]
  have hW : WD w w.heap.size [(w.heap.size + 1, #[.int .u64 0, .int .u64 0, .int .u64 0, .int .u64 0, .int .u64 0], 69), (w.heap.size, Ws a, 69)] ((w.alloc (.cells (Ws a) 69)).alloc (.cells #[.int .u64 0, .int .u64 0, .int .u64 0, .int .u64 0, .int .u64 0] 69)) := by
    have h1 := (WD.start (w := w)).new (Ws a) 69
    have h2 := h1.new #[.int .u64 0, .int .u64 0, .int .u64 0, .int .u64 0, .int .u64 0] 69
    rw [show (w.alloc (.cells (Ws a) 69)).heap.size = w.heap.size + 1 by simp] at h2
    exact h2
  have g0 := hW.get 1 rfl
  dsimp only at g0
  unfold Blk at g0
  generalize hV : (if L1 = L0 then Value.tuple #[.agg (Ws R1), .bool true] else if L2 = L0 then .tuple #[.agg (Ws R2), .bool true] else .tuple #[.agg (Ws [0, 0, 0, 0, 0]), .bool false]) = V
  replace hV : Hid ((if L1 = L0 then Value.tuple #[.agg (Ws R1), .bool true] else if L2 = L0 then .tuple #[.agg (Ws R2), .bool true] else .tuple #[.agg (Ws [0, 0, 0, 0, 0]), .bool false]) = V) := hV
  go_enter Tryz.func228, Tryz.ntmps228
  go_wp2_with (first
    | (refine wpList_load_row rfl 69 _ rfl w.heap.size rfl 69 _ (0, 0) _ g0 Tryz.underlying69 rfl (by rw [sa]; exact Tryz.infoF5) ?_))
  clear g0
  generalize (w.alloc (.cells (Ws a) 69)).alloc (.cells #[.int .u64 0, .int .u64 0, .int .u64 0, .int .u64 0, .int .u64 0] 69) = w1 at hW ⊢
  refine (H1.out _).mono ?_
  rintro e w2 ⟨rfl, k2⟩
  replace hW := hW.keep k2
  clear k2
  go_wp2_with fail
  refine (H2.out _).mono ?_
  rintro e w3 ⟨rfl, k3⟩
  replace hW := hW.keep k3
  clear k3 H1 H2
  have hN := hW.new #[.int .u64 0, .int .u64 0, .int .u64 0, .int .u64 0, .int .u64 0] 69
  have gz := hN.get 0 rfl
  dsimp only at gz
  unfold Blk at gz
  go_wp2_with (first
    | (refine wpList_store_row rfl 69 _ _ rfl w3.heap.size _ rfl rfl 69 _ gz (by rw [sR1]; exact Tryz.infoF5) (by rw [sR1]; rfl) (Ws_one _) ?_))
  replace hW : WD w w.heap.size [(w3.heap.size, Ws R1, 69), (w.heap.size + 1, #[.int .u64 0, .int .u64 0, .int .u64 0, .int .u64 0, .int .u64 0], 69), (w.heap.size, Ws a, 69)] ((w3.alloc (.cells #[.int .u64 0, .int .u64 0, .int .u64 0, .int .u64 0, .int .u64 0] 69)).setRow w3.heap.size (Ws R1)) := hN.over 0 rfl (Ws R1)
  clear hN gz
  generalize (w3.alloc (.cells #[.int .u64 0, .int .u64 0, .int .u64 0, .int .u64 0, .int .u64 0] 69)).setRow w3.heap.size (Ws R1) = w4 at hW ⊢
  generalize w3.heap.size = q at hW ⊢
  by_cases h1 : L1 = L0
  · replace h1 : Hid (L1 = L0) := h1
    refine wp_region_M (S := WD w (w.heap.size) [(q, Ws R1, 69), (w.heap.size + 1, #[.int .u64 0, .int .u64 0, .int .u64 0, .int .u64 0, .int .u64 0], 69), (w.heap.size, Ws a, 69)]) (ls := []) (by kernel_rfl) ?_
    have hW0 : WD w (w.heap.size) [(q, Ws R1, 69), (w.heap.size + 1, #[.int .u64 0, .int .u64 0, .int .u64 0, .int .u64 0, .int .u64 0], 69), (w.heap.size, Ws a, 69)] w4.drew := hW.drew
    clear hW
    generalize World.drew w4 = ad at hW0 ⊢
    refine wpAnyM_take (i := 0) (dst := some 8) (v := .agg (Ws R1)) rfl rfl (by kernel_rfl) (by kernel_rfl) (by kernel_rfl) (by kernel_rfl) (by kernel_rfl) (fun _ _ _ h => h) (Or.inl ⟨by rfl, ?hya0⟩) hW0 ?rea0
    case hya0 => exact fun wx hSx => exec_load_row 69 _ rfl (q) rfl 69 _ (0, 0) _ (hSx.get 0 rfl) Tryz.underlying69 rfl (by rw [sR1]; exact Tryz.infoF5)
    refine wpAnyM_take (i := 3) (dst := some 11) (v := .agg (Ws a)) rfl rfl (by kernel_rfl) (by kernel_rfl) (by kernel_rfl) (by kernel_rfl) (by kernel_rfl) (fun _ _ _ h => h) (Or.inl ⟨by rfl, ?hya3⟩) hW0 ?rea3
    case hya3 => exact fun wx hSx => exec_load_row 69 _ rfl (w.heap.size) rfl 69 _ (0, 0) _ (hSx.get 2 rfl) Tryz.underlying69 rfl (by rw [sa]; exact Tryz.infoF5)
    try simp only [Act.put, List.setIfInBounds_toArray, List.set_cons_zero, List.set_cons_succ]
    refine wpAnyM_one (i := 1) (by kernel_rfl) rfl (fun K hK => ?_)
    go_simp
    go_wp2_with (go_at_call 163; refine (H3.out _).mono ?_; rintro e ax0 ⟨rfl, k0⟩)
    have hW1 := hW0.keep k0
    refine hK.out _ _ hW1 ?_
    try simp only [Act.put, List.setIfInBounds_toArray, List.set_cons_zero, List.set_cons_succ]
    clear hK K k0 hW0
    refine wpAnyM_one (i := 2) (by kernel_rfl) rfl (fun K hK => ?_)
    go_simp
    go_wp2_with (go_at_call 125; refine (H4.out _).mono ?_; rintro e ax1 ⟨rfl, k0⟩)
    have hW2 := hW1.keep k0
    refine hK.out _ _ hW2 ?_
    try simp only [Act.put, List.setIfInBounds_toArray, List.set_cons_zero, List.set_cons_succ]
    clear hK K k0 hW1
    refine wpAnyM_one (i := 4) (by kernel_rfl) rfl (fun K hK => ?_)
    go_simp
    go_wp2_with (go_at_call 125; refine (H5.out _).mono ?_; rintro e ax2 ⟨rfl, k0⟩)
    have hW3 := hW2.keep k0
    refine hK.out _ _ hW3 ?_
    try simp only [Act.put, List.setIfInBounds_toArray, List.set_cons_zero, List.set_cons_succ]
    clear hK K k0 hW2
    have hq := F_equal_is hL1 hL0 h1.out
    refine wpAnyM_take (i := 5) (dst := some 13) (v := .bool false) rfl rfl (by kernel_rfl) (by kernel_rfl) (by kernel_rfl) (by kernel_rfl) (by kernel_rfl) (fun _ _ _ h => h) (Or.inl ⟨by rfl, ?hya5⟩) hW3 ?rea5
    case hya5 => (intro wx hSx; clear hSx; go_simp; try (with_reducible rfl))
    simp only [Act.put, List.setIfInBounds_toArray, List.set_cons_zero, List.set_cons_succ]
    refine wpAnyM_done (by kernel_rfl) ?_ _
    clear hq
    go_wp2_with fail
    refine wp_region_M (S := WD w (w.heap.size) [(q, Ws R1, 69), (w.heap.size + 1, #[.int .u64 0, .int .u64 0, .int .u64 0, .int .u64 0, .int .u64 0], 69), (w.heap.size, Ws a, 69)]) (ls := []) (by kernel_rfl) ?_
    have hW30 : WD w (w.heap.size) [(q, Ws R1, 69), (w.heap.size + 1, #[.int .u64 0, .int .u64 0, .int .u64 0, .int .u64 0, .int .u64 0], 69), (w.heap.size, Ws a, 69)] ax2.drew := hW3.drew
    clear hW3
    generalize World.drew ax2 = bd at hW30 ⊢
    refine wpAnyM_take (i := 0) (dst := some 17) (v := .agg (Ws R1)) rfl rfl (by kernel_rfl) (by kernel_rfl) (by kernel_rfl) (by kernel_rfl) (by kernel_rfl) (fun _ _ _ h => h) (Or.inl ⟨by rfl, ?hyb0⟩) hW30 ?reb0
    case hyb0 => exact fun wx hSx => exec_load_row 69 _ rfl (q) rfl 69 _ (0, 0) _ (hSx.get 0 rfl) Tryz.underlying69 rfl (by rw [sR1]; exact Tryz.infoF5)
    refine wpAnyM_take (i := 3) (dst := some 20) (v := .agg (Ws a)) rfl rfl (by kernel_rfl) (by kernel_rfl) (by kernel_rfl) (by kernel_rfl) (by kernel_rfl) (fun _ _ _ h => h) (Or.inl ⟨by rfl, ?hyb3⟩) hW30 ?reb3
    case hyb3 => exact fun wx hSx => exec_load_row 69 _ rfl (w.heap.size) rfl 69 _ (0, 0) _ (hSx.get 2 rfl) Tryz.underlying69 rfl (by rw [sa]; exact Tryz.infoF5)
    try simp only [Act.put, List.setIfInBounds_toArray, List.set_cons_zero, List.set_cons_succ]
    refine wpAnyM_one (i := 1) (by kernel_rfl) rfl (fun K hK => ?_)
    go_simp
    go_wp2_with (go_at_call 163; refine (H3.out _).mono ?_; rintro e bx0 ⟨rfl, k0⟩)
    have hW31 := hW30.keep k0
    refine hK.out _ _ hW31 ?_
    try simp only [Act.put, List.setIfInBounds_toArray, List.set_cons_zero, List.set_cons_succ]
    clear hK K k0 hW30
    refine wpAnyM_one (i := 2) (by kernel_rfl) rfl (fun K hK => ?_)
    go_simp
    go_wp2_with (go_at_call 125; refine (H4.out _).mono ?_; rintro e bx1 ⟨rfl, k0⟩)
    have hW32 := hW31.keep k0
    refine hK.out _ _ hW32 ?_
    try simp only [Act.put, List.setIfInBounds_toArray, List.set_cons_zero, List.set_cons_succ]
    clear hK K k0 hW31
    refine wpAnyM_one (i := 4) (by kernel_rfl) rfl (fun K hK => ?_)
    go_simp
    go_wp2_with (go_at_call 125; refine (H5.out _).mono ?_; rintro e bx2 ⟨rfl, k0⟩)
    have hW33 := hW32.keep k0
    refine hK.out _ _ hW33 ?_
    try simp only [Act.put, List.setIfInBounds_toArray, List.set_cons_zero, List.set_cons_succ]
    clear hK K k0 hW32
    have hq := F_equal_is hL1 hL0 h1.out
    refine wpAnyM_take (i := 5) (dst := some 22) (v := .bool false) rfl rfl (by kernel_rfl) (by kernel_rfl) (by kernel_rfl) (by kernel_rfl) (by kernel_rfl) (fun _ _ _ h => h) (Or.inl ⟨by rfl, ?hyb5⟩) hW33 ?reb5
    case hyb5 => (intro wx hSx; clear hSx; go_simp; try (with_reducible rfl))
    simp only [Act.put, List.setIfInBounds_toArray, List.set_cons_zero, List.set_cons_succ]
    refine wpAnyM_done (by kernel_rfl) ?_ _
    clear hq
    have g0 := hW33.get 0 rfl
    have g1 := hW33.get 1 rfl
    dsimp only at g0 g1
    unfold Blk at g0 g1
    go_wp2_with (first
      | (refine wpList_load_row rfl 69 _ rfl q rfl 69 _ (0, 0) _ g0 Tryz.underlying69 rfl (by rw [sR1]; exact Tryz.infoF5) ?_)
      | (refine wpList_store_row rfl 69 _ _ rfl (w.heap.size + 1) _ rfl rfl 69 _ g1 (by rw [sR1]; exact Tryz.infoF5) (by rw [sR1]; rfl) (Ws_one _) ?_))
    have hE := hW33.over 1 rfl (Ws R1)
    refine bodyPost_ret (v := .tuple #[.agg (Ws R1), .bool true]) ?_ rfl ⟨by rw [← show _ = V from hV.out, if_pos h1.out], hE.below⟩
    exact results_cell_slot rfl _ _ (w.heap.size + 1) 69 _ (0, 0) _ (.bool true) rfl rfl (hE.get 1 rfl) Tryz.underlying69 rfl (by rw [sR1]; exact Tryz.infoF5)
  · refine wp_region_M (S := WD w (w.heap.size) [(q, Ws R1, 69), (w.heap.size + 1, #[.int .u64 0, .int .u64 0, .int .u64 0, .int .u64 0, .int .u64 0], 69), (w.heap.size, Ws a, 69)]) (ls := []) (by kernel_rfl) ?_
    have hW0 : WD w (w.heap.size) [(q, Ws R1, 69), (w.heap.size + 1, #[.int .u64 0, .int .u64 0, .int .u64 0, .int .u64 0, .int .u64 0], 69), (w.heap.size, Ws a, 69)] w4.drew := hW.drew
    clear hW
    generalize World.drew w4 = cd at hW0 ⊢
    refine wpAnyM_take (i := 0) (dst := some 8) (v := .agg (Ws R1)) rfl rfl (by kernel_rfl) (by kernel_rfl) (by kernel_rfl) (by kernel_rfl) (by kernel_rfl) (fun _ _ _ h => h) (Or.inl ⟨by rfl, ?hyc0⟩) hW0 ?rec0
    case hyc0 => exact fun wx hSx => exec_load_row 69 _ rfl (q) rfl 69 _ (0, 0) _ (hSx.get 0 rfl) Tryz.underlying69 rfl (by rw [sR1]; exact Tryz.infoF5)
    refine wpAnyM_take (i := 3) (dst := some 11) (v := .agg (Ws a)) rfl rfl (by kernel_rfl) (by kernel_rfl) (by kernel_rfl) (by kernel_rfl) (by kernel_rfl) (fun _ _ _ h => h) (Or.inl ⟨by rfl, ?hyc3⟩) hW0 ?rec3
    case hyc3 => exact fun wx hSx => exec_load_row 69 _ rfl (w.heap.size) rfl 69 _ (0, 0) _ (hSx.get 2 rfl) Tryz.underlying69 rfl (by rw [sa]; exact Tryz.infoF5)
    try simp only [Act.put, List.setIfInBounds_toArray, List.set_cons_zero, List.set_cons_succ]
    refine wpAnyM_one (i := 1) (by kernel_rfl) rfl (fun K hK => ?_)
    go_simp
    go_wp2_with (go_at_call 163; refine (H3.out _).mono ?_; rintro e cx0 ⟨rfl, k0⟩)
    have hW1 := hW0.keep k0
    refine hK.out _ _ hW1 ?_
    try simp only [Act.put, List.setIfInBounds_toArray, List.set_cons_zero, List.set_cons_succ]
    clear hK K k0 hW0
    refine wpAnyM_one (i := 2) (by kernel_rfl) rfl (fun K hK => ?_)
    go_simp
    go_wp2_with (go_at_call 125; refine (H4.out _).mono ?_; rintro e cx1 ⟨rfl, k0⟩)
    have hW2 := hW1.keep k0
    refine hK.out _ _ hW2 ?_
    try simp only [Act.put, List.setIfInBounds_toArray, List.set_cons_zero, List.set_cons_succ]
    clear hK K k0 hW1
    refine wpAnyM_one (i := 4) (by kernel_rfl) rfl (fun K hK => ?_)
    go_simp
    go_wp2_with (go_at_call 125; refine (H5.out _).mono ?_; rintro e cx2 ⟨rfl, k0⟩)
    have hW3 := hW2.keep k0
    refine hK.out _ _ hW3 ?_
    try simp only [Act.put, List.setIfInBounds_toArray, List.set_cons_zero, List.set_cons_succ]
    clear hK K k0 hW2
    have hq := F_equal_not hL1 hL0 h1
    refine wpAnyM_take (i := 5) (dst := some 13) (v := .bool true) rfl rfl (by kernel_rfl) (by kernel_rfl) (by kernel_rfl) (by kernel_rfl) (by kernel_rfl) (fun _ _ _ h => h) (Or.inl ⟨by rfl, ?hyc5⟩) hW3 ?rec5
    case hyc5 => (intro wx hSx; clear hSx; go_simp; try (with_reducible rfl))
    simp only [Act.put, List.setIfInBounds_toArray, List.set_cons_zero, List.set_cons_succ]
    refine wpAnyM_done (by kernel_rfl) ?_ _
    clear hq
    go_wp2_with fail
    refine wp_region_M (S := WD w (w.heap.size) [(q, Ws R1, 69), (w.heap.size + 1, #[.int .u64 0, .int .u64 0, .int .u64 0, .int .u64 0, .int .u64 0], 69), (w.heap.size, Ws a, 69)]) (ls := [3]) (by kernel_rfl) ?_
    have hW30 : WD w (w.heap.size) [(q, Ws R1, 69), (w.heap.size + 1, #[.int .u64 0, .int .u64 0, .int .u64 0, .int .u64 0, .int .u64 0], 69), (w.heap.size, Ws a, 69)] cx2.drew := hW3.drew
    clear hW3
    generalize World.drew cx2 = dd at hW30 ⊢
    refine wpAnyM_take (i := 0) (dst := some 14) (v := .agg (Ws R1)) rfl rfl (by kernel_rfl) (by kernel_rfl) (by kernel_rfl) (by kernel_rfl) (by kernel_rfl) (fun _ _ _ h => h) (Or.inl ⟨by rfl, ?hyd0⟩) hW30 ?red0
    case hyd0 => exact fun wx hSx => exec_load_row 69 _ rfl (q) rfl 69 _ (0, 0) _ (hSx.get 0 rfl) Tryz.underlying69 rfl (by rw [sR1]; exact Tryz.infoF5)
    try simp only [Act.put, List.setIfInBounds_toArray, List.set_cons_zero, List.set_cons_succ]
    refine wpAnyM_one (i := 1) (by kernel_rfl) rfl (fun K hK => ?_)
    go_simp
    go_wp2_with (go_at_call 249; refine (H9.out _).mono ?_; rintro e dx0 ⟨rfl, k0⟩)
    have hW31 := hW30.keep k0
    refine hK.out _ _ hW31 ?_
    try simp only [Act.put, List.setIfInBounds_toArray, List.set_cons_zero, List.set_cons_succ]
    clear hK K k0 hW30
    refine wpAnyM_one (i := 2) (by kernel_rfl) rfl (fun K hK => ?_)
    go_simp
    go_wp2_with (go_at_call 111; refine (H6.out _).mono ?_; rintro e dx1 ⟨rfl, k0⟩)
    have hW32 := hW31.keep k0
    refine hK.out _ _ hW32 ?_
    try simp only [Act.put, List.setIfInBounds_toArray, List.set_cons_zero, List.set_cons_succ]
    clear hK K k0 hW31
    refine wpAnyM_late (i := 3) (by kernel_rfl) rfl rfl (fun K hK => ?_)
    have hst := storeRow (l := R2) (hW32.get 0 rfl) (by rw [sR1, hR2])
    go_simp
    refine hK.out _ _ ?_
    clear hK K hst
    replace hW32 : WD w (w.heap.size) [(q, Ws R2, 69), (w.heap.size + 1, #[.int .u64 0, .int .u64 0, .int .u64 0, .int .u64 0, .int .u64 0], 69), (w.heap.size, Ws a, 69)] (dx1.setRow (q) (Ws R2)) := hW32.over 0 rfl (Ws R2)
    generalize dx1.setRow (q) (Ws R2) = dy0 at hW32 ⊢
    refine wpAnyM_done (by kernel_rfl) ?_ _
    go_wp2_with fail
    by_cases h2 : L2 = L0
    · replace h2 : Hid (L2 = L0) := h2
      refine wp_region_M (S := WD w (w.heap.size) [(q, Ws R2, 69), (w.heap.size + 1, #[.int .u64 0, .int .u64 0, .int .u64 0, .int .u64 0, .int .u64 0], 69), (w.heap.size, Ws a, 69)]) (ls := []) (by kernel_rfl) ?_
      have hW320 : WD w (w.heap.size) [(q, Ws R2, 69), (w.heap.size + 1, #[.int .u64 0, .int .u64 0, .int .u64 0, .int .u64 0, .int .u64 0], 69), (w.heap.size, Ws a, 69)] dy0.drew := hW32.drew
      clear hW32
      generalize World.drew dy0 = ed at hW320 ⊢
      refine wpAnyM_take (i := 0) (dst := some 17) (v := .agg (Ws R2)) rfl rfl (by kernel_rfl) (by kernel_rfl) (by kernel_rfl) (by kernel_rfl) (by kernel_rfl) (fun _ _ _ h => h) (Or.inl ⟨by rfl, ?hye0⟩) hW320 ?ree0
      case hye0 => exact fun wx hSx => exec_load_row 69 _ rfl (q) rfl 69 _ (0, 0) _ (hSx.get 0 rfl) Tryz.underlying69 rfl (by rw [sR2]; exact Tryz.infoF5)
      refine wpAnyM_take (i := 3) (dst := some 20) (v := .agg (Ws a)) rfl rfl (by kernel_rfl) (by kernel_rfl) (by kernel_rfl) (by kernel_rfl) (by kernel_rfl) (fun _ _ _ h => h) (Or.inl ⟨by rfl, ?hye3⟩) hW320 ?ree3
      case hye3 => exact fun wx hSx => exec_load_row 69 _ rfl (w.heap.size) rfl 69 _ (0, 0) _ (hSx.get 2 rfl) Tryz.underlying69 rfl (by rw [sa]; exact Tryz.infoF5)
      try simp only [Act.put, List.setIfInBounds_toArray, List.set_cons_zero, List.set_cons_succ]
      refine wpAnyM_one (i := 1) (by kernel_rfl) rfl (fun K hK => ?_)
      go_simp
      go_wp2_with (go_at_call 163; refine (H7.out _).mono ?_; rintro e ex0 ⟨rfl, k0⟩)
      have hW321 := hW320.keep k0
      refine hK.out _ _ hW321 ?_
      try simp only [Act.put, List.setIfInBounds_toArray, List.set_cons_zero, List.set_cons_succ]
      clear hK K k0 hW320
      refine wpAnyM_one (i := 2) (by kernel_rfl) rfl (fun K hK => ?_)
      go_simp
      go_wp2_with (go_at_call 125; refine (H8.out _).mono ?_; rintro e ex1 ⟨rfl, k0⟩)
      have hW322 := hW321.keep k0
      refine hK.out _ _ hW322 ?_
      try simp only [Act.put, List.setIfInBounds_toArray, List.set_cons_zero, List.set_cons_succ]
      clear hK K k0 hW321
      refine wpAnyM_one (i := 4) (by kernel_rfl) rfl (fun K hK => ?_)
      go_simp
      go_wp2_with (go_at_call 125; refine (H5.out _).mono ?_; rintro e ex2 ⟨rfl, k0⟩)
      have hW323 := hW322.keep k0
      refine hK.out _ _ hW323 ?_
      try simp only [Act.put, List.setIfInBounds_toArray, List.set_cons_zero, List.set_cons_succ]
      clear hK K k0 hW322
      have hq := F_equal_is hL2 hL0 h2.out
      refine wpAnyM_take (i := 5) (dst := some 22) (v := .bool false) rfl rfl (by kernel_rfl) (by kernel_rfl) (by kernel_rfl) (by kernel_rfl) (by kernel_rfl) (fun _ _ _ h => h) (Or.inl ⟨by rfl, ?hye5⟩) hW323 ?ree5
      case hye5 => (intro wx hSx; clear hSx; go_simp; try (with_reducible rfl))
      simp only [Act.put, List.setIfInBounds_toArray, List.set_cons_zero, List.set_cons_succ]
      refine wpAnyM_done (by kernel_rfl) ?_ _
      clear hq
      have g0 := hW323.get 0 rfl
      have g1 := hW323.get 1 rfl
      dsimp only at g0 g1
      unfold Blk at g0 g1
      go_wp2_with (first
        | (refine wpList_load_row rfl 69 _ rfl q rfl 69 _ (0, 0) _ g0 Tryz.underlying69 rfl (by rw [sR2]; exact Tryz.infoF5) ?_)
        | (refine wpList_store_row rfl 69 _ _ rfl (w.heap.size + 1) _ rfl rfl 69 _ g1 (by rw [sR2]; exact Tryz.infoF5) (by rw [sR2]; rfl) (Ws_one _) ?_))
      have hE := hW323.over 1 rfl (Ws R2)
      refine bodyPost_ret (v := .tuple #[.agg (Ws R2), .bool true]) ?_ rfl ⟨by rw [← show _ = V from hV.out, if_neg h1, if_pos h2.out], hE.below⟩
      exact results_cell_slot rfl _ _ (w.heap.size + 1) 69 _ (0, 0) _ (.bool true) rfl rfl (hE.get 1 rfl) Tryz.underlying69 rfl (by rw [sR2]; exact Tryz.infoF5)
    · refine wp_region_M (S := WD w (w.heap.size) [(q, Ws R2, 69), (w.heap.size + 1, #[.int .u64 0, .int .u64 0, .int .u64 0, .int .u64 0, .int .u64 0], 69), (w.heap.size, Ws a, 69)]) (ls := []) (by kernel_rfl) ?_
      have hW320 : WD w (w.heap.size) [(q, Ws R2, 69), (w.heap.size + 1, #[.int .u64 0, .int .u64 0, .int .u64 0, .int .u64 0, .int .u64 0], 69), (w.heap.size, Ws a, 69)] dy0.drew := hW32.drew
      clear hW32
      generalize World.drew dy0 = fd at hW320 ⊢
      refine wpAnyM_take (i := 0) (dst := some 17) (v := .agg (Ws R2)) rfl rfl (by kernel_rfl) (by kernel_rfl) (by kernel_rfl) (by kernel_rfl) (by kernel_rfl) (fun _ _ _ h => h) (Or.inl ⟨by rfl, ?hyf0⟩) hW320 ?ref0
      case hyf0 => exact fun wx hSx => exec_load_row 69 _ rfl (q) rfl 69 _ (0, 0) _ (hSx.get 0 rfl) Tryz.underlying69 rfl (by rw [sR2]; exact Tryz.infoF5)
      refine wpAnyM_take (i := 3) (dst := some 20) (v := .agg (Ws a)) rfl rfl (by kernel_rfl) (by kernel_rfl) (by kernel_rfl) (by kernel_rfl) (by kernel_rfl) (fun _ _ _ h => h) (Or.inl ⟨by rfl, ?hyf3⟩) hW320 ?ref3
      case hyf3 => exact fun wx hSx => exec_load_row 69 _ rfl (w.heap.size) rfl 69 _ (0, 0) _ (hSx.get 2 rfl) Tryz.underlying69 rfl (by rw [sa]; exact Tryz.infoF5)
      try simp only [Act.put, List.setIfInBounds_toArray, List.set_cons_zero, List.set_cons_succ]
      refine wpAnyM_one (i := 1) (by kernel_rfl) rfl (fun K hK => ?_)
      go_simp
      go_wp2_with (go_at_call 163; refine (H7.out _).mono ?_; rintro e fx0 ⟨rfl, k0⟩)
      have hW321 := hW320.keep k0
      refine hK.out _ _ hW321 ?_
      try simp only [Act.put, List.setIfInBounds_toArray, List.set_cons_zero, List.set_cons_succ]
      clear hK K k0 hW320
      refine wpAnyM_one (i := 2) (by kernel_rfl) rfl (fun K hK => ?_)
      go_simp
      go_wp2_with (go_at_call 125; refine (H8.out _).mono ?_; rintro e fx1 ⟨rfl, k0⟩)
      have hW322 := hW321.keep k0
      refine hK.out _ _ hW322 ?_
      try simp only [Act.put, List.setIfInBounds_toArray, List.set_cons_zero, List.set_cons_succ]
      clear hK K k0 hW321
      refine wpAnyM_one (i := 4) (by kernel_rfl) rfl (fun K hK => ?_)
      go_simp
      go_wp2_with (go_at_call 125; refine (H5.out _).mono ?_; rintro e fx2 ⟨rfl, k0⟩)
      have hW323 := hW322.keep k0
      refine hK.out _ _ hW323 ?_
      try simp only [Act.put, List.setIfInBounds_toArray, List.set_cons_zero, List.set_cons_succ]
      clear hK K k0 hW322
      have hq := F_equal_not hL2 hL0 h2
      refine wpAnyM_take (i := 5) (dst := some 22) (v := .bool true) rfl rfl (by kernel_rfl) (by kernel_rfl) (by kernel_rfl) (by kernel_rfl) (by kernel_rfl) (fun _ _ _ h => h) (Or.inl ⟨by rfl, ?hyf5⟩) hW323 ?ref5
      case hyf5 => (intro wx hSx; clear hSx; go_simp; try (with_reducible rfl))
      simp only [Act.put, List.setIfInBounds_toArray, List.set_cons_zero, List.set_cons_succ]
      refine wpAnyM_done (by kernel_rfl) ?_ _
      clear hq
      have g1 := hW323.get 1 rfl
      dsimp only at g1
      unfold Blk at g1
      go_wp2_with (first
        | (refine wpList_store_row rfl 69 _ _ rfl (w.heap.size + 1) #[.int .u64 0, .int .u64 0, .int .u64 0, .int .u64 0, .int .u64 0] rfl rfl 69 _ g1 Tryz.infoF5 rfl (Ws_one [0, 0, 0, 0, 0]) ?_))
      have hE := hW323.over 1 rfl #[.int .u64 0, .int .u64 0, .int .u64 0, .int .u64 0, .int .u64 0]
      refine bodyPost_ret (v := .tuple #[.agg (Ws [0, 0, 0, 0, 0]), .bool false]) ?_ rfl ⟨by rw [← show _ = V from hV.out, if_neg h1, if_neg h2], hE.below⟩
      exact results_cell_slot rfl _ _ (w.heap.size + 1) 69 _ (0, 0) _ (.bool false) rfl rfl (hE.get 1 rfl) Tryz.underlying69 rfl Tryz.infoF5

theorem F_root (a : List (BitVec 64)) (w : World) (ha : a.length = 5) :
    Calls Tryz.prog 228 #[.agg (Ws a)] w fun e w' => e = .returned (.tuple #[.agg (Ws (Ff.root a).1), .bool (Ff.root a).2]) ∧ Below w.heap.size w w' := by
  have lO : (Ff.ones a 251 251).length = 5 := Ff.ones_length a ha 251 251
  have l1 := Ff.root1_length a
  have lt := Ff.times_length (Ff.root1 a) Ff.im
  have hh := F_root' a w ha (Ff.ones a 251 251) (Ff.root1 a) (Ff.times (Ff.root1 a) Ff.im) (Ff.lowest a) (Ff.lowest (Ff.times (Ff.root1 a) (Ff.root1 a))) (Ff.lowest (Ff.times (Ff.times (Ff.root1 a) Ff.im) (Ff.times (Ff.root1 a) Ff.im))) (Ff.times (Ff.root1 a) (Ff.root1 a)) (Ff.times (Ff.times (Ff.root1 a) Ff.im) (Ff.times (Ff.root1 a) Ff.im))
    (fun wx => F_ones a ha 251 251 wx (by omega) (by omega) (by omega)) (fun wx => by unfold Ff.root1; exact F_square _ wx lO) l1 (fun wx => F_square _ wx l1) (fun wx => F_lowest _ wx (Ff.times_length _ _)) (fun wx => F_lowest a wx ha)
    (fun wx => F_times _ _ wx l1 rfl) lt (fun wx => F_square _ wx lt) (fun wx => F_lowest _ wx (Ff.times_length _ _)) (by rw [Ff.lowest_length, ha]) (by rw [Ff.lowest_length, Ff.times_length]) (by rw [Ff.lowest_length, Ff.times_length])
  have e : (if Ff.lowest (Ff.times (Ff.root1 a) (Ff.root1 a)) = Ff.lowest a then Value.tuple #[.agg (Ws (Ff.root1 a)), .bool true] else if Ff.lowest (Ff.times (Ff.times (Ff.root1 a) Ff.im) (Ff.times (Ff.root1 a) Ff.im)) = Ff.lowest a then .tuple #[.agg (Ws (Ff.times (Ff.root1 a) Ff.im)), .bool true] else .tuple #[.agg (Ws [0, 0, 0, 0, 0]), .bool false]) = .tuple #[.agg (Ws (Ff.root a).1), .bool (Ff.root a).2] := by
    unfold Ff.root Ff.root2
    generalize Ff.times (Ff.root1 a) Ff.im = R2
    generalize Ff.root1 a = R1
    by_cases h1 : Ff.lowest (Ff.times R1 R1) = Ff.lowest a
    · rw [if_pos h1, if_pos h1, if_pos h1]
    · rw [if_neg h1, if_neg h1]
      by_cases h2 : Ff.lowest (Ff.times R2 R2) = Ff.lowest a
      · rw [if_pos h2, if_pos h2]
      · rw [if_neg h2, if_neg h2]; unfold Ff.zero5; with_reducible rfl
  rw [e] at hh
  exact hh
end Go.Proofs.YtclpbaokadfhhaaGreatDoor

namespace Go.Proofs.YtclpbaokadfhhaaGreatDoor
open Go.RowKit

theorem bytes_ne {a b : ByteArray} (h : ¬ a = b) : (a.toList == b.toList) = false := by
  cases hc : a.toList == b.toList with
  | false => rfl
  | true =>
    have h1 : a.toList = b.toList := eq_of_beq hc
    rw [ByteArray.toList_eq, ByteArray.toList_eq] at h1
    exact absurd (ByteArray.ext (Array.toList_inj.mp h1)) h

set_option maxRecDepth 100000 in
set_option maxHeartbeats 20000000 in
theorem C_of' (s : ByteArray) (Y YY ON M1 FA FY FP IV XX RT NG : List (BitVec 64)) (found : Bool) (lb hb s31 : UInt8) (T1 T2 : ByteArray) (V : Value) (w : World)
    (hix : ∀ wx : World, (Instr.index 9 (.string s) (.int .i64 31)).run Tryz.prog wx = .ok (.int .u8 (s31.toNat : Int)) wx) (hsh : (s31.toNat : Int) / 128 = (hb.toNat : Int))
    (H1 : Hid (∀ wx : World, Calls Tryz.prog 57 #[.string s] wx fun e w' => e = .returned (.agg (Ws Y)) ∧ Below wx.heap.size wx w'))
    (H2 : Hid (∀ wx : World, Calls Tryz.prog 163 #[.agg (Ws Y)] wx fun e w' => e = .returned (.agg (Ws YY)) ∧ Below wx.heap.size wx w'))
    (H3 : Hid (∀ wx : World, Calls Tryz.prog 173 #[] wx fun e w' => e = .returned (.agg (Ws ON)) ∧ Below wx.heap.size wx w'))
    (H4 : Hid (∀ wx : World, Calls Tryz.prog 162 #[.agg (Ws YY), .agg (Ws ON)] wx fun e w' => e = .returned (.agg (Ws M1)) ∧ Below wx.heap.size wx w'))
    (H5 : Hid (∀ wx : World, Calls Tryz.prog 213 #[] wx fun e w' => e = .returned (.agg (Ws FA)) ∧ Below wx.heap.size wx w'))
    (H6 : Hid (∀ wx : World, Calls Tryz.prog 111 #[.agg (Ws FA), .agg (Ws YY)] wx fun e w' => e = .returned (.agg (Ws FY)) ∧ Below wx.heap.size wx w'))
    (H7 : Hid (∀ wx : World, Calls Tryz.prog 161 #[.agg (Ws FY), .agg (Ws ON)] wx fun e w' => e = .returned (.agg (Ws FP)) ∧ Below wx.heap.size wx w'))
    (H8 : Hid (∀ wx : World, Calls Tryz.prog 112 #[.agg (Ws FP)] wx fun e w' => e = .returned (.agg (Ws IV)) ∧ Below wx.heap.size wx w'))
    (H9 : Hid (∀ wx : World, Calls Tryz.prog 111 #[.agg (Ws M1), .agg (Ws IV)] wx fun e w' => e = .returned (.agg (Ws XX)) ∧ Below wx.heap.size wx w'))
    (J1 : Hid (∀ wx : World, Calls Tryz.prog 228 #[.agg (Ws XX)] wx fun e w' => e = .returned (.tuple #[.agg (Ws RT), .bool found]) ∧ Below wx.heap.size wx w'))
    (J2 : Hid (∀ wx : World, Calls Tryz.prog 177 #[.agg (Ws RT)] wx fun e w' => e = .returned (.int .u8 (lb.toNat : Int)) ∧ Below wx.heap.size wx w'))
    (J3 : Hid (∀ wx : World, Calls Tryz.prog 229 #[.agg (Ws RT)] wx fun e w' => e = .returned (.agg (Ws NG)) ∧ Below wx.heap.size wx w'))
    (J4 : Hid (∀ wx : World, Calls Tryz.prog 117 #[.agg (Ws (pt RT Y ON))] wx fun e w' => e = .returned (.string T1) ∧ Below wx.heap.size wx w'))
    (J5 : Hid (∀ wx : World, Calls Tryz.prog 117 #[.agg (Ws (pt NG Y ON))] wx fun e w' => e = .returned (.string T2) ∧ Below wx.heap.size wx w'))
    (hY : Y.length = 5) (hYY : YY.length = 5) (hON : ON.length = 5) (hXX : XX.length = 5) (hRT : RT.length = 5) (hNG : NG.length = 5)
    (v0 : Hid (found = false → V = .tuple #[.agg (Ws Z15), .bool false])) (v1 : Hid (found = true → lb = hb → T1 = s → V = .tuple #[.agg (Ws (pt RT Y ON)), .bool true])) (v2 : Hid (found = true → lb = hb → ¬ T1 = s → V = .tuple #[.agg (Ws Z15), .bool false]))
    (v3 : Hid (found = true → ¬ lb = hb → T2 = s → V = .tuple #[.agg (Ws (pt NG Y ON)), .bool true])) (v4 : Hid (found = true → ¬ lb = hb → ¬ T2 = s → V = .tuple #[.agg (Ws Z15), .bool false])) :
    Calls Tryz.prog 188 #[.string s] w fun e w' => e = .returned V ∧ Below w.heap.size w w' := by
  have hz := zero15
  have hbn := build15_none
  have sZ := Z15_len
  have B1 : Hid (∀ wx : World, (Instr.build 122 #[(0, .agg (Ws RT)), (1, .agg (Ws Y)), (2, .agg (Ws ON))]).run Tryz.prog wx = .ok (.agg (Ws (pt RT Y ON))) wx) := build15 RT Y ON hRT hY hON
  have B2 : Hid (∀ wx : World, (Instr.build 122 #[(0, .agg (Ws NG)), (1, .agg (Ws Y)), (2, .agg (Ws ON))]).run Tryz.prog wx = .ok (.agg (Ws (pt NG Y ON))) wx) := build15 NG Y ON hNG hY hON
  have lP1 : (pt RT Y ON).length = 15 := pt_length hRT hY hON
  have lP2 : (pt NG Y ON).length = 15 := pt_length hNG hY hON
  generalize pt RT Y ON = P1 at B1 lP1 J4 v1
  generalize pt NG Y ON = P2 at B2 lP2 J5 v3
  generalize Z15 = ZO at hz sZ hbn v0 v2 v4
  have sZ' : (Ws ZO).size = 15 := by rw [Ws_size, sZ]
  have sP1 : (Ws P1).size = 15 := by rw [Ws_size, lP1]
  have sP2 : (Ws P2).size = 15 := by rw [Ws_size, lP2]
  have sY : (Ws Y).size = 5 := by rw [Ws_size, hY]
  have sYY : (Ws YY).size = 5 := by rw [Ws_size, hYY]
  have sXX : (Ws XX).size = 5 := by rw [Ws_size, hXX]
  have sRT : (Ws RT).size = 5 := by rw [Ws_size, hRT]
  have sNG : (Ws NG).size = 5 := by rw [Ws_size, hNG]
  replace hbn : Hid (∀ wx : World, (Instr.build 122 #[]).run Tryz.prog wx = .ok (.agg (Ws ZO)) wx) := hbn
  have hW : WD w w.heap.size [(w.heap.size, Ws ZO, 122)] (w.alloc (.cells (Ws ZO) 122)) := (WD.start (w := w)).new (Ws ZO) 122
  go_enter Tryz.func188, Tryz.ntmps188
  go_wp2_with fail
  generalize w.alloc (.cells (Ws ZO) 122) = w1 at hW ⊢
  refine (H1.out _).mono ?_
  rintro e w2 ⟨rfl, k2⟩
  replace hW := hW.keep k2
  clear k2
  have hN := hW.new #[.int .u64 0, .int .u64 0, .int .u64 0, .int .u64 0, .int .u64 0] 69
  have gz := hN.get 0 rfl
  dsimp only at gz
  unfold Blk at gz
  replace hW : WD w w.heap.size [(w2.heap.size, Ws Y, 69), (w.heap.size, Ws ZO, 122)] ((w2.alloc (.cells #[.int .u64 0, .int .u64 0, .int .u64 0, .int .u64 0, .int .u64 0] 69)).setRow w2.heap.size (Ws Y)) := hN.over 0 rfl (Ws Y)
  have g0 := hW.get 0 rfl
  dsimp only at g0
  unfold Blk at g0
  go_wp2_with (first
    | (refine wpList_store_row rfl 69 _ _ rfl w2.heap.size _ rfl rfl 69 _ gz (by rw [sY]; exact Tryz.infoF5) (by rw [sY]; rfl) (Ws_one _) ?_)
    | (refine wpList_load_row rfl 69 _ rfl w2.heap.size rfl 69 _ (0, 0) _ g0 Tryz.underlying69 rfl (by rw [sY]; exact Tryz.infoF5) ?_))
  clear hN gz g0
  generalize (w2.alloc (.cells #[.int .u64 0, .int .u64 0, .int .u64 0, .int .u64 0, .int .u64 0] 69)).setRow w2.heap.size (Ws Y) = w3 at hW ⊢
  generalize w2.heap.size = q4 at hW ⊢
  refine (H2.out _).mono ?_
  rintro e w4 ⟨rfl, k4⟩
  replace hW := hW.keep k4
  clear k4
  have hN := hW.new #[.int .u64 0, .int .u64 0, .int .u64 0, .int .u64 0, .int .u64 0] 69
  have gz := hN.get 0 rfl
  dsimp only at gz
  unfold Blk at gz
  go_wp2_with (first
    | (refine wpList_store_row rfl 69 _ _ rfl w4.heap.size _ rfl rfl 69 _ gz (by rw [sYY]; exact Tryz.infoF5) (by rw [sYY]; rfl) (Ws_one _) ?_))
  replace hW : WD w w.heap.size [(w4.heap.size, Ws YY, 69), (q4, Ws Y, 69), (w.heap.size, Ws ZO, 122)] ((w4.alloc (.cells #[.int .u64 0, .int .u64 0, .int .u64 0, .int .u64 0, .int .u64 0] 69)).setRow w4.heap.size (Ws YY)) := hN.over 0 rfl (Ws YY)
  clear hN gz
  generalize (w4.alloc (.cells #[.int .u64 0, .int .u64 0, .int .u64 0, .int .u64 0, .int .u64 0] 69)).setRow w4.heap.size (Ws YY) = w5 at hW ⊢
  generalize w4.heap.size = q5 at hW ⊢
  refine wp_region_M (S := WD w (w.heap.size) [(q5, Ws YY, 69), (q4, Ws Y, 69), (w.heap.size, Ws ZO, 122)]) (ls := [11]) (by kernel_rfl) ?_
  have hW0 : WD w (w.heap.size) [(q5, Ws YY, 69), (q4, Ws Y, 69), (w.heap.size, Ws ZO, 122)] w5.drew := hW.drew
  clear hW
  generalize World.drew w5 = cd at hW0 ⊢
  refine wpAnyM_take (i := 0) (dst := some 14) (v := .agg (Ws YY)) rfl rfl (by kernel_rfl) (by kernel_rfl) (by kernel_rfl) (by kernel_rfl) (by kernel_rfl) (fun _ _ _ h => h) (Or.inl ⟨by rfl, ?hyc0⟩) hW0 ?rec0
  case hyc0 => exact fun wx hSx => exec_load_row 69 _ rfl (q5) rfl 69 _ (0, 0) _ (hSx.get 0 rfl) Tryz.underlying69 rfl (by rw [sYY]; exact Tryz.infoF5)
  refine wpAnyM_take (i := 4) (dst := some 18) (v := .agg (Ws YY)) rfl rfl (by kernel_rfl) (by kernel_rfl) (by kernel_rfl) (by kernel_rfl) (by kernel_rfl) (fun _ _ _ h => h) (Or.inl ⟨by rfl, ?hyc4⟩) hW0 ?rec4
  case hyc4 => exact fun wx hSx => exec_load_row 69 _ rfl (q5) rfl 69 _ (0, 0) _ (hSx.get 0 rfl) Tryz.underlying69 rfl (by rw [sYY]; exact Tryz.infoF5)
  try simp only [Act.put, List.setIfInBounds_toArray, List.set_cons_zero, List.set_cons_succ]
  change wpAnyM _ _ _ _ _ _ 10 #[true, false, false, false, true, false, false, false, false, false, false, false] _ _
  refine wpAnyM_phaseU2 (R := fun d u w' => (d 1 = true → u 15 = .agg (Ws ON)) ∧ (d 2 = true → u 16 = .agg (Ws M1)) ∧ (d 3 = true → u 17 = .agg (Ws FA)) ∧ (d 5 = true → u 19 = .agg (Ws FY)) ∧ (d 6 = true → u 20 = .agg (Ws ON)) ∧ (d 7 = true → u 21 = .agg (Ws FP)) ∧ (d 8 = true → u 22 = .agg (Ws IV)) ∧ (d 9 = true → u 23 = .agg (Ws XX)) ∧ (d 10 = true → Fresh w (w.heap.size) [(q5, Ws YY, 69), (q4, Ws Y, 69), (w.heap.size, Ws ZO, 122)] #[.int .u64 0, .int .u64 0, .int .u64 0, .int .u64 0, .int .u64 0] 69 (u 6) w') ∧ WD w (w.heap.size) [(q5, Ws YY, 69), (q4, Ws Y, 69), (w.heap.size, Ws ZO, 122)] w') [15, 16, 17, 19, 20, 21, 22, 23, 6] [1, 2, 3, 5, 6, 7, 8, 9, 10] #[true, true, true, true, true, true, true, true, true, true, true, false] (by kernel_rfl) (by kernel_rfl) (by kernel_rfl) ⟨fun h => Bool.noConfusion h, fun h => Bool.noConfusion h, fun h => Bool.noConfusion h, fun h => Bool.noConfusion h, fun h => Bool.noConfusion h, fun h => Bool.noConfusion h, fun h => Bool.noConfusion h, fun h => Bool.noConfusion h, fun h => Bool.noConfusion h, hW0⟩ ?stepsc ?finc
  case stepsc =>
    refine StepsU.cons rfl ?sc1 (StepsU.cons rfl ?sc2 (StepsU.cons rfl ?sc3 (StepsU.cons rfl ?sc5 (StepsU.cons rfl ?sc6 (StepsU.cons rfl ?sc7 (StepsU.cons rfl ?sc8 (StepsU.cons rfl ?sc9 (StepsU.cons rfl ?sc10 StepsU.nil))))))))
    case sc1 =>
      rintro d u wx ⟨h1, h2, h3, h5, h6, h7, h8, h9, h10, hX⟩ hd K hK
      simp only [layS, List.foldl, Act.put, List.setIfInBounds_toArray, List.set_cons_zero, List.set_cons_succ]
      go_simp
      go_wp2_with (go_at_call 173; refine (H3.out _).mono ?_; rintro e x0 ⟨rfl, k0⟩)
      refine hK.out (upV u 15 (.agg (Ws ON))) _ (hX.keep k0) ⟨fun _ => rfl, fun h => h2 h, fun h => h3 h, fun h => h5 h, fun h => h6 h, fun h => h7 h, fun h => h8 h, fun h => h9 h, fun h => (h10 h).keep k0, hX.keep k0⟩ _ ?_
      simp only [layS, List.foldl, Act.put, List.setIfInBounds_toArray, List.set_cons_zero, List.set_cons_succ, upV, reduceIte, Nat.reduceEqDiff]
    case sc2 =>
      rintro d u wx ⟨h1, h2, h3, h5, h6, h7, h8, h9, h10, hX⟩ hd K hK
      have e1 := h1 (hd 1 (by kernel_rfl))
      simp only [layS, List.foldl, Act.put, List.setIfInBounds_toArray, List.set_cons_zero, List.set_cons_succ, e1]
      go_simp
      go_wp2_with (go_at_call 162; refine (H4.out _).mono ?_; rintro e x0 ⟨rfl, k0⟩)
      refine hK.out (upV u 16 (.agg (Ws M1))) _ (hX.keep k0) ⟨fun h => h1 h, fun _ => rfl, fun h => h3 h, fun h => h5 h, fun h => h6 h, fun h => h7 h, fun h => h8 h, fun h => h9 h, fun h => (h10 h).keep k0, hX.keep k0⟩ _ ?_
      simp only [layS, List.foldl, Act.put, List.setIfInBounds_toArray, List.set_cons_zero, List.set_cons_succ, upV, reduceIte, Nat.reduceEqDiff, e1]
    case sc3 =>
      rintro d u wx ⟨h1, h2, h3, h5, h6, h7, h8, h9, h10, hX⟩ hd K hK
      simp only [layS, List.foldl, Act.put, List.setIfInBounds_toArray, List.set_cons_zero, List.set_cons_succ]
      go_simp
      go_wp2_with (go_at_call 213; refine (H5.out _).mono ?_; rintro e x0 ⟨rfl, k0⟩)
      refine hK.out (upV u 17 (.agg (Ws FA))) _ (hX.keep k0) ⟨fun h => h1 h, fun h => h2 h, fun _ => rfl, fun h => h5 h, fun h => h6 h, fun h => h7 h, fun h => h8 h, fun h => h9 h, fun h => (h10 h).keep k0, hX.keep k0⟩ _ ?_
      simp only [layS, List.foldl, Act.put, List.setIfInBounds_toArray, List.set_cons_zero, List.set_cons_succ, upV, reduceIte, Nat.reduceEqDiff]
    case sc5 =>
      rintro d u wx ⟨h1, h2, h3, h5, h6, h7, h8, h9, h10, hX⟩ hd K hK
      have e3 := h3 (hd 3 (by kernel_rfl))
      simp only [layS, List.foldl, Act.put, List.setIfInBounds_toArray, List.set_cons_zero, List.set_cons_succ, e3]
      go_simp
      go_wp2_with (go_at_call 111; refine (H6.out _).mono ?_; rintro e x0 ⟨rfl, k0⟩)
      refine hK.out (upV u 19 (.agg (Ws FY))) _ (hX.keep k0) ⟨fun h => h1 h, fun h => h2 h, fun h => h3 h, fun _ => rfl, fun h => h6 h, fun h => h7 h, fun h => h8 h, fun h => h9 h, fun h => (h10 h).keep k0, hX.keep k0⟩ _ ?_
      simp only [layS, List.foldl, Act.put, List.setIfInBounds_toArray, List.set_cons_zero, List.set_cons_succ, upV, reduceIte, Nat.reduceEqDiff, e3]
    case sc6 =>
      rintro d u wx ⟨h1, h2, h3, h5, h6, h7, h8, h9, h10, hX⟩ hd K hK
      simp only [layS, List.foldl, Act.put, List.setIfInBounds_toArray, List.set_cons_zero, List.set_cons_succ]
      go_simp
      go_wp2_with (go_at_call 173; refine (H3.out _).mono ?_; rintro e x0 ⟨rfl, k0⟩)
      refine hK.out (upV u 20 (.agg (Ws ON))) _ (hX.keep k0) ⟨fun h => h1 h, fun h => h2 h, fun h => h3 h, fun h => h5 h, fun _ => rfl, fun h => h7 h, fun h => h8 h, fun h => h9 h, fun h => (h10 h).keep k0, hX.keep k0⟩ _ ?_
      simp only [layS, List.foldl, Act.put, List.setIfInBounds_toArray, List.set_cons_zero, List.set_cons_succ, upV, reduceIte, Nat.reduceEqDiff]
    case sc7 =>
      rintro d u wx ⟨h1, h2, h3, h5, h6, h7, h8, h9, h10, hX⟩ hd K hK
      have e5 := h5 (hd 5 (by kernel_rfl))
      have e6 := h6 (hd 6 (by kernel_rfl))
      simp only [layS, List.foldl, Act.put, List.setIfInBounds_toArray, List.set_cons_zero, List.set_cons_succ, e5, e6]
      go_simp
      go_wp2_with (go_at_call 161; refine (H7.out _).mono ?_; rintro e x0 ⟨rfl, k0⟩)
      refine hK.out (upV u 21 (.agg (Ws FP))) _ (hX.keep k0) ⟨fun h => h1 h, fun h => h2 h, fun h => h3 h, fun h => h5 h, fun h => h6 h, fun _ => rfl, fun h => h8 h, fun h => h9 h, fun h => (h10 h).keep k0, hX.keep k0⟩ _ ?_
      simp only [layS, List.foldl, Act.put, List.setIfInBounds_toArray, List.set_cons_zero, List.set_cons_succ, upV, reduceIte, Nat.reduceEqDiff, e5, e6]
    case sc8 =>
      rintro d u wx ⟨h1, h2, h3, h5, h6, h7, h8, h9, h10, hX⟩ hd K hK
      have e7 := h7 (hd 7 (by kernel_rfl))
      simp only [layS, List.foldl, Act.put, List.setIfInBounds_toArray, List.set_cons_zero, List.set_cons_succ, e7]
      go_simp
      go_wp2_with (go_at_call 112; refine (H8.out _).mono ?_; rintro e x0 ⟨rfl, k0⟩)
      refine hK.out (upV u 22 (.agg (Ws IV))) _ (hX.keep k0) ⟨fun h => h1 h, fun h => h2 h, fun h => h3 h, fun h => h5 h, fun h => h6 h, fun h => h7 h, fun _ => rfl, fun h => h9 h, fun h => (h10 h).keep k0, hX.keep k0⟩ _ ?_
      simp only [layS, List.foldl, Act.put, List.setIfInBounds_toArray, List.set_cons_zero, List.set_cons_succ, upV, reduceIte, Nat.reduceEqDiff, e7]
    case sc9 =>
      rintro d u wx ⟨h1, h2, h3, h5, h6, h7, h8, h9, h10, hX⟩ hd K hK
      have e2 := h2 (hd 2 (by kernel_rfl))
      have e8 := h8 (hd 8 (by kernel_rfl))
      simp only [layS, List.foldl, Act.put, List.setIfInBounds_toArray, List.set_cons_zero, List.set_cons_succ, e2, e8]
      go_simp
      go_wp2_with (go_at_call 111; refine (H9.out _).mono ?_; rintro e x0 ⟨rfl, k0⟩)
      refine hK.out (upV u 23 (.agg (Ws XX))) _ (hX.keep k0) ⟨fun h => h1 h, fun h => h2 h, fun h => h3 h, fun h => h5 h, fun h => h6 h, fun h => h7 h, fun h => h8 h, fun _ => rfl, fun h => (h10 h).keep k0, hX.keep k0⟩ _ ?_
      simp only [layS, List.foldl, Act.put, List.setIfInBounds_toArray, List.set_cons_zero, List.set_cons_succ, upV, reduceIte, Nat.reduceEqDiff, e2, e8]
    case sc10 =>
      rintro d u wx ⟨h1, h2, h3, h5, h6, h7, h8, h9, h10, hX⟩ hd K hK
      simp only [layS, List.foldl, Act.put, List.setIfInBounds_toArray, List.set_cons_zero, List.set_cons_succ]
      go_simp
      refine hK.out (upV u 6 (.pointer (some ⟨wx.heap.size, 0, none⟩))) _ (hX.alloc _) ⟨fun h => h1 h, fun h => h2 h, fun h => h3 h, fun h => h5 h, fun h => h6 h, fun h => h7 h, fun h => h8 h, fun h => h9 h, fun _ => FreshD hX _ _, hX.alloc _⟩ _ ?_
      simp only [layS, List.foldl, Act.put, List.setIfInBounds_toArray, List.set_cons_zero, List.set_cons_succ, upV, reduceIte, Nat.reduceEqDiff]
  case finc =>
    rintro n' d u cx ⟨h1, h2, h3, h5, h6, h7, h8, h9, h10, hX⟩ hd
    have e15 := h1 (hd 1 rfl)
    have e16 := h2 (hd 2 rfl)
    have e17 := h3 (hd 3 rfl)
    have e19 := h5 (hd 5 rfl)
    have e20 := h6 (hd 6 rfl)
    have e21 := h7 (hd 7 rfl)
    have e22 := h8 (hd 8 rfl)
    have e23 := h9 (hd 9 rfl)
    obtain ⟨q6, e6, bq6, lq6, mq6⟩ := h10 (hd 10 rfl)
    simp only [layS, List.foldl, Act.put, List.setIfInBounds_toArray, List.set_cons_zero, List.set_cons_succ, e15, e16, e17, e19, e20, e21, e22, e23, e6]
    clear hd h1 h2 h3 h5 h6 h7 h8 h9 h10 e15 e16 e17 e19 e20 e21 e22 e23 e6
    change wpAnyM _ _ _ _ _ _ (n' + 1) _ _ _
    replace hX := hX.push bq6 mq6 (fun x hx => Nat.ne_of_lt (lq6 x hx))
    clear bq6 lq6 mq6
    refine wpAnyM_late (i := 11) (by kernel_rfl) rfl rfl (fun K hK => ?_)
    have hst := storeRow (l := XX) (hX.get 0 rfl) (by rw [hXX]; rfl)
    go_simp
    refine hK.out _ _ ?_
    clear hK K hst
    replace hX : WD w (w.heap.size) [(q6, Ws XX, 69), (q5, Ws YY, 69), (q4, Ws Y, 69), (w.heap.size, Ws ZO, 122)] (cx.setRow (q6) (Ws XX)) := hX.over 0 rfl (Ws XX)
    generalize cx.setRow (q6) (Ws XX) = cy0 at hX ⊢
    refine wpAnyM_done (by kernel_rfl) ?_ _
    have g0 := hX.get 0 rfl
    dsimp only at g0
    unfold Blk at g0
    go_wp2_with (first
      | (refine wpList_load_row rfl 69 _ rfl q6 rfl 69 _ (0, 0) _ g0 Tryz.underlying69 rfl (by rw [sXX]; exact Tryz.infoF5) ?_))
    clear g0
    refine (J1.out _).mono ?_
    rintro e w6 ⟨rfl, k6⟩
    replace hX := hX.keep k6
    clear k6 H1 H2 H4 H5 H6 H7 H8 H9
    have hN := hX.new #[.int .u64 0, .int .u64 0, .int .u64 0, .int .u64 0, .int .u64 0] 69
    have gz := hN.get 0 rfl
    dsimp only at gz
    unfold Blk at gz
    cases found with
    | false =>
      have hX7 : WD w (w.heap.size) [(w6.heap.size, Ws RT, 69), (q6, Ws XX, 69), (q5, Ws YY, 69), (q4, Ws Y, 69), (w.heap.size, Ws ZO, 122)] ((w6.alloc (.cells #[.int .u64 0, .int .u64 0, .int .u64 0, .int .u64 0, .int .u64 0] 69)).setRow w6.heap.size (Ws RT)) := hN.over 0 rfl (Ws RT)
      have g0 := hX7.get 4 rfl
      dsimp only at g0
      unfold Blk at g0
      go_wp2_with (first
        | (refine wpList_store_row rfl 69 _ _ rfl w6.heap.size _ rfl rfl 69 _ gz (by rw [sRT]; exact Tryz.infoF5) (by rw [sRT]; rfl) (Ws_one _) ?_)
        | (refine wpList_made rfl 122 _ rfl [] rfl _ (hbn.out _) ?_)
        | (refine wpList_store_row rfl 122 _ _ rfl w.heap.size _ rfl rfl 122 _ g0 (by rw [sZ']; exact Tryz.infoP15) rfl (Ws_one _) ?_))
      have hE := hX7.over 4 rfl (Ws ZO)
      refine bodyPost_ret (v := .tuple #[.agg (Ws ZO), .bool false]) ?_ rfl ⟨by rw [v0.out trivial], hE.below⟩
      exact results_cell_slot rfl _ _ w.heap.size 122 _ (0, 0) _ (.bool false) rfl rfl (hE.get 4 rfl) Tryz.underlying122 rfl (by rw [sZ']; exact Tryz.infoP15)
    | true =>
      go_wp2_with (first
        | (refine wpList_store_row rfl 69 _ _ rfl w6.heap.size _ rfl rfl 69 _ gz (by rw [sRT]; exact Tryz.infoF5) (by rw [sRT]; rfl) (Ws_one _) ?_))
      replace hX : WD w (w.heap.size) [(w6.heap.size, Ws RT, 69), (q6, Ws XX, 69), (q5, Ws YY, 69), (q4, Ws Y, 69), (w.heap.size, Ws ZO, 122)] ((w6.alloc (.cells #[.int .u64 0, .int .u64 0, .int .u64 0, .int .u64 0, .int .u64 0] 69)).setRow w6.heap.size (Ws RT)) := hN.over 0 rfl (Ws RT)
      clear hN gz
      generalize (w6.alloc (.cells #[.int .u64 0, .int .u64 0, .int .u64 0, .int .u64 0, .int .u64 0] 69)).setRow w6.heap.size (Ws RT) = w7 at hX ⊢
      generalize w6.heap.size = q7 at hX ⊢
      by_cases hl : lb = hb
      · have hl' : Hid (lb = hb) := hl
        clear hl
        refine wp_region_M (S := WD w (w.heap.size) [(q7, Ws RT, 69), (q6, Ws XX, 69), (q5, Ws YY, 69), (q4, Ws Y, 69), (w.heap.size, Ws ZO, 122)]) (ls := []) (by kernel_rfl) ?_
        have hX0 : WD w (w.heap.size) [(q7, Ws RT, 69), (q6, Ws XX, 69), (q5, Ws YY, 69), (q4, Ws Y, 69), (w.heap.size, Ws ZO, 122)] w7.drew := hX.drew
        clear hX
        generalize World.drew w7 = ed at hX0 ⊢
        refine wpAnyM_take (i := 0) (dst := some 32) (v := .agg (Ws RT)) rfl rfl (by kernel_rfl) (by kernel_rfl) (by kernel_rfl) (by kernel_rfl) (by kernel_rfl) (fun _ _ _ h => h) (Or.inl ⟨by rfl, ?hye0⟩) hX0 ?ree0
        case hye0 => exact fun wx hSx => exec_load_row 69 _ rfl (q7) rfl 69 _ (0, 0) _ (hSx.get 0 rfl) Tryz.underlying69 rfl (by rw [sRT]; exact Tryz.infoF5)
        refine wpAnyM_take (i := 2) (dst := some 34) (v := ?ve2) rfl rfl (by kernel_rfl) (by kernel_rfl) (by kernel_rfl) (by kernel_rfl) (by kernel_rfl) (fun _ _ _ h => h) (Or.inl ⟨by rfl, ?hye2⟩) hX0 ?ree2
        case hye2 => (intro wx hSx; clear hSx; go_simp; try (with_reducible rfl))
        refine wpAnyM_take (i := 3) (dst := some 35) (v := .int .u8 (s31.toNat : Int)) rfl rfl (by kernel_rfl) (by kernel_rfl) (by kernel_rfl) (by kernel_rfl) (by kernel_rfl) (fun _ _ _ h => h) (Or.inl ⟨by rfl, ?hye3⟩) hX0 ?ree3
        case hye3 => exact fun wx _ => by go_simp; try (with_reducible rfl)
        simp only [Act.put, List.setIfInBounds_toArray, List.set_cons_zero, List.set_cons_succ]
        refine wpAnyM_take (i := 4) (dst := some 36) (v := .int .u8 (hb.toNat : Int)) rfl rfl (by kernel_rfl) (by kernel_rfl) (by kernel_rfl) (by kernel_rfl) (by kernel_rfl) (fun _ _ _ h => h) (Or.inl ⟨by rfl, ?hye4⟩) hX0 ?ree4
        case hye4 => exact fun wx _ => by go_simp; try (with_reducible rfl)
        try simp only [Act.put, List.setIfInBounds_toArray, List.set_cons_zero, List.set_cons_succ]
        refine wpAnyM_one (i := 1) (by kernel_rfl) rfl (fun K hK => ?_)
        go_simp
        go_wp2_with (go_at_call 177; refine (J2.out _).mono ?_; rintro e ex0 ⟨rfl, k0⟩)
        have hX1 := hX0.keep k0
        refine hK.out _ _ hX1 ?_
        try simp only [Act.put, List.setIfInBounds_toArray, List.set_cons_zero, List.set_cons_succ]
        clear hK K k0 hX0
        have hl := hl'.out
        rw [hl]
        refine wpAnyM_take (i := 5) (dst := some 37) (v := .bool false) rfl rfl (by kernel_rfl) (by kernel_rfl) (by kernel_rfl) (by kernel_rfl) (by kernel_rfl) (fun _ _ _ h => h) (Or.inl ⟨by rfl, ?hye5⟩) hX1 ?ree5
        case hye5 => (intro wx hSx; clear hSx; go_simp; try (with_reducible rfl))
        simp only [Act.put, List.setIfInBounds_toArray, List.set_cons_zero, List.set_cons_succ]
        refine wpAnyM_done (by kernel_rfl) ?_ _
        clear hl
        go_wp2_with fail
        refine wp_region_M (S := WD w (w.heap.size) [(q7, Ws RT, 69), (q6, Ws XX, 69), (q5, Ws YY, 69), (q4, Ws Y, 69), (w.heap.size, Ws ZO, 122)]) (ls := [5]) (by kernel_rfl) ?_
        have hX10 : WD w (w.heap.size) [(q7, Ws RT, 69), (q6, Ws XX, 69), (q5, Ws YY, 69), (q4, Ws Y, 69), (w.heap.size, Ws ZO, 122)] ex0.drew := hX1.drew
        clear hX1
        generalize World.drew ex0 = gd at hX10 ⊢
        refine wpAnyM_take (i := 0) (dst := some 40) (v := .agg (Ws RT)) rfl rfl (by kernel_rfl) (by kernel_rfl) (by kernel_rfl) (by kernel_rfl) (by kernel_rfl) (fun _ _ _ h => h) (Or.inl ⟨by rfl, ?hyg0⟩) hX10 ?reg0
        case hyg0 => exact fun wx hSx => exec_load_row 69 _ rfl (q7) rfl 69 _ (0, 0) _ (hSx.get 0 rfl) Tryz.underlying69 rfl (by rw [sRT]; exact Tryz.infoF5)
        refine wpAnyM_take (i := 1) (dst := some 41) (v := .agg (Ws Y)) rfl rfl (by kernel_rfl) (by kernel_rfl) (by kernel_rfl) (by kernel_rfl) (by kernel_rfl) (fun _ _ _ h => h) (Or.inl ⟨by rfl, ?hyg1⟩) hX10 ?reg1
        case hyg1 => exact fun wx hSx => exec_load_row 69 _ rfl (q4) rfl 69 _ (0, 0) _ (hSx.get 3 rfl) Tryz.underlying69 rfl (by rw [sY]; exact Tryz.infoF5)
        try simp only [Act.put, List.setIfInBounds_toArray, List.set_cons_zero, List.set_cons_succ]
        change wpAnyM _ _ _ _ _ _ 4 #[true, true, false, false, false, false] _ _
        refine wpAnyM_phaseU2 (R := fun d u w' => (d 2 = true → u 42 = .agg (Ws ON)) ∧ (d 3 = true → u 43 = .agg (Ws P1)) ∧ (d 4 = true → Fresh w (w.heap.size) [(q7, Ws RT, 69), (q6, Ws XX, 69), (q5, Ws YY, 69), (q4, Ws Y, 69), (w.heap.size, Ws ZO, 122)] (Ws ZO) 122 (u 9) w') ∧ WD w (w.heap.size) [(q7, Ws RT, 69), (q6, Ws XX, 69), (q5, Ws YY, 69), (q4, Ws Y, 69), (w.heap.size, Ws ZO, 122)] w') [42, 43, 9] [2, 3, 4] #[true, true, true, true, true, false] (by kernel_rfl) (by kernel_rfl) (by kernel_rfl) ⟨fun h => Bool.noConfusion h, fun h => Bool.noConfusion h, fun h => Bool.noConfusion h, hX10⟩ ?stepsg ?fing
        case stepsg =>
          refine StepsU.cons rfl ?sg2 (StepsU.cons rfl ?sg3 (StepsU.cons rfl ?sg4 StepsU.nil))
          case sg2 =>
            rintro d u wx ⟨h2, h3, h4, hX⟩ hd K hK
            simp only [layS, List.foldl, Act.put, List.setIfInBounds_toArray, List.set_cons_zero, List.set_cons_succ]
            go_simp
            go_wp2_with (go_at_call 173; refine (H3.out _).mono ?_; rintro e x0 ⟨rfl, k0⟩)
            refine hK.out (upV u 42 (.agg (Ws ON))) _ (hX.keep k0) ⟨fun _ => rfl, fun h => h3 h, fun h => (h4 h).keep k0, hX.keep k0⟩ _ ?_
            simp only [layS, List.foldl, Act.put, List.setIfInBounds_toArray, List.set_cons_zero, List.set_cons_succ, upV, reduceIte, Nat.reduceEqDiff]
          case sg3 =>
            rintro d u wx ⟨h2, h3, h4, hX⟩ hd K hK
            have e2 := h2 (hd 2 (by kernel_rfl))
            simp only [layS, List.foldl, Act.put, List.setIfInBounds_toArray, List.set_cons_zero, List.set_cons_succ, e2]
            rw [if_pos (by rfl)]
            unfold Oper.wp
            rw [exec_made 122 _ rfl [(0, .agg (Ws RT)), (1, .agg (Ws Y)), (2, .agg (Ws ON))] rfl _ (B1.out wx)]
            refine hK.out (upV u 43 (.agg (Ws P1))) _ hX ⟨fun h => h2 h, fun _ => rfl, fun h => h4 h, hX⟩ _ ?_
            simp only [layS, List.foldl, Act.put, List.setIfInBounds_toArray, List.set_cons_zero, List.set_cons_succ, upV, reduceIte, Nat.reduceEqDiff, e2]
            rfl
          case sg4 =>
            rintro d u wx ⟨h2, h3, h4, hX⟩ hd K hK
            simp only [layS, List.foldl, Act.put, List.setIfInBounds_toArray, List.set_cons_zero, List.set_cons_succ]
            go_simp
            refine hK.out (upV u 9 (.pointer (some ⟨wx.heap.size, 0, none⟩))) _ (hX.alloc _) ⟨fun h => h2 h, fun h => h3 h, fun _ => FreshD hX _ _, hX.alloc _⟩ _ ?_
            simp only [layS, List.foldl, Act.put, List.setIfInBounds_toArray, List.set_cons_zero, List.set_cons_succ, upV, reduceIte, Nat.reduceEqDiff]
        case fing =>
          rintro n' d u gx ⟨h2, h3, h4, hX⟩ hd
          have e42 := h2 (hd 2 rfl)
          have e43 := h3 (hd 3 rfl)
          obtain ⟨q9, e9, bq9, lq9, mq9⟩ := h4 (hd 4 rfl)
          simp only [layS, List.foldl, Act.put, List.setIfInBounds_toArray, List.set_cons_zero, List.set_cons_succ, e42, e43, e9]
          clear hd h2 h3 h4 e42 e43 e9
          change wpAnyM _ _ _ _ _ _ (n' + 1) _ _ _
          replace hX := hX.push bq9 mq9 (fun x hx => Nat.ne_of_lt (lq9 x hx))
          clear bq9 lq9 mq9
          refine wpAnyM_late (i := 5) (by kernel_rfl) rfl rfl (fun K hK => ?_)
          have hst := storeRow (l := P1) (hX.get 0 rfl) (by rw [sZ', lP1])
          go_simp
          refine hK.out _ _ ?_
          clear hK K hst
          replace hX : WD w (w.heap.size) [(q9, Ws P1, 122), (q7, Ws RT, 69), (q6, Ws XX, 69), (q5, Ws YY, 69), (q4, Ws Y, 69), (w.heap.size, Ws ZO, 122)] (gx.setRow (q9) (Ws P1)) := hX.over 0 rfl (Ws P1)
          generalize gx.setRow (q9) (Ws P1) = gy0 at hX ⊢
          refine wpAnyM_done (by kernel_rfl) ?_ _
          have g0 := hX.get 0 rfl
          dsimp only at g0
          unfold Blk at g0
          go_wp2_with (first
            | (refine wpList_load_row rfl 122 _ rfl q9 rfl 122 _ (0, 0) _ g0 Tryz.underlying122 rfl (by rw [sP1]; exact Tryz.infoP15) ?_))
          clear g0
          refine (J4.out _).mono ?_
          rintro e w9 ⟨rfl, k9⟩
          replace hX := hX.keep k9
          clear k9
          by_cases hT : T1 = s
          · have hT' : Hid (T1 = s) := hT
            clear hT
            have g0 := hX.get 0 rfl
            have g1 := hX.get 5 rfl
            dsimp only at g0 g1
            unfold Blk at g0 g1
            rw [hT'.out]
            go_wp2_with (first
              | (refine wpList_load_row rfl 122 _ rfl q9 rfl 122 _ (0, 0) _ g0 Tryz.underlying122 rfl (by rw [sP1]; exact Tryz.infoP15) ?_)
              | (refine wpList_store_row rfl 122 _ _ rfl w.heap.size _ rfl rfl 122 _ g1 (by rw [sP1]; exact Tryz.infoP15) (by rw [sP1, sZ']) (Ws_one _) ?_))
            have hE := hX.over 5 rfl (Ws P1)
            refine bodyPost_ret (v := .tuple #[.agg (Ws P1), .bool true]) ?_ rfl ⟨by rw [v1.out trivial hl'.out hT'.out], hE.below⟩
            exact results_cell_slot rfl _ _ w.heap.size 122 _ (0, 0) _ (.bool true) rfl rfl (hE.get 5 rfl) Tryz.underlying122 rfl (by rw [sP1]; exact Tryz.infoP15)
          · have hcmp := bytes_ne hT
            have g0 := hX.get 5 rfl
            dsimp only at g0
            unfold Blk at g0
            go_wp2_with (first
              | (refine wpList_made rfl 122 _ rfl [] rfl _ (hbn.out _) ?_)
              | (refine wpList_store_row rfl 122 _ _ rfl w.heap.size _ rfl rfl 122 _ g0 (by rw [sZ']; exact Tryz.infoP15) rfl (Ws_one _) ?_))
            have hE := hX.over 5 rfl (Ws ZO)
            refine bodyPost_ret (v := .tuple #[.agg (Ws ZO), .bool false]) ?_ rfl ⟨by rw [v2.out trivial hl'.out hT], hE.below⟩
            exact results_cell_slot rfl _ _ w.heap.size 122 _ (0, 0) _ (.bool false) rfl rfl (hE.get 5 rfl) Tryz.underlying122 rfl (by rw [sZ']; exact Tryz.infoP15)
      · have hl' : Hid (¬ lb = hb) := hl
        have hln : ¬ (lb.toNat : Int) = (hb.toNat : Int) := fun e => hl (UInt8.toNat.inj (by omega))
        clear hl
        refine wp_region_M (S := WD w (w.heap.size) [(q7, Ws RT, 69), (q6, Ws XX, 69), (q5, Ws YY, 69), (q4, Ws Y, 69), (w.heap.size, Ws ZO, 122)]) (ls := []) (by kernel_rfl) ?_
        have hX0 : WD w (w.heap.size) [(q7, Ws RT, 69), (q6, Ws XX, 69), (q5, Ws YY, 69), (q4, Ws Y, 69), (w.heap.size, Ws ZO, 122)] w7.drew := hX.drew
        clear hX
        generalize World.drew w7 = fd at hX0 ⊢
        refine wpAnyM_take (i := 0) (dst := some 32) (v := .agg (Ws RT)) rfl rfl (by kernel_rfl) (by kernel_rfl) (by kernel_rfl) (by kernel_rfl) (by kernel_rfl) (fun _ _ _ h => h) (Or.inl ⟨by rfl, ?hyf0⟩) hX0 ?ref0
        case hyf0 => exact fun wx hSx => exec_load_row 69 _ rfl (q7) rfl 69 _ (0, 0) _ (hSx.get 0 rfl) Tryz.underlying69 rfl (by rw [sRT]; exact Tryz.infoF5)
        refine wpAnyM_take (i := 2) (dst := some 34) (v := ?vf2) rfl rfl (by kernel_rfl) (by kernel_rfl) (by kernel_rfl) (by kernel_rfl) (by kernel_rfl) (fun _ _ _ h => h) (Or.inl ⟨by rfl, ?hyf2⟩) hX0 ?ref2
        case hyf2 => (intro wx hSx; clear hSx; go_simp; try (with_reducible rfl))
        refine wpAnyM_take (i := 3) (dst := some 35) (v := .int .u8 (s31.toNat : Int)) rfl rfl (by kernel_rfl) (by kernel_rfl) (by kernel_rfl) (by kernel_rfl) (by kernel_rfl) (fun _ _ _ h => h) (Or.inl ⟨by rfl, ?hyf3⟩) hX0 ?ref3
        case hyf3 => exact fun wx _ => by go_simp; try (with_reducible rfl)
        simp only [Act.put, List.setIfInBounds_toArray, List.set_cons_zero, List.set_cons_succ]
        refine wpAnyM_take (i := 4) (dst := some 36) (v := .int .u8 (hb.toNat : Int)) rfl rfl (by kernel_rfl) (by kernel_rfl) (by kernel_rfl) (by kernel_rfl) (by kernel_rfl) (fun _ _ _ h => h) (Or.inl ⟨by rfl, ?hyf4⟩) hX0 ?ref4
        case hyf4 => exact fun wx _ => by go_simp; try (with_reducible rfl)
        try simp only [Act.put, List.setIfInBounds_toArray, List.set_cons_zero, List.set_cons_succ]
        refine wpAnyM_one (i := 1) (by kernel_rfl) rfl (fun K hK => ?_)
        go_simp
        go_wp2_with (go_at_call 177; refine (J2.out _).mono ?_; rintro e fx0 ⟨rfl, k0⟩)
        have hX1 := hX0.keep k0
        refine hK.out _ _ hX1 ?_
        try simp only [Act.put, List.setIfInBounds_toArray, List.set_cons_zero, List.set_cons_succ]
        clear hK K k0 hX0
        refine wpAnyM_take (i := 5) (dst := some 37) (v := .bool true) rfl rfl (by kernel_rfl) (by kernel_rfl) (by kernel_rfl) (by kernel_rfl) (by kernel_rfl) (fun _ _ _ h => h) (Or.inl ⟨by rfl, ?hyf5⟩) hX1 ?ref5
        case hyf5 => (intro wx hSx; clear hSx; go_simp; try (with_reducible rfl))
        simp only [Act.put, List.setIfInBounds_toArray, List.set_cons_zero, List.set_cons_succ]
        refine wpAnyM_done (by kernel_rfl) ?_ _
        clear hln
        have g0 := hX1.get 0 rfl
        dsimp only at g0
        unfold Blk at g0
        go_wp2_with (first
          | (refine wpList_load_row rfl 69 _ rfl q7 rfl 69 _ (0, 0) _ g0 Tryz.underlying69 rfl (by rw [sRT]; exact Tryz.infoF5) ?_))
        clear g0
        refine (J3.out _).mono ?_
        rintro e w8 ⟨rfl, k8⟩
        replace hX1 := hX1.keep k8
        clear k8
        have g0 := hX1.get 0 rfl
        dsimp only at g0
        unfold Blk at g0
        go_wp2_with (first
          | (refine wpList_store_row rfl 69 _ _ rfl q7 _ rfl rfl 69 _ g0 (by rw [sNG]; exact Tryz.infoF5) (by rw [sNG, sRT]) (Ws_one _) ?_))
        clear g0
        replace hX1 : WD w (w.heap.size) [(q7, Ws NG, 69), (q6, Ws XX, 69), (q5, Ws YY, 69), (q4, Ws Y, 69), (w.heap.size, Ws ZO, 122)] (w8.setRow q7 (Ws NG)) := hX1.over 0 rfl (Ws NG)
        generalize w8.setRow q7 (Ws NG) = wv at hX1 ⊢
        refine wp_region_M (S := WD w (w.heap.size) [(q7, Ws NG, 69), (q6, Ws XX, 69), (q5, Ws YY, 69), (q4, Ws Y, 69), (w.heap.size, Ws ZO, 122)]) (ls := [5]) (by kernel_rfl) ?_
        have hX10 : WD w (w.heap.size) [(q7, Ws NG, 69), (q6, Ws XX, 69), (q5, Ws YY, 69), (q4, Ws Y, 69), (w.heap.size, Ws ZO, 122)] wv.drew := hX1.drew
        clear hX1
        generalize World.drew wv = hd at hX10 ⊢
        refine wpAnyM_take (i := 0) (dst := some 40) (v := .agg (Ws NG)) rfl rfl (by kernel_rfl) (by kernel_rfl) (by kernel_rfl) (by kernel_rfl) (by kernel_rfl) (fun _ _ _ h => h) (Or.inl ⟨by rfl, ?hyh0⟩) hX10 ?reh0
        case hyh0 => exact fun wx hSx => exec_load_row 69 _ rfl (q7) rfl 69 _ (0, 0) _ (hSx.get 0 rfl) Tryz.underlying69 rfl (by rw [sNG]; exact Tryz.infoF5)
        refine wpAnyM_take (i := 1) (dst := some 41) (v := .agg (Ws Y)) rfl rfl (by kernel_rfl) (by kernel_rfl) (by kernel_rfl) (by kernel_rfl) (by kernel_rfl) (fun _ _ _ h => h) (Or.inl ⟨by rfl, ?hyh1⟩) hX10 ?reh1
        case hyh1 => exact fun wx hSx => exec_load_row 69 _ rfl (q4) rfl 69 _ (0, 0) _ (hSx.get 3 rfl) Tryz.underlying69 rfl (by rw [sY]; exact Tryz.infoF5)
        try simp only [Act.put, List.setIfInBounds_toArray, List.set_cons_zero, List.set_cons_succ]
        change wpAnyM _ _ _ _ _ _ 4 #[true, true, false, false, false, false] _ _
        refine wpAnyM_phaseU2 (R := fun d u w' => (d 2 = true → u 42 = .agg (Ws ON)) ∧ (d 3 = true → u 43 = .agg (Ws P2)) ∧ (d 4 = true → Fresh w (w.heap.size) [(q7, Ws NG, 69), (q6, Ws XX, 69), (q5, Ws YY, 69), (q4, Ws Y, 69), (w.heap.size, Ws ZO, 122)] (Ws ZO) 122 (u 9) w') ∧ WD w (w.heap.size) [(q7, Ws NG, 69), (q6, Ws XX, 69), (q5, Ws YY, 69), (q4, Ws Y, 69), (w.heap.size, Ws ZO, 122)] w') [42, 43, 9] [2, 3, 4] #[true, true, true, true, true, false] (by kernel_rfl) (by kernel_rfl) (by kernel_rfl) ⟨fun h => Bool.noConfusion h, fun h => Bool.noConfusion h, fun h => Bool.noConfusion h, hX10⟩ ?stepsh ?finh
        case stepsh =>
          refine StepsU.cons rfl ?sh2 (StepsU.cons rfl ?sh3 (StepsU.cons rfl ?sh4 StepsU.nil))
          case sh2 =>
            rintro d u wx ⟨h2, h3, h4, hX⟩ hd K hK
            simp only [layS, List.foldl, Act.put, List.setIfInBounds_toArray, List.set_cons_zero, List.set_cons_succ]
            go_simp
            go_wp2_with (go_at_call 173; refine (H3.out _).mono ?_; rintro e x0 ⟨rfl, k0⟩)
            refine hK.out (upV u 42 (.agg (Ws ON))) _ (hX.keep k0) ⟨fun _ => rfl, fun h => h3 h, fun h => (h4 h).keep k0, hX.keep k0⟩ _ ?_
            simp only [layS, List.foldl, Act.put, List.setIfInBounds_toArray, List.set_cons_zero, List.set_cons_succ, upV, reduceIte, Nat.reduceEqDiff]
          case sh3 =>
            rintro d u wx ⟨h2, h3, h4, hX⟩ hd K hK
            have e2 := h2 (hd 2 (by kernel_rfl))
            simp only [layS, List.foldl, Act.put, List.setIfInBounds_toArray, List.set_cons_zero, List.set_cons_succ, e2]
            rw [if_pos (by rfl)]
            unfold Oper.wp
            rw [exec_made 122 _ rfl [(0, .agg (Ws NG)), (1, .agg (Ws Y)), (2, .agg (Ws ON))] rfl _ (B2.out wx)]
            refine hK.out (upV u 43 (.agg (Ws P2))) _ hX ⟨fun h => h2 h, fun _ => rfl, fun h => h4 h, hX⟩ _ ?_
            simp only [layS, List.foldl, Act.put, List.setIfInBounds_toArray, List.set_cons_zero, List.set_cons_succ, upV, reduceIte, Nat.reduceEqDiff, e2]
            rfl
          case sh4 =>
            rintro d u wx ⟨h2, h3, h4, hX⟩ hd K hK
            simp only [layS, List.foldl, Act.put, List.setIfInBounds_toArray, List.set_cons_zero, List.set_cons_succ]
            go_simp
            refine hK.out (upV u 9 (.pointer (some ⟨wx.heap.size, 0, none⟩))) _ (hX.alloc _) ⟨fun h => h2 h, fun h => h3 h, fun _ => FreshD hX _ _, hX.alloc _⟩ _ ?_
            simp only [layS, List.foldl, Act.put, List.setIfInBounds_toArray, List.set_cons_zero, List.set_cons_succ, upV, reduceIte, Nat.reduceEqDiff]
        case finh =>
          rintro n' d u hx ⟨h2, h3, h4, hX⟩ hd
          have e42 := h2 (hd 2 rfl)
          have e43 := h3 (hd 3 rfl)
          obtain ⟨q9, e9, bq9, lq9, mq9⟩ := h4 (hd 4 rfl)
          simp only [layS, List.foldl, Act.put, List.setIfInBounds_toArray, List.set_cons_zero, List.set_cons_succ, e42, e43, e9]
          clear hd h2 h3 h4 e42 e43 e9
          change wpAnyM _ _ _ _ _ _ (n' + 1) _ _ _
          replace hX := hX.push bq9 mq9 (fun x hx => Nat.ne_of_lt (lq9 x hx))
          clear bq9 lq9 mq9
          refine wpAnyM_late (i := 5) (by kernel_rfl) rfl rfl (fun K hK => ?_)
          have hst := storeRow (l := P2) (hX.get 0 rfl) (by rw [sZ', lP2])
          go_simp
          refine hK.out _ _ ?_
          clear hK K hst
          replace hX : WD w (w.heap.size) [(q9, Ws P2, 122), (q7, Ws NG, 69), (q6, Ws XX, 69), (q5, Ws YY, 69), (q4, Ws Y, 69), (w.heap.size, Ws ZO, 122)] (hx.setRow (q9) (Ws P2)) := hX.over 0 rfl (Ws P2)
          generalize hx.setRow (q9) (Ws P2) = hy0 at hX ⊢
          refine wpAnyM_done (by kernel_rfl) ?_ _
          have g0 := hX.get 0 rfl
          dsimp only at g0
          unfold Blk at g0
          go_wp2_with (first
            | (refine wpList_load_row rfl 122 _ rfl q9 rfl 122 _ (0, 0) _ g0 Tryz.underlying122 rfl (by rw [sP2]; exact Tryz.infoP15) ?_))
          clear g0
          refine (J5.out _).mono ?_
          rintro e w9 ⟨rfl, k9⟩
          replace hX := hX.keep k9
          clear k9
          by_cases hT : T2 = s
          · have hT' : Hid (T2 = s) := hT
            clear hT
            have g0 := hX.get 0 rfl
            have g1 := hX.get 5 rfl
            dsimp only at g0 g1
            unfold Blk at g0 g1
            rw [hT'.out]
            go_wp2_with (first
              | (refine wpList_load_row rfl 122 _ rfl q9 rfl 122 _ (0, 0) _ g0 Tryz.underlying122 rfl (by rw [sP2]; exact Tryz.infoP15) ?_)
              | (refine wpList_store_row rfl 122 _ _ rfl w.heap.size _ rfl rfl 122 _ g1 (by rw [sP2]; exact Tryz.infoP15) (by rw [sP2, sZ']) (Ws_one _) ?_))
            have hE := hX.over 5 rfl (Ws P2)
            refine bodyPost_ret (v := .tuple #[.agg (Ws P2), .bool true]) ?_ rfl ⟨by rw [v3.out trivial hl'.out hT'.out], hE.below⟩
            exact results_cell_slot rfl _ _ w.heap.size 122 _ (0, 0) _ (.bool true) rfl rfl (hE.get 5 rfl) Tryz.underlying122 rfl (by rw [sP2]; exact Tryz.infoP15)
          · have hcmp := bytes_ne hT
            have g0 := hX.get 5 rfl
            dsimp only at g0
            unfold Blk at g0
            go_wp2_with (first
              | (refine wpList_made rfl 122 _ rfl [] rfl _ (hbn.out _) ?_)
              | (refine wpList_store_row rfl 122 _ _ rfl w.heap.size _ rfl rfl 122 _ g0 (by rw [sZ']; exact Tryz.infoP15) rfl (Ws_one _) ?_))
            have hE := hX.over 5 rfl (Ws ZO)
            refine bodyPost_ret (v := .tuple #[.agg (Ws ZO), .bool false]) ?_ rfl ⟨by rw [v4.out trivial hl'.out hT], hE.below⟩
            exact results_cell_slot rfl _ _ w.heap.size 122 _ (0, 0) _ (.bool false) rfl rfl (hE.get 5 rfl) Tryz.underlying122 rfl (by rw [sZ']; exact Tryz.infoP15)
end Go.Proofs.YtclpbaokadfhhaaGreatDoor
