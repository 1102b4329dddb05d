/- Contract of curve's Times. -/
import Derived.Test.YtclpbaokadfhhaaDoorCp3
namespace Go.Proofs.YtclpbaokadfhhaaDoor
open Go.RowKit

theorem buildStart (w : World) : (Instr.build 60 #[(1, .agg (Ws Ff.one5)), (2, .agg (Ws Ff.one5))]).run Tryd.prog w = .ok (.agg (Ws (Cv.row Cv.start))) w := run_build w _ _ _ (by kernel_rfl)
theorem start_ok : Cv.Ok Cv.start := ⟨rfl, rfl, rfl⟩

set_option maxRecDepth 100000 in
set_option maxHeartbeats 8000000 in
theorem C_times (a : Cv.Pn) (n : List (BitVec 64)) (w : World) (ha : Cv.Ok a) (hn : n.length = 4) :
    Calls Tryd.prog 35 #[.agg (Ws (Cv.row a)), .agg (Ws n)] w fun e w' => e = .returned (.agg (Ws (Cv.row (Cv.timesN a n)))) ∧ Below w.heap.size w w' := by
  have hz := zero15
  have H1 : Hid (∀ wx : World, Calls Tryd.prog 56 #[] wx fun e w' => e = .returned (.agg (Ws Ff.one5)) ∧ Below wx.heap.size wx w') := C_one
  have HB := buildStart
  have sZ := Z15_len
  generalize Z15 = ZO at hz sZ
  generalize Ff.one5 = O at H1 HB
  have sZ' : (Ws ZO).size = 15 := by rw [Ws_size, sZ]
  have la : (Cv.row a).length = 15 := ha.row
  have sa : (Ws (Cv.row a)).size = 15 := by rw [Ws_size, la]
  have sn : (Ws n).size = 4 := by rw [Ws_size, hn]
  have HE : Hid (Cv.timesN a n = Cv.timesTo a n 253) := by
    have : Cv.timesN a n = Cv.timesTo a n 253 := rfl
    exact this
  generalize Cv.timesN a n = R at HE ⊢
  have lS : (Cv.row Cv.start).length = 15 := start_ok.row
  have sS0 : (Ws (Cv.row Cv.start)).size = 15 := by rw [Ws_size, lS]
  have HP : Hid (∀ (p : Cv.Pn), Cv.Ok p → ∀ wx : World, Calls Tryd.prog 43 #[.agg (Ws (Cv.row p)), .agg (Ws (Cv.row a))] wx fun e w' => e = .returned (.agg (Ws (Cv.row (Cv.plus p a)))) ∧ Below wx.heap.size wx w') := fun p hp wx => C_plus p a wx hp ha
  generalize hra : Cv.row a = ra at la sa HP ⊢
  clear hra
  have hW : WD w w.heap.size [(w.heap.size + 1 + 1, Ws ZO, 60), (w.heap.size + 1, Ws n, 52), (w.heap.size, Ws ra, 60)] (((w.alloc (.cells (Ws ra) 60)).alloc (.cells (Ws n) 52)).alloc (.cells (Ws ZO) 60)) := by
    have h1 := (WD.start (w := w)).new (Ws ra) 60
    have h2 := h1.new (Ws n) 52
    rw [show (w.alloc (.cells (Ws ra) 60)).heap.size = w.heap.size + 1 by simp] at h2
    have h3 := h2.new (Ws ZO) 60
    rw [show ((w.alloc (.cells (Ws ra) 60)).alloc (.cells (Ws n) 52)).heap.size = w.heap.size + 1 + 1 by simp] at h3
    exact h3
  go_enter Tryd.func35, Tryd.ntmps35
  go_wp2_with fail
  generalize ((w.alloc (.cells (Ws ra) 60)).alloc (.cells (Ws n) 52)).alloc (.cells (Ws ZO) 60) = w1 at hW ⊢
  refine (H1.out _).mono ?_
  rintro e w2 ⟨rfl, k2⟩
  replace hW := hW.keep k2
  clear k2
  go_wp2_with fail
  refine (H1.out _).mono ?_
  rintro e w3 ⟨rfl, k3⟩
  replace hW := hW.keep k3
  clear k3
  have hN := hW.new (Ws ZO) 60
  have gz := hN.get 0 rfl
  dsimp only at gz
  unfold Blk at gz
  generalize hst : Cv.row Cv.start = rs at HB lS sS0
  replace hst : Hid (Cv.row Cv.start = rs) := hst
  go_wp2_with (first
    | (refine wpList_made rfl 60 _ rfl [(1, .agg (Ws O)), (2, .agg (Ws O))] rfl _ (HB _) ?_)
    | (refine wpList_store_row rfl 60 _ _ rfl w3.heap.size _ rfl rfl 60 _ gz (by rw [sS0]; exact Tryd.infoP15) (by rw [sS0, sZ']) (Ws_one _) ?_))
  replace hW : WD w w.heap.size [(w3.heap.size, Ws rs, 60), (w.heap.size + 1 + 1, Ws ZO, 60), (w.heap.size + 1, Ws n, 52), (w.heap.size, Ws ra, 60)] ((w3.alloc (.cells (Ws ZO) 60)).setRow w3.heap.size (Ws rs)) := hN.over 0 rfl (Ws rs)
  clear hN gz HB hz
  generalize (w3.alloc (.cells (Ws ZO) 60)).setRow w3.heap.size (Ws rs) = w4 at hW ⊢
  generalize w3.heap.size = q at hW ⊢
  rw [← hst.out] at hW
  clear hst lS sS0
  go_loopw [6] (fun c wr => ∃ m : Nat, m ≤ 253 ∧ c = .int .i64 (252 - (m : Int)) ∧ WD w w.heap.size [(q, Ws (Cv.row (Cv.timesTo a n m)), 60), (w.heap.size + 1 + 1, Ws ZO, 60), (w.heap.size + 1, Ws n, 52), (w.heap.size, Ws ra, 60)] wr) (fun c _ => ((intOf c) + 1).toNat)
  case atStart => exact ⟨0, by omega, rfl, hW⟩
  case round =>
    clear hW
    obtain ⟨m, hm, rfl, hW⟩ := hrel
    have hok := Cv.timesTo_ok a n m
    by_cases hlt : m < 253
    · have HS : Hid (Cv.timesTo a n (m + 1) = Cv.choose (Sc.bit n (252 - m)) (Cv.plus (Cv.timesTo a n m) (Cv.timesTo a n m)) (Cv.plus (Cv.plus (Cv.timesTo a n m) (Cv.timesTo a n m)) a)) := by
        have : Cv.timesTo a n (m + 1) = Cv.choose (Sc.bit n (252 - m)) (Cv.plus (Cv.timesTo a n m) (Cv.timesTo a n m)) (Cv.plus (Cv.plus (Cv.timesTo a n m) (Cv.timesTo a n m)) a) := by rw [Cv.timesTo]
        exact this
      obtain ⟨at0, hat⟩ : ∃ at0 : Nat, at0 = 252 - m := ⟨_, rfl⟩
      rw [← hat] at HS
      have hc : (252 - (m : Int)) = (at0 : Int) := by omega
      rw [hc]
      have hat2 : at0 ≤ 252 := by omega
      clear hat
      replace hc : Hid (252 - (m : Int) = (at0 : Int)) := hc
      have i3 : (0 : Int) ≤ (at0 : Int) := by omega
      generalize hS : Cv.timesTo a n m = S at hW hok HS
      clear hS
      have J1 : Hid (∀ wx : World, Calls Tryd.prog 43 #[.agg (Ws (Cv.row S)), .agg (Ws (Cv.row S))] wx fun e w' => e = .returned (.agg (Ws (Cv.row (Cv.plus S S)))) ∧ Below wx.heap.size wx w') := fun wx => C_plus S S wx hok hok
      have ok1 := Cv.plus_ok S S
      generalize Cv.plus S S = D at J1 ok1 HS
      have J2 : Hid (∀ wx : World, Calls Tryd.prog 58 #[.agg (Ws n), .int .i64 (at0 : Int)] wx fun e w' => e = .returned (.int .u64 (U (Sc.bit n at0))) ∧ Below wx.heap.size wx w') := fun wx => S_bit n at0 wx hn (by omega)
      generalize Sc.bit n at0 = t at J2 HS
      have J3 : Hid (∀ wx : World, Calls Tryd.prog 43 #[.agg (Ws (Cv.row D)), .agg (Ws ra)] wx fun e w' => e = .returned (.agg (Ws (Cv.row (Cv.plus D a)))) ∧ Below wx.heap.size wx w') := HP.out D ok1
      have ok2 := Cv.plus_ok D a
      generalize Cv.plus D a = E at J3 ok2 HS
      have J4 : Hid (∀ wx : World, Calls Tryd.prog 57 #[.int .u64 (U t), .agg (Ws (Cv.row D)), .agg (Ws (Cv.row E))] wx fun e w' => e = .returned (.agg (Ws (Cv.row (Cv.choose t D E)))) ∧ Below wx.heap.size wx w') := fun wx => C_choose t D E wx ok1 ok2
      have ok3 := Cv.choose_ok t E ok1
      generalize Cv.choose t D E = G at J4 ok3 HS
      have lS := hok.row
      have lD := ok1.row
      have lG := ok3.row
      generalize Cv.row S = rS at hW J1 lS
      generalize Cv.row D = rD at J1 J3 J4 lD
      generalize Cv.row E = rE at J3 J4
      generalize hG : Cv.row G = rG at J4 lG
      replace hG : Hid (Cv.row G = rG) := hG
      have sS : (Ws rS).size = 15 := by rw [Ws_size, lS]
      have sD : (Ws rD).size = 15 := by rw [Ws_size, lD]
      have srG : (Ws rG).size = 15 := by rw [Ws_size, lG]
      clear hok ok1 ok2 ok3
      have g0 := hW.get 0 rfl
      dsimp only at g0
      unfold Blk at g0
      go_wp2_with (first
        | (refine wpList_load_row rfl 60 _ rfl q rfl 60 _ (0, 0) _ g0 Tryd.underlying60 rfl (by rw [sS]; exact Tryd.infoP15) ?_))
      clear g0
      refine (J1.out _).mono ?_
      rintro e x1 ⟨rfl, k1⟩
      replace hW := hW.keep k1
      clear k1
      have g0 := hW.get 0 rfl
      dsimp only at g0
      unfold Blk at g0
      go_wp2_with (first
        | (refine wpList_store_row rfl 60 _ _ rfl q _ rfl rfl 60 _ g0 (by rw [sD]; exact Tryd.infoP15) (by rw [sD, sS]) (Ws_one _) ?_))
      replace hW : WD w w.heap.size [(q, Ws rD, 60), (w.heap.size + 1 + 1, Ws ZO, 60), (w.heap.size + 1, Ws n, 52), (w.heap.size, Ws ra, 60)] (x1.setRow q (Ws rD)) := hW.over 0 rfl (Ws rD)
      clear g0
      generalize x1.setRow q (Ws rD) = x2 at hW ⊢
      refine wp_region_M (S := WD w (w.heap.size) [(q, Ws rD, 60), (w.heap.size + 1 + 1, Ws ZO, 60), (w.heap.size + 1, Ws n, 52), (w.heap.size, Ws ra, 60)]) (ls := [8]) (by kernel_rfl) ?_
      have hW0 : WD w (w.heap.size) [(q, Ws rD, 60), (w.heap.size + 1 + 1, Ws ZO, 60), (w.heap.size + 1, Ws n, 52), (w.heap.size, Ws ra, 60)] x2.drew := hW.drew
      clear hW
      generalize World.drew x2 = rd at hW0 ⊢
      refine wpAnyM_take (i := 0) (dst := some 17) (v := .agg (Ws n)) rfl rfl (by kernel_rfl) (by kernel_rfl) (by kernel_rfl) (by kernel_rfl) (by kernel_rfl) (fun _ _ _ h => h) (Or.inl ⟨by rfl, ?hyr0⟩) hW0 ?rer0
      case hyr0 => exact fun wx hSx => exec_load_row 52 _ rfl (w.heap.size + 1) rfl 52 _ (0, 0) _ (hSx.get 2 rfl) Tryd.underlying52 rfl (by rw [sn]; exact Tryd.infoS4)
      refine wpAnyM_take (i := 1) (dst := some 18) (v := ?vr1) rfl rfl (by kernel_rfl) (by kernel_rfl) (by kernel_rfl) (by kernel_rfl) (by kernel_rfl) (fun _ _ _ h => h) (Or.inl ⟨by rfl, ?hyr1⟩) hW0 ?rer1
      case hyr1 => (intro wx hSx; clear hSx; go_simp; try (with_reducible rfl))
      refine wpAnyM_take (i := 3) (dst := some 20) (v := .agg (Ws rD)) rfl rfl (by kernel_rfl) (by kernel_rfl) (by kernel_rfl) (by kernel_rfl) (by kernel_rfl) (fun _ _ _ h => h) (Or.inl ⟨by rfl, ?hyr3⟩) hW0 ?rer3
      case hyr3 => exact fun wx hSx => exec_load_row 60 _ rfl (q) rfl 60 _ (0, 0) _ (hSx.get 0 rfl) Tryd.underlying60 rfl (by rw [sD]; exact Tryd.infoP15)
      simp only [Act.put, List.setIfInBounds_toArray, List.set_cons_zero, List.set_cons_succ]
      refine wpAnyM_take (i := 4) (dst := some 21) (v := .agg (Ws rD)) rfl rfl (by kernel_rfl) (by kernel_rfl) (by kernel_rfl) (by kernel_rfl) (by kernel_rfl) (fun _ _ _ h => h) (Or.inl ⟨by rfl, ?hyr4⟩) hW0 ?rer4
      case hyr4 => exact fun wx hSx => exec_load_row 60 _ rfl (q) rfl 60 _ (0, 0) _ (hSx.get 0 rfl) Tryd.underlying60 rfl (by rw [sD]; exact Tryd.infoP15)
      refine wpAnyM_take (i := 5) (dst := some 22) (v := .agg (Ws ra)) rfl rfl (by kernel_rfl) (by kernel_rfl) (by kernel_rfl) (by kernel_rfl) (by kernel_rfl) (fun _ _ _ h => h) (Or.inl ⟨by rfl, ?hyr5⟩) hW0 ?rer5
      case hyr5 => exact fun wx hSx => exec_load_row 60 _ rfl (w.heap.size) rfl 60 _ (0, 0) _ (hSx.get 3 rfl) Tryd.underlying60 rfl (by rw [sa]; exact Tryd.infoP15)
      try simp only [Act.put, List.setIfInBounds_toArray, List.set_cons_zero, List.set_cons_succ]
      refine wpAnyM_one (i := 2) (by kernel_rfl) rfl (fun K hK => ?_)
      go_simp
      go_wp2_with (go_at_call 58; refine (J2.out _).mono ?_; rintro e rx0 ⟨rfl, k0⟩)
      have hW1 := hW0.keep k0
      refine hK.out _ _ hW1 ?_
      try simp only [Act.put, List.setIfInBounds_toArray, List.set_cons_zero, List.set_cons_succ]
      clear hK K k0 hW0
      refine wpAnyM_one (i := 6) (by kernel_rfl) rfl (fun K hK => ?_)
      go_simp
      go_wp2_with (go_at_call 43; refine (J3.out _).mono ?_; rintro e rx1 ⟨rfl, k0⟩)
      have hW2 := hW1.keep k0
      refine hK.out _ _ hW2 ?_
      try simp only [Act.put, List.setIfInBounds_toArray, List.set_cons_zero, List.set_cons_succ]
      clear hK K k0 hW1
      refine wpAnyM_one (i := 7) (by kernel_rfl) rfl (fun K hK => ?_)
      go_simp
      go_wp2_with (go_at_call 57; refine (J4.out _).mono ?_; rintro e rx2 ⟨rfl, k0⟩)
      have hW3 := hW2.keep k0
      refine hK.out _ _ hW3 ?_
      try simp only [Act.put, List.setIfInBounds_toArray, List.set_cons_zero, List.set_cons_succ]
      clear hK K k0 hW2
      refine wpAnyM_late (i := 8) (by kernel_rfl) rfl rfl (fun K hK => ?_)
      have hst := storeRow (l := rG) (hW3.get 0 rfl) (by rw [sD, lG])
      go_simp
      refine hK.out _ _ ?_
      clear hK K hst
      replace hW3 : WD w (w.heap.size) [(q, Ws rG, 60), (w.heap.size + 1 + 1, Ws ZO, 60), (w.heap.size + 1, Ws n, 52), (w.heap.size, Ws ra, 60)] (rx2.setRow (q) (Ws rG)) := hW3.over 0 rfl (Ws rG)
      generalize rx2.setRow (q) (Ws rG) = ry0 at hW3 ⊢
      refine wpAnyM_done (by kernel_rfl) ?_ _
      go_wp2
      go_roundw
      case rel =>
        refine ⟨m + 1, by omega, by have := hc.out; go_num, ?_⟩
        rw [show Cv.timesTo a n (m + 1) = _ from HS.out, hG.out]
        exact hW3
      case measure => have := hc.out; simp [intOf]; try omega
    · have hk8 : m = 253 := by omega
      subst hk8
      have lS := hok.row
      generalize hS : Cv.timesTo a n 253 = S at hW lS HE
      clear hS hok
      generalize hrS : Cv.row S = rS at hW lS
      replace hrS : Hid (Cv.row S = rS) := hrS
      have sS : (Ws rS).size = 15 := by rw [Ws_size, lS]
      have g0 := hW.get 0 rfl
      have g1 := hW.get 1 rfl
      dsimp only at g0 g1
      unfold Blk at g0 g1
      go_wp2_with (first
        | (refine wpList_load_row rfl 60 _ rfl q rfl 60 _ (0, 0) _ g0 Tryd.underlying60 rfl (by rw [sS]; exact Tryd.infoP15) ?_)
        | (refine wpList_store_row rfl 60 _ _ rfl (w.heap.size + 1 + 1) _ rfl rfl 60 _ g1 (by rw [sS]; exact Tryd.infoP15) (by rw [sS, sZ']) (Ws_one _) ?_))
      have hW5 := hW.over 1 rfl (Ws rS)
      refine bodyPost_ret (v := .agg (Ws rS)) ?_ rfl ⟨by rw [show R = _ from HE.out, hrS.out], hW5.below⟩
      exact results_cell_row rfl _ _ (w.heap.size + 1 + 1) 60 _ (0, 0) _ rfl (hW5.get 1 rfl) Tryd.underlying60 rfl (by rw [sS]; exact Tryd.infoP15)
end Go.Proofs.YtclpbaokadfhhaaDoor
