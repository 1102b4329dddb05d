/- Contract of the document's multiple. -/
import Derived.Test.YtclpbaokadfhhaaGreatDoorRp2
namespace Go.Proofs.YtclpbaokadfhhaaGreatDoor
open Go.RowKit
namespace Rp
def bitf (s : ByteArray) (i : Nat) : Bool := byt s (i / 8) / 2 ^ (i % 8) % 2 == 1
def multiple (s : ByteArray) (p : Pn) : Pn := mulTo (bitf s) p twice 256 256
theorem start_fine : Fine start := ⟨small0, small1, small1, small0⟩
theorem mulTo_fine (f : Nat → Bool) (p : Pn) (tw : List Int) (m : Nat) (hp : Fine p) (ht : Fd.Good tw) : ∀ k, Fine (mulTo f p tw m k)
  | 0 => start_fine
  | k + 1 => by
    have ih := mulTo_fine f p tw m hp ht k
    rw [mulTo]
    split
    · exact sum_fine (sum_fine ih ih ht) hp ht
    · exact sum_fine ih ih ht
theorem multiple_fine (s : ByteArray) (p : Pn) (hp : Fine p) : Fine (multiple s p) := mulTo_fine _ _ _ _ hp twice_good _
end Rp

set_option maxRecDepth 100000 in
set_option maxHeartbeats 20000000 in
theorem R_multiple (s : ByteArray) (p : Rp.Pn) (hs : s.size = 32) (hp : Rp.Fine p) (w : World) :
    Calls Tryz.prog 37 #[.string s, .agg (Ns (Rp.row p))] w fun e w' => e = .returned (.agg (Ns (Rp.row (Rp.multiple s p)))) ∧ Below w.heap.size w w' := by
  have hz := zero16
  have hz2 := Rp.zero64
  have HM : Hid (Rp.row (Rp.multiple s p) = Rp.row (Rp.mulTo (Rp.bitf s) p Rp.twice 256 256)) := rfl
  have H1 : Hid (∀ wx : World, Calls Tryz.prog 79 #[] wx fun e w' => e = .returned (.agg (Ns Rp.factor)) ∧ Below wx.heap.size wx w') := fun wx => R_factor wx
  have H2 : Hid (∀ wx : World, Calls Tryz.prog 80 #[.agg (Ns Rp.factor), .agg (Ns Rp.factor)] wx fun e w' => e = .returned (.agg (Ns Rp.twice)) ∧ Below wx.heap.size wx w') := fun wx => R_plus _ _ Rp.factor_good Rp.factor_good wx
  have sDD : (Ns Rp.factor).size = 16 := by rw [Ns_size, Rp.factor_good.1]
  have gT : Hid (Fd.Good Rp.twice) := Rp.twice_good
  generalize Rp.factor = DD at H1 H2 sDD
  have H3 : Hid (∀ wx : World, Calls Tryz.prog 81 #[.int .i64 0] wx fun e w' => e = .returned (.agg (Ns (Fd.small 0))) ∧ Below wx.heap.size wx w') := fun wx => small_any 0 wx
  have H4 : Hid (∀ wx : World, Calls Tryz.prog 81 #[.int .i64 1] wx fun e w' => e = .returned (.agg (Ns (Fd.small 1))) ∧ Below wx.heap.size wx w') := fun wx => small_any 1 wx
  have B1 : Hid (∀ wx : World, (Instr.build 61 #[(0, .agg (Ns (Fd.small 0))), (1, .agg (Ns (Fd.small 1))), (2, .agg (Ns (Fd.small 1))), (3, .agg (Ns (Fd.small 0)))]).run Tryz.prog wx = .ok (.agg (Ns (Rp.row Rp.start))) wx) := Rp.build64 _ _ _ _ rfl rfl rfl rfl
  have sST : (Ns (Rp.row Rp.start)).size = 64 := by rw [Ns_size, Rp.start_fine.row]
  have HST : Hid (∀ f p tw, Rp.mulTo f p tw 256 0 = Rp.start) := fun _ _ _ => rfl
  generalize hSTE : Rp.row Rp.start = ST at B1 sST
  replace hSTE : Hid (Rp.row Rp.start = ST) := hSTE
  generalize Fd.small 0 = O0 at H3 B1
  generalize Fd.small 1 = O1 at H4 B1
  generalize Rp.row (Rp.multiple s p) = RR at HM ⊢
  have HMS : Hid (∀ k, Rp.mulTo (Rp.bitf s) p Rp.twice 256 (k + 1) = if Rp.bitf s (256 - 1 - k) then Rp.sum (Rp.sum (Rp.mulTo (Rp.bitf s) p Rp.twice 256 k) (Rp.mulTo (Rp.bitf s) p Rp.twice 256 k) Rp.twice) p Rp.twice else Rp.sum (Rp.mulTo (Rp.bitf s) p Rp.twice 256 k) (Rp.mulTo (Rp.bitf s) p Rp.twice 256 k) Rp.twice) := fun k => rfl
  have HFM : Hid (∀ k, Rp.Fine (Rp.mulTo (Rp.bitf s) p Rp.twice 256 k)) := Rp.mulTo_fine _ _ _ _ hp Rp.twice_good
  generalize Rp.twice = TW at H2 gT HM HMS HFM
  have sTW : (Ns TW).size = 16 := by rw [Ns_size, gT.out.1]
  replace hp : Hid (Rp.Fine p) := hp
  have sPP : (Ns (Rp.row p)).size = 64 := by rw [Ns_size, hp.out.row]
  have sZ := Rp.Z64_len
  generalize Rp.Z64 = ZO at hz2 sZ
  have sZ' : (Ns ZO).size = 64 := by rw [Ns_size, sZ]
  have hX : WD w w.heap.size [(w.heap.size + 1, Ns ZO, 61), (w.heap.size, Ns (Rp.row p), 61)] ((w.alloc (.cells (Ns (Rp.row p)) 61)).alloc (.cells (Ns ZO) 61)) := by
    have h1 := (WD.start (w := w)).new (Ns (Rp.row p)) 61
    have h2 := h1.new (Ns ZO) 61
    rw [Rp.alloc_size] at h2
    exact h2
  go_enter Tryz.func37, Tryz.ntmps37
  go_wp2_with fail
  generalize (w.alloc (.cells (Ns (Rp.row p)) 61)).alloc (.cells (Ns ZO) 61) = w1 at hX ⊢
  refine (H1.out _).mono ?_
  rintro e x1 ⟨rfl, k1⟩
  replace hX := hX.keep k1
  clear k1
  have hN := hX.new (Ns Fd.none16) 59
  have g2 := hN.get 0 rfl
  dsimp only at g2
  unfold Blk at g2
  replace hX : WD w (w.heap.size) [(x1.heap.size, Ns DD, 59), (w.heap.size + 1, Ns ZO, 61), (w.heap.size, Ns (Rp.row p), 61)] ((x1.alloc (.cells (Ns Fd.none16) 59)).setRow x1.heap.size (Ns DD)) := hN.over 0 rfl (Ns DD)
  have g3 := hX.get 0 rfl
  dsimp only at g3
  unfold Blk at g3
  go_wp2_with (first
    | (refine wpList_store_row rfl 59 _ _ rfl x1.heap.size _ rfl rfl 59 _ g2 (by rw [sDD]; exact Tryz.info16) (by rw [sDD]; rfl) (Ns_one _) ?_)
    | (refine wpList_load_row rfl 59 _ rfl (x1.heap.size) rfl 59 _ (0, 0) _ g3 Tryz.underlying59 rfl (by rw [sDD]; exact Tryz.info16) ?_))
  clear hN g2 g3
  generalize (x1.alloc (.cells (Ns Fd.none16) 59)).setRow x1.heap.size (Ns DD) = v4 at hX ⊢
  generalize x1.heap.size = q5 at hX ⊢
  refine (H2.out _).mono ?_
  rintro e x5 ⟨rfl, k5⟩
  replace hX := hX.keep k5
  clear k5
  have hN := hX.new (Ns Fd.none16) 59
  have g6 := hN.get 0 rfl
  dsimp only at g6
  unfold Blk at g6
  replace hX : WD w (w.heap.size) [(x5.heap.size, Ns TW, 59), (q5, Ns DD, 59), (w.heap.size + 1, Ns ZO, 61), (w.heap.size, Ns (Rp.row p), 61)] ((x5.alloc (.cells (Ns Fd.none16) 59)).setRow x5.heap.size (Ns TW)) := hN.over 0 rfl (Ns TW)
  go_wp2_with (first
    | (refine wpList_store_row rfl 59 _ _ rfl x5.heap.size _ rfl rfl 59 _ g6 (by rw [sTW]; exact Tryz.info16) (by rw [sTW]; rfl) (Ns_one _) ?_))
  clear hN g6
  generalize (x5.alloc (.cells (Ns Fd.none16) 59)).setRow x5.heap.size (Ns TW) = v7 at hX ⊢
  generalize x5.heap.size = q6 at hX ⊢
  refine (H3.out _).mono ?_
  rintro e x8 ⟨rfl, k8⟩
  replace hX := hX.keep k8
  clear k8
  go_wp2_with fail
  refine (H4.out _).mono ?_
  rintro e x9 ⟨rfl, k9⟩
  replace hX := hX.keep k9
  clear k9
  go_wp2_with fail
  refine (H4.out _).mono ?_
  rintro e x10 ⟨rfl, k10⟩
  replace hX := hX.keep k10
  clear k10
  go_wp2_with fail
  refine (H3.out _).mono ?_
  rintro e x11 ⟨rfl, k11⟩
  replace hX := hX.keep k11
  clear k11
  have hN := hX.new (Ns ZO) 61
  have g12 := hN.get 0 rfl
  dsimp only at g12
  unfold Blk at g12
  replace hX : WD w (w.heap.size) [(x11.heap.size, Ns ST, 61), (q6, Ns TW, 59), (q5, Ns DD, 59), (w.heap.size + 1, Ns ZO, 61), (w.heap.size, Ns (Rp.row p), 61)] ((x11.alloc (.cells (Ns ZO) 61)).setRow x11.heap.size (Ns ST)) := hN.over 0 rfl (Ns ST)
  go_wp2_with (first
    | (refine Rp.wpList_made rfl 61 _ rfl [(0, .agg (Ns O0)), (1, .agg (Ns O1)), (2, .agg (Ns O1)), (3, .agg (Ns O0))] rfl _ (B1.out _) ?_)
    | (refine wpList_store_row rfl 61 _ _ rfl x11.heap.size _ rfl rfl 61 _ g12 (by rw [sST]; exact Tryz.infoP64) (by rw [sST, sZ']) (Ns_one _) ?_))
  clear hN g12
  generalize (x11.alloc (.cells (Ns ZO) 61)).setRow x11.heap.size (Ns ST) = v13 at hX ⊢
  generalize x11.heap.size = q7 at hX ⊢
  clear B1 H1 H2 H3 H4
  have hq : Hid True := trivial
  go_loopw [8] (fun q wr => ∃ k : Nat, k ≤ 256 ∧ q = .int .i64 (255 - (k : Int)) ∧ WD w (w.heap.size) [(q7, Ns (Rp.row (Rp.mulTo (Rp.bitf s) p TW 256 k)), 61), (q6, Ns TW, 59), (q5, Ns DD, 59), (w.heap.size + 1, Ns ZO, 61), (w.heap.size, Ns (Rp.row p), 61)] wr) (fun q _ => (intOf q + 1).toNat)
  case atStart => exact ⟨0, by omega, rfl, by rw [HST.out, hSTE.out]; exact hX⟩
  case round =>
    clear hX
    obtain ⟨k, hk, rfl, hX⟩ := hrel
    by_cases hlt : k < 256
    · have HS := HMS.out k
      have gC := HFM.out k
      have gD := Rp.sum_fine gC gC gT.out
      have gF := Rp.sum_fine gD hp.out gT.out
      have hj : (255 : Int) - (k : Int) = ((256 - 1 - k : Nat) : Int) := by omega
      rw [hj]
      have hbit : Hid (∀ wx : World, Calls Tryz.prog 83 #[.string s, .int .i64 ((256 - 1 - k : Nat) : Int)] wx fun e w' => e = .returned (.int .i64 (byt s ((256 - 1 - k) / 8) / 2 ^ ((256 - 1 - k) % 8) % 2)) ∧ w' = wx) := fun wx => bit_any s (256 - 1 - k) wx (by omega) (by omega)
      have hbf : Rp.bitf s (256 - 1 - k) = (byt s ((256 - 1 - k) / 8) / 2 ^ ((256 - 1 - k) % 8) % 2 == 1) := rfl
      rw [hbf] at HS
      clear hbf
      generalize byt s ((256 - 1 - k) / 8) / 2 ^ ((256 - 1 - k) % 8) % 2 = bt at hbit HS
      have hjk : Hid (256 - 1 - k + k = 255) := (by omega : 256 - 1 - k + k = 255)
      generalize 256 - 1 - k = j at hj hbit hjk ⊢
      have i0 : (0 : Int) ≤ (j : Int) := by omega
      have j1 : (j : Int) ≤ 255 := by omega
      generalize hC : Rp.mulTo (Rp.bitf s) p TW 256 k = C at HS gC gD gF hX
      clear hC
      have J1 : Hid (∀ wx : World, Calls Tryz.prog 82 #[.agg (Ns (Rp.row C)), .agg (Ns (Rp.row C)), .agg (Ns TW)] wx fun e w' => e = .returned (.agg (Ns (Rp.row (Rp.sum C C TW)))) ∧ Below wx.heap.size wx w') := fun wx => R_sum C C TW gC gC gT.out wx
      have sC : (Ns (Rp.row C)).size = 64 := by rw [Ns_size, gC.row]
      generalize Rp.sum C C TW = D at HS J1 gD gF
      have J2 : Hid (∀ wx : World, Calls Tryz.prog 82 #[.agg (Ns (Rp.row D)), .agg (Ns (Rp.row p)), .agg (Ns TW)] wx fun e w' => e = .returned (.agg (Ns (Rp.row (Rp.sum D p TW)))) ∧ Below wx.heap.size wx w') := fun wx => R_sum D p TW gD hp.out gT.out wx
      generalize Rp.sum D p TW = F at HS J2 gF
      have sD1 : (Ns (Rp.row D)).size = 64 := by rw [Ns_size, gD.row]
      have sF1 : (Ns (Rp.row F)).size = 64 := by rw [Ns_size, gF.row]
      clear gC gD gF
      replace HS : Hid (Rp.mulTo (Rp.bitf s) p TW 256 (k + 1) = if (bt == 1) = true then F else D) := HS
      generalize Rp.row C = CC at hX J1 sC
      generalize hD : Rp.row D = D1 at J1 J2 sD1
      replace hD : Hid (Rp.row D = D1) := hD
      generalize hF : Rp.row F = F1 at J2 sF1
      replace hF : Hid (Rp.row F = F1) := hF
      generalize hPP : Ns (Rp.row p) = PA at hX J2 sPP
      replace hPP : Hid (Ns (Rp.row p) = PA) := hPP
      have hq2 := hq
      have g14 := hX.get 0 rfl
      dsimp only at g14
      unfold Blk at g14
      have g15 := hX.get 1 rfl
      dsimp only at g15
      unfold Blk at g15
      go_wp2_with (first
        | (refine wpList_load_row rfl 61 _ rfl (q7) rfl 61 _ (0, 0) _ g14 Tryz.underlying61 rfl (by rw [sC]; exact Tryz.infoP64) ?_)
        | (refine wpList_load_row rfl 59 _ rfl (q6) rfl 59 _ (0, 0) _ g15 Tryz.underlying59 rfl (by rw [sTW]; exact Tryz.info16) ?_))
      clear g14 g15
      refine (J1.out _).mono ?_
      rintro e x16 ⟨rfl, k16⟩
      replace hX := hX.keep k16
      clear k16
      have hq3 := hq
      have g17 := hX.get 0 rfl
      dsimp only at g17
      unfold Blk at g17
      replace hX : WD w (w.heap.size) [(q7, Ns D1, 61), (q6, Ns TW, 59), (q5, Ns DD, 59), (w.heap.size + 1, Ns ZO, 61), (w.heap.size, PA, 61)] (x16.setRow (q7) (Ns D1)) := hX.over 0 rfl (Ns D1)
      go_wp2_with (first
        | (refine wpList_store_row rfl 61 _ _ rfl (q7) _ rfl rfl 61 _ g17 (by rw [sD1]; exact Tryz.infoP64) (by rw [sD1, sC]) (Ns_one _) ?_))
      clear g17
      generalize x16.setRow (q7) (Ns D1) = v18 at hX ⊢
      refine (hbit.out _).mono ?_
      rintro e xb ⟨rfl, hxb⟩
      rw [hxb]
      clear hxb xb
      by_cases hb1 : bt = 1
      · have db : (bt == 1) = true := by rw [beq_iff_eq]; exact hb1
        rw [if_pos db] at HS
        replace hb1 : Hid (bt = 1) := hb1
        have g19 := hX.get 0 rfl
        dsimp only at g19
        unfold Blk at g19
        have g20 := hX.get 4 rfl
        dsimp only at g20
        unfold Blk at g20
        have g21 := hX.get 1 rfl
        dsimp only at g21
        unfold Blk at g21
        go_wp2_with (first
          | (refine wpList_load_row rfl 61 _ rfl (q7) rfl 61 _ (0, 0) _ g19 Tryz.underlying61 rfl (by rw [sD1]; exact Tryz.infoP64) ?_)
          | (refine wpList_load_row rfl 61 _ rfl (w.heap.size) rfl 61 _ (0, 0) _ g20 Tryz.underlying61 rfl (by rw [sPP]; exact Tryz.infoP64) ?_)
          | (refine wpList_load_row rfl 59 _ rfl (q6) rfl 59 _ (0, 0) _ g21 Tryz.underlying59 rfl (by rw [sTW]; exact Tryz.info16) ?_))
        clear g19 g20 g21
        refine (J2.out _).mono ?_
        rintro e x22 ⟨rfl, k22⟩
        replace hX := hX.keep k22
        clear k22
        have g23 := hX.get 0 rfl
        dsimp only at g23
        unfold Blk at g23
        replace hX : WD w (w.heap.size) [(q7, Ns F1, 61), (q6, Ns TW, 59), (q5, Ns DD, 59), (w.heap.size + 1, Ns ZO, 61), (w.heap.size, PA, 61)] (x22.setRow (q7) (Ns F1)) := hX.over 0 rfl (Ns F1)
        go_wp2_with (first
          | (refine wpList_store_row rfl 61 _ _ rfl (q7) _ rfl rfl 61 _ g23 (by rw [sF1]; exact Tryz.infoP64) (by rw [sF1, sD1]) (Ns_one _) ?_))
        clear g23
        generalize x22.setRow (q7) (Ns F1) = v24 at hX ⊢
        go_roundw
        case rel =>
          refine ⟨k + 1, by omega, by go_num, ?_⟩
          rw [HS.out, hF.out]
          exact hX
        case measure => simp [intOf]
      · have db : (bt == 1) = false := by rw [beq_eq_false_iff_ne]; exact hb1
        rw [if_neg (by rw [db]; decide)] at HS
        replace hb1 : Hid (¬ bt = 1) := hb1
        go_wp2_with fail
        go_roundw
        case rel =>
          refine ⟨k + 1, by omega, by go_num, ?_⟩
          rw [HS.out, hD.out]
          exact hX
        case measure => simp [intOf]
    · obtain rfl : k = 256 := by omega
      rw [show (255 : Int) - ((256 : Nat) : Int) = -1 by omega]
      rw [← show RR = Rp.row (Rp.mulTo (Rp.bitf s) p TW 256 256) from HM.out] at hX
      have gR := HFM.out 256
      have sRR : (Ns RR).size = 64 := by rw [HM.out, Ns_size, gR.row]
      clear gR
      have g25 := hX.get 0 rfl
      dsimp only at g25
      unfold Blk at g25
      have g26 := hX.get 3 rfl
      dsimp only at g26
      unfold Blk at g26
      replace hX : WD w (w.heap.size) [(q7, Ns RR, 61), (q6, Ns TW, 59), (q5, Ns DD, 59), (w.heap.size + 1, Ns RR, 61), (w.heap.size, Ns (Rp.row p), 61)] (wr.setRow (w.heap.size + 1) (Ns RR)) := hX.over 3 rfl (Ns RR)
      go_wp2_with (first
        | (refine wpList_load_row rfl 61 _ rfl (q7) rfl 61 _ (0, 0) _ g25 Tryz.underlying61 rfl (by rw [sRR]; exact Tryz.infoP64) ?_)
        | (refine wpList_store_row rfl 61 _ _ rfl (w.heap.size + 1) _ rfl rfl 61 _ g26 (by rw [sRR]; exact Tryz.infoP64) (by rw [sRR, sZ']) (Ns_one _) ?_))
      clear g25 g26
      generalize wr.setRow (w.heap.size + 1) (Ns RR) = v27 at hX ⊢
      refine bodyPost_ret (v := .agg (Ns RR)) ?_ rfl ⟨rfl, hX.below⟩
      exact results_cell_row rfl _ _ (w.heap.size + 1) 61 _ (0, 0) _ rfl (hX.get 3 rfl) Tryz.underlying61 rfl (by rw [sRR]; exact Tryz.infoP64)
end Go.Proofs.YtclpbaokadfhhaaGreatDoor
