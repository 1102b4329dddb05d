/- Contracts of the document's factor and sum. -/
import Derived.Test.YtclpbaokadfhhaaGreatDoorRp1
namespace Go.Proofs.YtclpbaokadfhhaaGreatDoor
open Go.RowKit
set_option maxRecDepth 100000 in
set_option maxHeartbeats 4000000 in
theorem R_factor (w : World) : Calls Tryz.prog 79 #[] w fun e w' => e = .returned (.agg (Ns Rp.factor)) ∧ Below w.heap.size w w' := by
  have hz := zero16
  have H1 : Hid (Rv 81 #[.int .i64 0] (.agg (Ns (Fd.small 0)))) := fun wx => small_any 0 wx
  have gO := Rp.small0
  generalize hO : Fd.small 0 = O at H1 gO
  replace hO : Hid (Fd.small 0 = O) := hO
  have B1 : Hid (∀ wx : World, (Instr.build 59 #[(0, .int .i64 56129), (1, .int .i64 1)]).run Tryz.prog wx = .ok (.agg (Ns (Rp.num2 56129 1))) wx) := Rp.build_num2 _ _
  have B2 : Hid (∀ wx : World, (Instr.build 59 #[(0, .int .i64 56130), (1, .int .i64 1)]).run Tryz.prog wx = .ok (.agg (Ns (Rp.num2 56130 1))) wx) := Rp.build_num2 _ _
  have gM := Rp.num2_good 56129 1 (by omega) (by omega)
  have gN := Rp.num2_good 56130 1 (by omega) (by omega)
  have HR : Hid (Rp.factor = Fd.by_ (Fd.minus (Fd.small 0) (Rp.num2 56129 1)) (Fd.inv (Rp.num2 56130 1))) := rfl
  rw [hO.out] at HR
  clear hO
  generalize Rp.factor = R at HR ⊢
  generalize Rp.num2 56129 1 = M at B1 gM HR
  generalize Rp.num2 56130 1 = N at B2 gN HR
  have H2 : Hid (Rv 140 #[.agg (Ns O), .agg (Ns M)] (.agg (Ns (Fd.minus O M)))) := fun wx => R_minus O M gO gM wx
  have gA := Fd.minus_good O M gO gM
  generalize Fd.minus O M = A at H2 gA HR
  have H3 : Hid (Rv 85 #[.agg (Ns N)] (.agg (Ns (Fd.inv N)))) := fun wx => inverse_any N wx gN
  have gB := Fd.inv_good N gN
  generalize Fd.inv N = B at H3 gB HR
  have H4 : Hid (Rv 84 #[.agg (Ns A), .agg (Ns B)] (.agg (Ns (Fd.by_ A B)))) := fun wx => R_by A B gA gB wx
  have gR := Fd.by_good A B gA gB
  generalize Fd.by_ A B = R' at H4 gR HR
  have hr : R = R' := HR.out
  subst hr
  clear HR
  have sA : (Ns A).size = 16 := by rw [Ns_size, gA.1]
  have sB : (Ns B).size = 16 := by rw [Ns_size, gB.1]
  have sR : (Ns R).size = 16 := by rw [Ns_size, gR.1]
  clear gO gM gN gA gB gR
  have hX : WD w w.heap.size [(w.heap.size, Ns Fd.none16, 59)] (w.alloc (.cells (Ns Fd.none16) 59)) := (WD.start (w := w)).new (Ns Fd.none16) 59
  go_enter Tryz.func79, Tryz.ntmps79
  go_wp2_with fail
  generalize w.alloc (.cells (Ns Fd.none16) 59) = w1 at hX ⊢
  refine (H1.out _).mono ?_
  rintro e x1 ⟨rfl, k1⟩
  replace hX := hX.keep k1
  clear k1
  go_wp2_with (first
    | (refine Rp.wpList_made rfl 59 _ rfl [(0, .int .i64 56129), (1, .int .i64 1)] rfl _ (B1.out _) ?_))
  refine (H2.out _).mono ?_
  rintro e x2 ⟨rfl, k2⟩
  replace hX := hX.keep k2
  clear k2
  have hN := hX.new (Ns Fd.none16) 59
  have g3 := hN.gt 0 rfl
  replace hX : WD w (w.heap.size) [(x2.heap.size, Ns A, 59), (w.heap.size, Ns Fd.none16, 59)] ((x2.alloc (.cells (Ns Fd.none16) 59)).setRow x2.heap.size (Ns A)) := hN.over 0 rfl (Ns A)
  go_wp2_with (first
    | (refine stN rfl rfl x2.heap.size rfl rfl g3 sA rfl ?_)
    | (refine Rp.wpList_made rfl 59 _ rfl [(0, .int .i64 56130), (1, .int .i64 1)] rfl _ (B2.out _) ?_))
  clear hN g3
  generalize (x2.alloc (.cells (Ns Fd.none16) 59)).setRow x2.heap.size (Ns A) = v4 at hX ⊢
  generalize x2.heap.size = q1 at hX ⊢
  refine (H3.out _).mono ?_
  rintro e x5 ⟨rfl, k5⟩
  replace hX := hX.keep k5
  clear k5
  have hN := hX.new (Ns Fd.none16) 59
  have g6 := hN.gt 0 rfl
  replace hX : WD w (w.heap.size) [(x5.heap.size, Ns B, 59), (q1, Ns A, 59), (w.heap.size, Ns Fd.none16, 59)] ((x5.alloc (.cells (Ns Fd.none16) 59)).setRow x5.heap.size (Ns B)) := hN.over 0 rfl (Ns B)
  have g7 := hX.gt 1 rfl
  have g8 := hX.gt 0 rfl
  go_wp2_with (first
    | (refine stN rfl rfl x5.heap.size rfl rfl g6 sB rfl ?_)
    | (refine ldN rfl rfl (q1) rfl g7 sA ?_)
    | (refine ldN rfl rfl (x5.heap.size) rfl g8 sB ?_))
  clear hN g6 g7 g8
  generalize (x5.alloc (.cells (Ns Fd.none16) 59)).setRow x5.heap.size (Ns B) = v9 at hX ⊢
  generalize x5.heap.size = q2 at hX ⊢
  refine (H4.out _).mono ?_
  rintro e x10 ⟨rfl, k10⟩
  replace hX := hX.keep k10
  clear k10
  have g11 := hX.gt 2 rfl
  replace hX : WD w (w.heap.size) [(q2, Ns B, 59), (q1, Ns A, 59), (w.heap.size, Ns R, 59)] (x10.setRow (w.heap.size) (Ns R)) := hX.over 2 rfl (Ns R)
  go_wp2_with (first
    | (refine stN rfl rfl (w.heap.size) rfl rfl g11 sR rfl ?_))
  clear g11
  generalize x10.setRow (w.heap.size) (Ns R) = v12 at hX ⊢
  refine bodyPost_ret (v := .agg (Ns R)) ?_ rfl ⟨rfl, hX.below⟩
  exact results_cell_row rfl _ _ w.heap.size 59 _ (0, 0) _ rfl (hX.get 2 rfl) Tryz.underlying59 rfl (by rw [sR]; exact Tryz.info16)
set_option maxRecDepth 100000 in
set_option maxHeartbeats 20000000 in
theorem R_sum' (X1 Y1 Z1 T1 X2 Y2 Z2 T2 TW M1 M2 A P1 P2 B C1 C D0 D E F G H RX RY RZ RT : List Int) (w : World)
    (hX1 : X1.length = 16) (hY1 : Y1.length = 16) (hZ1 : Z1.length = 16) (hT1 : T1.length = 16) (hX2 : X2.length = 16) (hY2 : Y2.length = 16) (hZ2 : Z2.length = 16) (hT2 : T2.length = 16) (hTW : TW.length = 16)
    (hA : A.length = 16) (hB : B.length = 16) (hC : C.length = 16) (hD0 : D0.length = 16) (hD : D.length = 16) (hE : E.length = 16) (hF : F.length = 16) (hG : G.length = 16) (hH : H.length = 16) (hRX : RX.length = 16) (hRY : RY.length = 16) (hRZ : RZ.length = 16) (hRT : RT.length = 16)
    (H1 : Hid (Rv 140 #[.agg (Ns Y1), .agg (Ns X1)] (.agg (Ns M1))))
    (H2 : Hid (Rv 140 #[.agg (Ns Y2), .agg (Ns X2)] (.agg (Ns M2))))
    (H3 : Hid (Rv 84 #[.agg (Ns M1), .agg (Ns M2)] (.agg (Ns A))))
    (H4 : Hid (Rv 80 #[.agg (Ns Y1), .agg (Ns X1)] (.agg (Ns P1))))
    (H5 : Hid (Rv 80 #[.agg (Ns Y2), .agg (Ns X2)] (.agg (Ns P2))))
    (H6 : Hid (Rv 84 #[.agg (Ns P1), .agg (Ns P2)] (.agg (Ns B))))
    (H7 : Hid (Rv 84 #[.agg (Ns T1), .agg (Ns TW)] (.agg (Ns C1))))
    (H8 : Hid (Rv 84 #[.agg (Ns C1), .agg (Ns T2)] (.agg (Ns C))))
    (H9 : Hid (Rv 84 #[.agg (Ns Z1), .agg (Ns Z2)] (.agg (Ns D0))))
    (J1 : Hid (Rv 80 #[.agg (Ns D0), .agg (Ns D0)] (.agg (Ns D))))
    (J2 : Hid (Rv 140 #[.agg (Ns B), .agg (Ns A)] (.agg (Ns E))))
    (J3 : Hid (Rv 140 #[.agg (Ns D), .agg (Ns C)] (.agg (Ns F))))
    (J4 : Hid (Rv 80 #[.agg (Ns D), .agg (Ns C)] (.agg (Ns G))))
    (J5 : Hid (Rv 80 #[.agg (Ns B), .agg (Ns A)] (.agg (Ns H))))
    (J6 : Hid (Rv 84 #[.agg (Ns E), .agg (Ns F)] (.agg (Ns RX))))
    (J7 : Hid (Rv 84 #[.agg (Ns G), .agg (Ns H)] (.agg (Ns RY))))
    (J8 : Hid (Rv 84 #[.agg (Ns F), .agg (Ns G)] (.agg (Ns RZ))))
    (J9 : Hid (Rv 84 #[.agg (Ns E), .agg (Ns H)] (.agg (Ns RT)))) :
    Calls Tryz.prog 82 #[.agg (Ns (Rp.qt X1 Y1 Z1 T1)), .agg (Ns (Rp.qt X2 Y2 Z2 T2)), .agg (Ns TW)] w fun e w' => e = .returned (.agg (Ns (Rp.qt RX RY RZ RT))) ∧ Below w.heap.size w w' := by
  have hz := zero16
  have hz2 := Rp.zero64
  have sX1 : (Ns X1).size = 16 := by rw [Ns_size, hX1]
  have sY1 : (Ns Y1).size = 16 := by rw [Ns_size, hY1]
  have sZ1 : (Ns Z1).size = 16 := by rw [Ns_size, hZ1]
  have sT1 : (Ns T1).size = 16 := by rw [Ns_size, hT1]
  have sX2 : (Ns X2).size = 16 := by rw [Ns_size, hX2]
  have sY2 : (Ns Y2).size = 16 := by rw [Ns_size, hY2]
  have sZ2 : (Ns Z2).size = 16 := by rw [Ns_size, hZ2]
  have sT2 : (Ns T2).size = 16 := by rw [Ns_size, hT2]
  have sTW : (Ns TW).size = 16 := by rw [Ns_size, hTW]
  have sA : (Ns A).size = 16 := by rw [Ns_size, hA]
  have sB : (Ns B).size = 16 := by rw [Ns_size, hB]
  have sC : (Ns C).size = 16 := by rw [Ns_size, hC]
  have sD0 : (Ns D0).size = 16 := by rw [Ns_size, hD0]
  have sD : (Ns D).size = 16 := by rw [Ns_size, hD]
  have sE : (Ns E).size = 16 := by rw [Ns_size, hE]
  have sF : (Ns F).size = 16 := by rw [Ns_size, hF]
  have sG : (Ns G).size = 16 := by rw [Ns_size, hG]
  have sH : (Ns H).size = 16 := by rw [Ns_size, hH]
  have sRX : (Ns RX).size = 16 := by rw [Ns_size, hRX]
  have sRY : (Ns RY).size = 16 := by rw [Ns_size, hRY]
  have sRZ : (Ns RZ).size = 16 := by rw [Ns_size, hRZ]
  have sRT : (Ns RT).size = 16 := by rw [Ns_size, hRT]
  have HB : Hid (∀ wx : World, (Instr.build 61 #[(0, .agg (Ns RX)), (1, .agg (Ns RY)), (2, .agg (Ns RZ)), (3, .agg (Ns RT))]).run Tryz.prog wx = .ok (.agg (Ns (Rp.qt RX RY RZ RT))) wx) := Rp.build64 RX RY RZ RT hRX hRY hRZ hRT
  have lRR := Rp.qt_length hRX hRY hRZ hRT
  generalize Rp.qt RX RY RZ RT = RR at HB lRR ⊢
  have sRR : (Ns RR).size = 64 := by rw [Ns_size, lRR]
  have sZ := Rp.Z64_len
  generalize Rp.Z64 = ZO at hz2 sZ
  have sZ' : (Ns ZO).size = 64 := by rw [Ns_size, sZ]
  have sP : (Ns (Rp.qt X1 Y1 Z1 T1)).size = 64 := by rw [Ns_size, Rp.qt_length hX1 hY1 hZ1 hT1]
  have sQ : (Ns (Rp.qt X2 Y2 Z2 T2)).size = 64 := by rw [Ns_size, Rp.qt_length hX2 hY2 hZ2 hT2]
  have hX : WD w w.heap.size [(w.heap.size + 1 + 1 + 1, Ns ZO, 61), (w.heap.size + 1 + 1, Ns TW, 59), (w.heap.size + 1, Ns (Rp.qt X2 Y2 Z2 T2), 61), (w.heap.size, Ns (Rp.qt X1 Y1 Z1 T1), 61)] ((((w.alloc (.cells (Ns (Rp.qt X1 Y1 Z1 T1)) 61)).alloc (.cells (Ns (Rp.qt X2 Y2 Z2 T2)) 61)).alloc (.cells (Ns TW) 59)).alloc (.cells (Ns ZO) 61)) := by
    have h1 := (WD.start (w := w)).new (Ns (Rp.qt X1 Y1 Z1 T1)) 61
    have h2 := h1.new (Ns (Rp.qt X2 Y2 Z2 T2)) 61
    rw [Rp.alloc_size] at h2
    have h3 := h2.new (Ns TW) 59
    rw [Rp.alloc_size, Rp.alloc_size] at h3
    have h4 := h3.new (Ns ZO) 61
    rw [Rp.alloc_size, Rp.alloc_size, Rp.alloc_size] at h4
    exact h4
  generalize hPa : Ns (Rp.qt X1 Y1 Z1 T1) = PA at sP ⊢
  replace hPa : Hid (Ns (Rp.qt X1 Y1 Z1 T1) = PA) := hPa
  generalize hPb : Ns (Rp.qt X2 Y2 Z2 T2) = PB at sQ ⊢
  replace hPb : Hid (Ns (Rp.qt X2 Y2 Z2 T2) = PB) := hPb
  rw [hPa.out, hPb.out] at hX
  go_enter Tryz.func82, Tryz.ntmps82
  go_wp2_with fail
  rw [← hPa.out, ← hPb.out] at hX ⊢
  clear sP sQ hPa hPb
  generalize (((w.alloc (.cells (Ns (Rp.qt X1 Y1 Z1 T1)) 61)).alloc (.cells (Ns (Rp.qt X2 Y2 Z2 T2)) 61)).alloc (.cells (Ns TW) 59)).alloc (.cells (Ns ZO) 61) = w1 at hX ⊢
  refine wp_region_M (S := WD w (w.heap.size) [(w.heap.size + 1 + 1 + 1, Ns ZO, 61), (w.heap.size + 1 + 1, Ns TW, 59), (w.heap.size + 1, Ns (Rp.qt X2 Y2 Z2 T2), 61), (w.heap.size, Ns (Rp.qt X1 Y1 Z1 T1), 61)]) (ls := [12]) (by kernel_rfl) ?_
  have hX0 : WD w (w.heap.size) [(w.heap.size + 1 + 1 + 1, Ns ZO, 61), (w.heap.size + 1 + 1, Ns TW, 59), (w.heap.size + 1, Ns (Rp.qt X2 Y2 Z2 T2), 61), (w.heap.size, Ns (Rp.qt X1 Y1 Z1 T1), 61)] w1.drew := hX.drew
  clear hX
  generalize World.drew w1 = ad at hX0 ⊢
  refine wpAnyM_tk (i := 0) (dst := some 15) (v := ?va0) rfl rfl (by kernel_rfl) (fun _ _ _ h => h) (Or.inl ⟨by rfl, ?hya0⟩) hX0 ?rea0
  case hya0 => (intro wx hSx; clear hSx; go_simp; try (with_reducible rfl))
  refine wpAnyM_tk (i := 1) (dst := some 16) (v := .agg (Ns Y1)) rfl rfl (by kernel_rfl) (fun _ _ _ h => h) (Or.inl ⟨by rfl, ?hya1⟩) hX0 ?rea1
  case hya1 => exact fun wx hSx => Rp.exec_mid 59 _ rfl (w.heap.size) 16 rfl (Ns Y1) _ (Rp.ptY (hSx.get 3 rfl) hX1) Tryz.underlying59 rfl (by rw [sY1]; exact Tryz.info16)
  refine wpAnyM_tk (i := 2) (dst := some 17) (v := ?va2) rfl rfl (by kernel_rfl) (fun _ _ _ h => h) (Or.inl ⟨by rfl, ?hya2⟩) hX0 ?rea2
  case hya2 => (intro wx hSx; clear hSx; go_simp; try (with_reducible rfl))
  simp only [Act.put, qA, qB, qC]
  refine wpAnyM_tk (i := 3) (dst := some 18) (v := .agg (Ns X1)) rfl rfl (by kernel_rfl) (fun _ _ _ h => h) (Or.inl ⟨by rfl, ?hya3⟩) hX0 ?rea3
  case hya3 => exact fun wx hSx => Rp.exec_mid 59 _ rfl (w.heap.size) 0 rfl (Ns X1) _ (Rp.ptX (hSx.get 3 rfl)) Tryz.underlying59 rfl (by rw [sX1]; exact Tryz.info16)
  refine wpAnyM_tk (i := 5) (dst := some 20) (v := ?va5) rfl rfl (by kernel_rfl) (fun _ _ _ h => h) (Or.inl ⟨by rfl, ?hya5⟩) hX0 ?rea5
  case hya5 => (intro wx hSx; clear hSx; go_simp; try (with_reducible rfl))
  refine wpAnyM_tk (i := 6) (dst := some 21) (v := .agg (Ns Y2)) rfl rfl (by kernel_rfl) (fun _ _ _ h => h) (Or.inl ⟨by rfl, ?hya6⟩) hX0 ?rea6
  case hya6 => exact fun wx hSx => Rp.exec_mid 59 _ rfl (w.heap.size + 1) 16 rfl (Ns Y2) _ (Rp.ptY (hSx.get 2 rfl) hX2) Tryz.underlying59 rfl (by rw [sY2]; exact Tryz.info16)
  simp only [Act.put, qA, qB, qC]
  refine wpAnyM_tk (i := 7) (dst := some 22) (v := ?va7) rfl rfl (by kernel_rfl) (fun _ _ _ h => h) (Or.inl ⟨by rfl, ?hya7⟩) hX0 ?rea7
  case hya7 => (intro wx hSx; clear hSx; go_simp; try (with_reducible rfl))
  refine wpAnyM_tk (i := 8) (dst := some 23) (v := .agg (Ns X2)) rfl rfl (by kernel_rfl) (fun _ _ _ h => h) (Or.inl ⟨by rfl, ?hya8⟩) hX0 ?rea8
  case hya8 => exact fun wx hSx => Rp.exec_mid 59 _ rfl (w.heap.size + 1) 0 rfl (Ns X2) _ (Rp.ptX (hSx.get 2 rfl)) Tryz.underlying59 rfl (by rw [sX2]; exact Tryz.info16)
  try simp only [Act.put, qA, qB, qC]
  change wpAnyM _ _ _ _ _ _ 5 #[true, true, true, true, false, true, true, true, true, false, false, false, false] _ _
  refine wpAnyM_phaseU2 (R := fun d u w' => (d 4 = true → u 19 = .agg (Ns M1)) ∧ (d 9 = true → u 24 = .agg (Ns M2)) ∧ (d 10 = true → u 25 = .agg (Ns A)) ∧ (d 11 = true → Fresh w (w.heap.size) [(w.heap.size + 1 + 1 + 1, Ns ZO, 61), (w.heap.size + 1 + 1, Ns TW, 59), (w.heap.size + 1, Ns (Rp.qt X2 Y2 Z2 T2), 61), (w.heap.size, Ns (Rp.qt X1 Y1 Z1 T1), 61)] (Ns Fd.none16) 59 (u 7) w') ∧ WD w (w.heap.size) [(w.heap.size + 1 + 1 + 1, Ns ZO, 61), (w.heap.size + 1 + 1, Ns TW, 59), (w.heap.size + 1, Ns (Rp.qt X2 Y2 Z2 T2), 61), (w.heap.size, Ns (Rp.qt X1 Y1 Z1 T1), 61)] w') [19, 24, 25, 7] [4, 9, 10, 11] #[true, true, true, true, true, true, true, true, true, true, true, true, false] (by kernel_rfl) (by kernel_rfl) (by kernel_rfl) ⟨fun h => Bool.noConfusion h, fun h => Bool.noConfusion h, fun h => Bool.noConfusion h, fun h => Bool.noConfusion h, hX0⟩ ?stepsa ?fina
  case stepsa =>
    refine StepsU.cons rfl ?sa4 (StepsU.cons rfl ?sa9 (StepsU.cons rfl ?sa10 (StepsU.cons rfl ?sa11 StepsU.nil)))
    case sa4 =>
      rintro d u wx ⟨h4, h9, h10, h11, hX⟩ hd K hK
      simp only [layS, List.foldl, Act.put, qA, qB, qC]
      go_simp
      go_wp2_with (go_at_call 140; refine (H1.out _).mono ?_; rintro e x0 ⟨rfl, k0⟩)
      refine hK.out (upV u 19 (.agg (Ns M1))) _ (hX.keep k0) ⟨fun _ => rfl, fun h => h9 h, fun h => h10 h, fun h => (h11 h).keep k0, hX.keep k0⟩ _ ?_
      simp only [layS, List.foldl, Act.put, qA, qB, qC, upV, reduceIte, Nat.reduceEqDiff]
    case sa9 =>
      rintro d u wx ⟨h4, h9, h10, h11, hX⟩ hd K hK
      simp only [layS, List.foldl, Act.put, qA, qB, qC]
      go_simp
      go_wp2_with (go_at_call 140; refine (H2.out _).mono ?_; rintro e x0 ⟨rfl, k0⟩)
      refine hK.out (upV u 24 (.agg (Ns M2))) _ (hX.keep k0) ⟨fun h => h4 h, fun _ => rfl, fun h => h10 h, fun h => (h11 h).keep k0, hX.keep k0⟩ _ ?_
      simp only [layS, List.foldl, Act.put, qA, qB, qC, upV, reduceIte, Nat.reduceEqDiff]
    case sa10 =>
      rintro d u wx ⟨h4, h9, h10, h11, hX⟩ hd K hK
      have e4 := h4 (hd 4 (by kernel_rfl))
      have e9 := h9 (hd 9 (by kernel_rfl))
      simp only [layS, List.foldl, Act.put, qA, qB, qC, e4, e9]
      go_simp
      go_wp2_with (go_at_call 84; refine (H3.out _).mono ?_; rintro e x0 ⟨rfl, k0⟩)
      refine hK.out (upV u 25 (.agg (Ns A))) _ (hX.keep k0) ⟨fun h => h4 h, fun h => h9 h, fun _ => rfl, fun h => (h11 h).keep k0, hX.keep k0⟩ _ ?_
      simp only [layS, List.foldl, Act.put, qA, qB, qC, upV, reduceIte, Nat.reduceEqDiff, e4, e9]
    case sa11 =>
      rintro d u wx ⟨h4, h9, h10, h11, hX⟩ hd K hK
      simp only [layS, List.foldl, Act.put, qA, qB, qC]
      go_simp
      refine hK.out (upV u 7 (.pointer (some ⟨wx.heap.size, 0, none⟩))) _ (hX.alloc _) ⟨fun h => h4 h, fun h => h9 h, fun h => h10 h, fun _ => FreshD hX _ _, hX.alloc _⟩ _ ?_
      simp only [layS, List.foldl, Act.put, qA, qB, qC, upV, reduceIte, Nat.reduceEqDiff]
  case fina =>
    rintro n' d u ax ⟨h4, h9, h10, h11, hX⟩ hd
    have e19 := h4 (hd 4 rfl)
    have e24 := h9 (hd 9 rfl)
    have e25 := h10 (hd 10 rfl)
    obtain ⟨q7, e7, bq7, lq7, mq7⟩ := h11 (hd 11 rfl)
    simp only [layS, List.foldl, Act.put, qA, qB, qC, e19, e24, e25, e7]
    clear hd h4 h9 h10 h11 e19 e24 e25 e7
    change wpAnyM _ _ _ _ _ _ (n' + 1) _ _ _
    replace hX := hX.push bq7 mq7 (fun x hx => Nat.ne_of_lt (lq7 x hx))
    clear bq7 lq7 mq7
    refine wpAnyM_late (i := 12) (by kernel_rfl) rfl rfl (fun K hK => ?_)
    have hst := storeRowI (l := A) (hX.get 0 rfl) (by rw [hA]; rfl)
    go_simp
    refine hK.out _ _ ?_
    clear hK K hst
    replace hX : WD w (w.heap.size) [(q7, Ns A, 59), (w.heap.size + 1 + 1 + 1, Ns ZO, 61), (w.heap.size + 1 + 1, Ns TW, 59), (w.heap.size + 1, Ns (Rp.qt X2 Y2 Z2 T2), 61), (w.heap.size, Ns (Rp.qt X1 Y1 Z1 T1), 61)] (ax.setRow (q7) (Ns A)) := hX.over 0 rfl (Ns A)
    generalize ax.setRow (q7) (Ns A) = ay0 at hX ⊢
    refine wpAnyM_done (by kernel_rfl) ?_ _
    go_wp2_with fail
    refine wp_region_M (S := WD w (w.heap.size) [(q7, Ns A, 59), (w.heap.size + 1 + 1 + 1, Ns ZO, 61), (w.heap.size + 1 + 1, Ns TW, 59), (w.heap.size + 1, Ns (Rp.qt X2 Y2 Z2 T2), 61), (w.heap.size, Ns (Rp.qt X1 Y1 Z1 T1), 61)]) (ls := [12]) (by kernel_rfl) ?_
    have hX0 : WD w (w.heap.size) [(q7, Ns A, 59), (w.heap.size + 1 + 1 + 1, Ns ZO, 61), (w.heap.size + 1 + 1, Ns TW, 59), (w.heap.size + 1, Ns (Rp.qt X2 Y2 Z2 T2), 61), (w.heap.size, Ns (Rp.qt X1 Y1 Z1 T1), 61)] ay0.drew := hX.drew
    clear hX
    generalize World.drew ay0 = bd at hX0 ⊢
    refine wpAnyM_tk (i := 0) (dst := some 26) (v := ?vb0) rfl rfl (by kernel_rfl) (fun _ _ _ h => h) (Or.inl ⟨by rfl, ?hyb0⟩) hX0 ?reb0
    case hyb0 => (intro wx hSx; clear hSx; go_simp; try (with_reducible rfl))
    refine wpAnyM_tk (i := 1) (dst := some 27) (v := .agg (Ns Y1)) rfl rfl (by kernel_rfl) (fun _ _ _ h => h) (Or.inl ⟨by rfl, ?hyb1⟩) hX0 ?reb1
    case hyb1 => exact fun wx hSx => Rp.exec_mid 59 _ rfl (w.heap.size) 16 rfl (Ns Y1) _ (Rp.ptY (hSx.get 4 rfl) hX1) Tryz.underlying59 rfl (by rw [sY1]; exact Tryz.info16)
    refine wpAnyM_tk (i := 2) (dst := some 28) (v := ?vb2) rfl rfl (by kernel_rfl) (fun _ _ _ h => h) (Or.inl ⟨by rfl, ?hyb2⟩) hX0 ?reb2
    case hyb2 => (intro wx hSx; clear hSx; go_simp; try (with_reducible rfl))
    simp only [Act.put, qA, qB, qC]
    refine wpAnyM_tk (i := 3) (dst := some 29) (v := .agg (Ns X1)) rfl rfl (by kernel_rfl) (fun _ _ _ h => h) (Or.inl ⟨by rfl, ?hyb3⟩) hX0 ?reb3
    case hyb3 => exact fun wx hSx => Rp.exec_mid 59 _ rfl (w.heap.size) 0 rfl (Ns X1) _ (Rp.ptX (hSx.get 4 rfl)) Tryz.underlying59 rfl (by rw [sX1]; exact Tryz.info16)
    refine wpAnyM_tk (i := 5) (dst := some 31) (v := ?vb5) rfl rfl (by kernel_rfl) (fun _ _ _ h => h) (Or.inl ⟨by rfl, ?hyb5⟩) hX0 ?reb5
    case hyb5 => (intro wx hSx; clear hSx; go_simp; try (with_reducible rfl))
    refine wpAnyM_tk (i := 6) (dst := some 32) (v := .agg (Ns Y2)) rfl rfl (by kernel_rfl) (fun _ _ _ h => h) (Or.inl ⟨by rfl, ?hyb6⟩) hX0 ?reb6
    case hyb6 => exact fun wx hSx => Rp.exec_mid 59 _ rfl (w.heap.size + 1) 16 rfl (Ns Y2) _ (Rp.ptY (hSx.get 3 rfl) hX2) Tryz.underlying59 rfl (by rw [sY2]; exact Tryz.info16)
    simp only [Act.put, qA, qB, qC]
    refine wpAnyM_tk (i := 7) (dst := some 33) (v := ?vb7) rfl rfl (by kernel_rfl) (fun _ _ _ h => h) (Or.inl ⟨by rfl, ?hyb7⟩) hX0 ?reb7
    case hyb7 => (intro wx hSx; clear hSx; go_simp; try (with_reducible rfl))
    refine wpAnyM_tk (i := 8) (dst := some 34) (v := .agg (Ns X2)) rfl rfl (by kernel_rfl) (fun _ _ _ h => h) (Or.inl ⟨by rfl, ?hyb8⟩) hX0 ?reb8
    case hyb8 => exact fun wx hSx => Rp.exec_mid 59 _ rfl (w.heap.size + 1) 0 rfl (Ns X2) _ (Rp.ptX (hSx.get 3 rfl)) Tryz.underlying59 rfl (by rw [sX2]; exact Tryz.info16)
    try simp only [Act.put, qA, qB, qC]
    change wpAnyM _ _ _ _ _ _ 5 #[true, true, true, true, false, true, true, true, true, false, false, false, false] _ _
    refine wpAnyM_phaseU2 (R := fun d u w' => (d 4 = true → u 30 = .agg (Ns P1)) ∧ (d 9 = true → u 35 = .agg (Ns P2)) ∧ (d 10 = true → u 36 = .agg (Ns B)) ∧ (d 11 = true → Fresh w (w.heap.size) [(q7, Ns A, 59), (w.heap.size + 1 + 1 + 1, Ns ZO, 61), (w.heap.size + 1 + 1, Ns TW, 59), (w.heap.size + 1, Ns (Rp.qt X2 Y2 Z2 T2), 61), (w.heap.size, Ns (Rp.qt X1 Y1 Z1 T1), 61)] (Ns Fd.none16) 59 (u 8) w') ∧ WD w (w.heap.size) [(q7, Ns A, 59), (w.heap.size + 1 + 1 + 1, Ns ZO, 61), (w.heap.size + 1 + 1, Ns TW, 59), (w.heap.size + 1, Ns (Rp.qt X2 Y2 Z2 T2), 61), (w.heap.size, Ns (Rp.qt X1 Y1 Z1 T1), 61)] w') [30, 35, 36, 8] [4, 9, 10, 11] #[true, true, true, true, true, true, true, true, true, true, true, true, false] (by kernel_rfl) (by kernel_rfl) (by kernel_rfl) ⟨fun h => Bool.noConfusion h, fun h => Bool.noConfusion h, fun h => Bool.noConfusion h, fun h => Bool.noConfusion h, hX0⟩ ?stepsb ?finb
    case stepsb =>
      refine StepsU.cons rfl ?sb4 (StepsU.cons rfl ?sb9 (StepsU.cons rfl ?sb10 (StepsU.cons rfl ?sb11 StepsU.nil)))
      case sb4 =>
        rintro d u wx ⟨h4, h9, h10, h11, hX⟩ hd K hK
        simp only [layS, List.foldl, Act.put, qA, qB, qC]
        go_simp
        go_wp2_with (go_at_call 80; refine (H4.out _).mono ?_; rintro e x0 ⟨rfl, k0⟩)
        refine hK.out (upV u 30 (.agg (Ns P1))) _ (hX.keep k0) ⟨fun _ => rfl, fun h => h9 h, fun h => h10 h, fun h => (h11 h).keep k0, hX.keep k0⟩ _ ?_
        simp only [layS, List.foldl, Act.put, qA, qB, qC, upV, reduceIte, Nat.reduceEqDiff]
      case sb9 =>
        rintro d u wx ⟨h4, h9, h10, h11, hX⟩ hd K hK
        simp only [layS, List.foldl, Act.put, qA, qB, qC]
        go_simp
        go_wp2_with (go_at_call 80; refine (H5.out _).mono ?_; rintro e x0 ⟨rfl, k0⟩)
        refine hK.out (upV u 35 (.agg (Ns P2))) _ (hX.keep k0) ⟨fun h => h4 h, fun _ => rfl, fun h => h10 h, fun h => (h11 h).keep k0, hX.keep k0⟩ _ ?_
        simp only [layS, List.foldl, Act.put, qA, qB, qC, upV, reduceIte, Nat.reduceEqDiff]
      case sb10 =>
        rintro d u wx ⟨h4, h9, h10, h11, hX⟩ hd K hK
        have e4 := h4 (hd 4 (by kernel_rfl))
        have e9 := h9 (hd 9 (by kernel_rfl))
        simp only [layS, List.foldl, Act.put, qA, qB, qC, e4, e9]
        go_simp
        go_wp2_with (go_at_call 84; refine (H6.out _).mono ?_; rintro e x0 ⟨rfl, k0⟩)
        refine hK.out (upV u 36 (.agg (Ns B))) _ (hX.keep k0) ⟨fun h => h4 h, fun h => h9 h, fun _ => rfl, fun h => (h11 h).keep k0, hX.keep k0⟩ _ ?_
        simp only [layS, List.foldl, Act.put, qA, qB, qC, upV, reduceIte, Nat.reduceEqDiff, e4, e9]
      case sb11 =>
        rintro d u wx ⟨h4, h9, h10, h11, hX⟩ hd K hK
        simp only [layS, List.foldl, Act.put, qA, qB, qC]
        go_simp
        refine hK.out (upV u 8 (.pointer (some ⟨wx.heap.size, 0, none⟩))) _ (hX.alloc _) ⟨fun h => h4 h, fun h => h9 h, fun h => h10 h, fun _ => FreshD hX _ _, hX.alloc _⟩ _ ?_
        simp only [layS, List.foldl, Act.put, qA, qB, qC, upV, reduceIte, Nat.reduceEqDiff]
    case finb =>
      rintro n' d u bx ⟨h4, h9, h10, h11, hX⟩ hd
      have e30 := h4 (hd 4 rfl)
      have e35 := h9 (hd 9 rfl)
      have e36 := h10 (hd 10 rfl)
      obtain ⟨q8, e8, bq8, lq8, mq8⟩ := h11 (hd 11 rfl)
      simp only [layS, List.foldl, Act.put, qA, qB, qC, e30, e35, e36, e8]
      clear hd h4 h9 h10 h11 e30 e35 e36 e8
      change wpAnyM _ _ _ _ _ _ (n' + 1) _ _ _
      replace hX := hX.push bq8 mq8 (fun x hx => Nat.ne_of_lt (lq8 x hx))
      clear bq8 lq8 mq8
      refine wpAnyM_late (i := 12) (by kernel_rfl) rfl rfl (fun K hK => ?_)
      have hst := storeRowI (l := B) (hX.get 0 rfl) (by rw [hB]; rfl)
      go_simp
      refine hK.out _ _ ?_
      clear hK K hst
      replace hX : WD w (w.heap.size) [(q8, Ns B, 59), (q7, Ns A, 59), (w.heap.size + 1 + 1 + 1, Ns ZO, 61), (w.heap.size + 1 + 1, Ns TW, 59), (w.heap.size + 1, Ns (Rp.qt X2 Y2 Z2 T2), 61), (w.heap.size, Ns (Rp.qt X1 Y1 Z1 T1), 61)] (bx.setRow (q8) (Ns B)) := hX.over 0 rfl (Ns B)
      generalize bx.setRow (q8) (Ns B) = by0 at hX ⊢
      refine wpAnyM_done (by kernel_rfl) ?_ _
      go_wp2_with fail
      refine wp_region_M (S := WD w (w.heap.size) [(q8, Ns B, 59), (q7, Ns A, 59), (w.heap.size + 1 + 1 + 1, Ns ZO, 61), (w.heap.size + 1 + 1, Ns TW, 59), (w.heap.size + 1, Ns (Rp.qt X2 Y2 Z2 T2), 61), (w.heap.size, Ns (Rp.qt X1 Y1 Z1 T1), 61)]) (ls := [8]) (by kernel_rfl) ?_
      have hX0 : WD w (w.heap.size) [(q8, Ns B, 59), (q7, Ns A, 59), (w.heap.size + 1 + 1 + 1, Ns ZO, 61), (w.heap.size + 1 + 1, Ns TW, 59), (w.heap.size + 1, Ns (Rp.qt X2 Y2 Z2 T2), 61), (w.heap.size, Ns (Rp.qt X1 Y1 Z1 T1), 61)] by0.drew := hX.drew
      clear hX
      generalize World.drew by0 = cd at hX0 ⊢
      refine wpAnyM_tk (i := 0) (dst := some 37) (v := ?vc0) rfl rfl (by kernel_rfl) (fun _ _ _ h => h) (Or.inl ⟨by rfl, ?hyc0⟩) hX0 ?rec0
      case hyc0 => (intro wx hSx; clear hSx; go_simp; try (with_reducible rfl))
      refine wpAnyM_tk (i := 1) (dst := some 38) (v := .agg (Ns T1)) rfl rfl (by kernel_rfl) (fun _ _ _ h => h) (Or.inl ⟨by rfl, ?hyc1⟩) hX0 ?rec1
      case hyc1 => exact fun wx hSx => Rp.exec_mid 59 _ rfl (w.heap.size) 48 rfl (Ns T1) _ (Rp.ptT (hSx.get 5 rfl) hX1 hY1 hZ1) Tryz.underlying59 rfl (by rw [sT1]; exact Tryz.info16)
      refine wpAnyM_tk (i := 2) (dst := some 39) (v := .agg (Ns TW)) rfl rfl (by kernel_rfl) (fun _ _ _ h => h) (Or.inl ⟨by rfl, ?hyc2⟩) hX0 ?rec2
      case hyc2 => exact fun wx hSx => exec_load_row 59 _ rfl (w.heap.size + 1 + 1) rfl 59 _ (0, 0) _ (hSx.get 3 rfl) Tryz.underlying59 rfl (by rw [sTW]; exact Tryz.info16)
      simp only [Act.put, qA, qB, qC]
      refine wpAnyM_tk (i := 4) (dst := some 41) (v := ?vc4) rfl rfl (by kernel_rfl) (fun _ _ _ h => h) (Or.inl ⟨by rfl, ?hyc4⟩) hX0 ?rec4
      case hyc4 => (intro wx hSx; clear hSx; go_simp; try (with_reducible rfl))
      refine wpAnyM_tk (i := 5) (dst := some 42) (v := .agg (Ns T2)) rfl rfl (by kernel_rfl) (fun _ _ _ h => h) (Or.inl ⟨by rfl, ?hyc5⟩) hX0 ?rec5
      case hyc5 => exact fun wx hSx => Rp.exec_mid 59 _ rfl (w.heap.size + 1) 48 rfl (Ns T2) _ (Rp.ptT (hSx.get 4 rfl) hX2 hY2 hZ2) Tryz.underlying59 rfl (by rw [sT2]; exact Tryz.info16)
      try simp only [Act.put, qA, qB, qC]
      change wpAnyM _ _ _ _ _ _ 4 #[true, true, true, false, true, true, false, false, false] _ _
      refine wpAnyM_phaseU2 (R := fun d u w' => (d 3 = true → u 40 = .agg (Ns C1)) ∧ (d 6 = true → u 43 = .agg (Ns C)) ∧ (d 7 = true → Fresh w (w.heap.size) [(q8, Ns B, 59), (q7, Ns A, 59), (w.heap.size + 1 + 1 + 1, Ns ZO, 61), (w.heap.size + 1 + 1, Ns TW, 59), (w.heap.size + 1, Ns (Rp.qt X2 Y2 Z2 T2), 61), (w.heap.size, Ns (Rp.qt X1 Y1 Z1 T1), 61)] (Ns Fd.none16) 59 (u 9) w') ∧ WD w (w.heap.size) [(q8, Ns B, 59), (q7, Ns A, 59), (w.heap.size + 1 + 1 + 1, Ns ZO, 61), (w.heap.size + 1 + 1, Ns TW, 59), (w.heap.size + 1, Ns (Rp.qt X2 Y2 Z2 T2), 61), (w.heap.size, Ns (Rp.qt X1 Y1 Z1 T1), 61)] w') [40, 43, 9] [3, 6, 7] #[true, true, true, true, true, true, true, true, false] (by kernel_rfl) (by kernel_rfl) (by kernel_rfl) ⟨fun h => Bool.noConfusion h, fun h => Bool.noConfusion h, fun h => Bool.noConfusion h, hX0⟩ ?stepsc ?finc
      case stepsc =>
        refine StepsU.cons rfl ?sc3 (StepsU.cons rfl ?sc6 (StepsU.cons rfl ?sc7 StepsU.nil))
        case sc3 =>
          rintro d u wx ⟨h3, h6, h7, hX⟩ hd K hK
          simp only [layS, List.foldl, Act.put, qA, qB, qC]
          go_simp
          go_wp2_with (go_at_call 84; refine (H7.out _).mono ?_; rintro e x0 ⟨rfl, k0⟩)
          refine hK.out (upV u 40 (.agg (Ns C1))) _ (hX.keep k0) ⟨fun _ => rfl, fun h => h6 h, fun h => (h7 h).keep k0, hX.keep k0⟩ _ ?_
          simp only [layS, List.foldl, Act.put, qA, qB, qC, upV, reduceIte, Nat.reduceEqDiff]
        case sc6 =>
          rintro d u wx ⟨h3, h6, h7, hX⟩ hd K hK
          have e3 := h3 (hd 3 (by kernel_rfl))
          simp only [layS, List.foldl, Act.put, qA, qB, qC, e3]
          go_simp
          go_wp2_with (go_at_call 84; refine (H8.out _).mono ?_; rintro e x0 ⟨rfl, k0⟩)
          refine hK.out (upV u 43 (.agg (Ns C))) _ (hX.keep k0) ⟨fun h => h3 h, fun _ => rfl, fun h => (h7 h).keep k0, hX.keep k0⟩ _ ?_
          simp only [layS, List.foldl, Act.put, qA, qB, qC, upV, reduceIte, Nat.reduceEqDiff, e3]
        case sc7 =>
          rintro d u wx ⟨h3, h6, h7, hX⟩ hd K hK
          simp only [layS, List.foldl, Act.put, qA, qB, qC]
          go_simp
          refine hK.out (upV u 9 (.pointer (some ⟨wx.heap.size, 0, none⟩))) _ (hX.alloc _) ⟨fun h => h3 h, fun h => h6 h, fun _ => FreshD hX _ _, hX.alloc _⟩ _ ?_
          simp only [layS, List.foldl, Act.put, qA, qB, qC, upV, reduceIte, Nat.reduceEqDiff]
      case finc =>
        rintro n' d u cx ⟨h3, h6, h7, hX⟩ hd
        have e40 := h3 (hd 3 rfl)
        have e43 := h6 (hd 6 rfl)
        obtain ⟨q9, e9, bq9, lq9, mq9⟩ := h7 (hd 7 rfl)
        simp only [layS, List.foldl, Act.put, qA, qB, qC, e40, e43, e9]
        clear hd h3 h6 h7 e40 e43 e9
        change wpAnyM _ _ _ _ _ _ (n' + 1) _ _ _
        replace hX := hX.push bq9 mq9 (fun x hx => Nat.ne_of_lt (lq9 x hx))
        clear bq9 lq9 mq9
        refine wpAnyM_late (i := 8) (by kernel_rfl) rfl rfl (fun K hK => ?_)
        have hst := storeRowI (l := C) (hX.get 0 rfl) (by rw [hC]; rfl)
        go_simp
        refine hK.out _ _ ?_
        clear hK K hst
        replace hX : WD w (w.heap.size) [(q9, Ns C, 59), (q8, Ns B, 59), (q7, Ns A, 59), (w.heap.size + 1 + 1 + 1, Ns ZO, 61), (w.heap.size + 1 + 1, Ns TW, 59), (w.heap.size + 1, Ns (Rp.qt X2 Y2 Z2 T2), 61), (w.heap.size, Ns (Rp.qt X1 Y1 Z1 T1), 61)] (cx.setRow (q9) (Ns C)) := hX.over 0 rfl (Ns C)
        generalize cx.setRow (q9) (Ns C) = cy0 at hX ⊢
        refine wpAnyM_done (by kernel_rfl) ?_ _
        have c1 := Rp.ptZ (hX.get 6 rfl) hX1 hY1
        have c2 := Rp.ptZ (hX.get 5 rfl) hX2 hY2
        go_wp2_with (first
          | (refine Rp.wpList_mid rfl 59 _ rfl (w.heap.size) 32 rfl (Ns Z1) _ c1 Tryz.underlying59 rfl (by rw [sZ1]; exact Tryz.info16) ?_)
          | (refine Rp.wpList_mid rfl 59 _ rfl (w.heap.size + 1) 32 rfl (Ns Z2) _ c2 Tryz.underlying59 rfl (by rw [sZ2]; exact Tryz.info16) ?_))
        clear c1 c2
        refine (H9.out _).mono ?_
        rintro e x3 ⟨rfl, k3⟩
        replace hX := hX.keep k3
        clear k3
        have hN := hX.new (Ns Fd.none16) 59
        have g4 := hN.gt 0 rfl
        replace hX : WD w (w.heap.size) [(x3.heap.size, Ns D0, 59), (q9, Ns C, 59), (q8, Ns B, 59), (q7, Ns A, 59), (w.heap.size + 1 + 1 + 1, Ns ZO, 61), (w.heap.size + 1 + 1, Ns TW, 59), (w.heap.size + 1, Ns (Rp.qt X2 Y2 Z2 T2), 61), (w.heap.size, Ns (Rp.qt X1 Y1 Z1 T1), 61)] ((x3.alloc (.cells (Ns Fd.none16) 59)).setRow x3.heap.size (Ns D0)) := hN.over 0 rfl (Ns D0)
        have g5 := hX.gt 0 rfl
        go_wp2_with (first
          | (refine stN rfl rfl x3.heap.size rfl rfl g4 sD0 rfl ?_)
          | (refine ldN rfl rfl (x3.heap.size) rfl g5 sD0 ?_))
        clear hN g4 g5
        generalize (x3.alloc (.cells (Ns Fd.none16) 59)).setRow x3.heap.size (Ns D0) = v6 at hX ⊢
        generalize x3.heap.size = q10 at hX ⊢
        refine (J1.out _).mono ?_
        rintro e x7 ⟨rfl, k7⟩
        replace hX := hX.keep k7
        clear k7
        have g8 := hX.gt 0 rfl
        replace hX : WD w (w.heap.size) [(q10, Ns D, 59), (q9, Ns C, 59), (q8, Ns B, 59), (q7, Ns A, 59), (w.heap.size + 1 + 1 + 1, Ns ZO, 61), (w.heap.size + 1 + 1, Ns TW, 59), (w.heap.size + 1, Ns (Rp.qt X2 Y2 Z2 T2), 61), (w.heap.size, Ns (Rp.qt X1 Y1 Z1 T1), 61)] (x7.setRow (q10) (Ns D)) := hX.over 0 rfl (Ns D)
        have g9 := hX.gt 2 rfl
        have g10 := hX.gt 3 rfl
        go_wp2_with (first
          | (refine stN rfl rfl (q10) rfl rfl g8 sD sD0 ?_)
          | (refine ldN rfl rfl (q8) rfl g9 sB ?_)
          | (refine ldN rfl rfl (q7) rfl g10 sA ?_))
        clear g8 g9 g10
        generalize x7.setRow (q10) (Ns D) = v11 at hX ⊢
        refine (J2.out _).mono ?_
        rintro e x12 ⟨rfl, k12⟩
        replace hX := hX.keep k12
        clear k12
        have hN := hX.new (Ns Fd.none16) 59
        have g13 := hN.gt 0 rfl
        replace hX : WD w (w.heap.size) [(x12.heap.size, Ns E, 59), (q10, Ns D, 59), (q9, Ns C, 59), (q8, Ns B, 59), (q7, Ns A, 59), (w.heap.size + 1 + 1 + 1, Ns ZO, 61), (w.heap.size + 1 + 1, Ns TW, 59), (w.heap.size + 1, Ns (Rp.qt X2 Y2 Z2 T2), 61), (w.heap.size, Ns (Rp.qt X1 Y1 Z1 T1), 61)] ((x12.alloc (.cells (Ns Fd.none16) 59)).setRow x12.heap.size (Ns E)) := hN.over 0 rfl (Ns E)
        have g14 := hX.gt 1 rfl
        have g15 := hX.gt 2 rfl
        go_wp2_with (first
          | (refine stN rfl rfl x12.heap.size rfl rfl g13 sE rfl ?_)
          | (refine ldN rfl rfl (q10) rfl g14 sD ?_)
          | (refine ldN rfl rfl (q9) rfl g15 sC ?_))
        clear hN g13 g14 g15
        generalize (x12.alloc (.cells (Ns Fd.none16) 59)).setRow x12.heap.size (Ns E) = v16 at hX ⊢
        generalize x12.heap.size = q11 at hX ⊢
        refine (J3.out _).mono ?_
        rintro e x17 ⟨rfl, k17⟩
        replace hX := hX.keep k17
        clear k17
        have hN := hX.new (Ns Fd.none16) 59
        have g18 := hN.gt 0 rfl
        replace hX : WD w (w.heap.size) [(x17.heap.size, Ns F, 59), (q11, Ns E, 59), (q10, Ns D, 59), (q9, Ns C, 59), (q8, Ns B, 59), (q7, Ns A, 59), (w.heap.size + 1 + 1 + 1, Ns ZO, 61), (w.heap.size + 1 + 1, Ns TW, 59), (w.heap.size + 1, Ns (Rp.qt X2 Y2 Z2 T2), 61), (w.heap.size, Ns (Rp.qt X1 Y1 Z1 T1), 61)] ((x17.alloc (.cells (Ns Fd.none16) 59)).setRow x17.heap.size (Ns F)) := hN.over 0 rfl (Ns F)
        have g19 := hX.gt 2 rfl
        have g20 := hX.gt 3 rfl
        go_wp2_with (first
          | (refine stN rfl rfl x17.heap.size rfl rfl g18 sF rfl ?_)
          | (refine ldN rfl rfl (q10) rfl g19 sD ?_)
          | (refine ldN rfl rfl (q9) rfl g20 sC ?_))
        clear hN g18 g19 g20
        generalize (x17.alloc (.cells (Ns Fd.none16) 59)).setRow x17.heap.size (Ns F) = v21 at hX ⊢
        generalize x17.heap.size = q12 at hX ⊢
        refine (J4.out _).mono ?_
        rintro e x22 ⟨rfl, k22⟩
        replace hX := hX.keep k22
        clear k22
        have hN := hX.new (Ns Fd.none16) 59
        have g23 := hN.gt 0 rfl
        replace hX : WD w (w.heap.size) [(x22.heap.size, Ns G, 59), (q12, Ns F, 59), (q11, Ns E, 59), (q10, Ns D, 59), (q9, Ns C, 59), (q8, Ns B, 59), (q7, Ns A, 59), (w.heap.size + 1 + 1 + 1, Ns ZO, 61), (w.heap.size + 1 + 1, Ns TW, 59), (w.heap.size + 1, Ns (Rp.qt X2 Y2 Z2 T2), 61), (w.heap.size, Ns (Rp.qt X1 Y1 Z1 T1), 61)] ((x22.alloc (.cells (Ns Fd.none16) 59)).setRow x22.heap.size (Ns G)) := hN.over 0 rfl (Ns G)
        have g24 := hX.gt 5 rfl
        have g25 := hX.gt 6 rfl
        go_wp2_with (first
          | (refine stN rfl rfl x22.heap.size rfl rfl g23 sG rfl ?_)
          | (refine ldN rfl rfl (q8) rfl g24 sB ?_)
          | (refine ldN rfl rfl (q7) rfl g25 sA ?_))
        clear hN g23 g24 g25
        generalize (x22.alloc (.cells (Ns Fd.none16) 59)).setRow x22.heap.size (Ns G) = v26 at hX ⊢
        generalize x22.heap.size = q13 at hX ⊢
        refine (J5.out _).mono ?_
        rintro e x27 ⟨rfl, k27⟩
        replace hX := hX.keep k27
        clear k27
        have hN := hX.new (Ns Fd.none16) 59
        have g28 := hN.gt 0 rfl
        replace hX : WD w (w.heap.size) [(x27.heap.size, Ns H, 59), (q13, Ns G, 59), (q12, Ns F, 59), (q11, Ns E, 59), (q10, Ns D, 59), (q9, Ns C, 59), (q8, Ns B, 59), (q7, Ns A, 59), (w.heap.size + 1 + 1 + 1, Ns ZO, 61), (w.heap.size + 1 + 1, Ns TW, 59), (w.heap.size + 1, Ns (Rp.qt X2 Y2 Z2 T2), 61), (w.heap.size, Ns (Rp.qt X1 Y1 Z1 T1), 61)] ((x27.alloc (.cells (Ns Fd.none16) 59)).setRow x27.heap.size (Ns H)) := hN.over 0 rfl (Ns H)
        go_wp2_with (first
          | (refine stN rfl rfl x27.heap.size rfl rfl g28 sH rfl ?_))
        clear hN g28
        generalize (x27.alloc (.cells (Ns Fd.none16) 59)).setRow x27.heap.size (Ns H) = v29 at hX ⊢
        generalize x27.heap.size = q14 at hX ⊢
        replace hX : WD w (w.heap.size) [(q14, Ns H, 59), (q13, Ns G, 59), (q12, Ns F, 59), (q11, Ns E, 59), (w.heap.size + 1 + 1 + 1, Ns ZO, 61)] v29 := hX.sub (by simp)
        refine wp_region_M (S := WD w (w.heap.size) [(q14, Ns H, 59), (q13, Ns G, 59), (q12, Ns F, 59), (q11, Ns E, 59), (w.heap.size + 1 + 1 + 1, Ns ZO, 61)]) (ls := [13]) (by kernel_rfl) ?_
        have hX0 : WD w (w.heap.size) [(q14, Ns H, 59), (q13, Ns G, 59), (q12, Ns F, 59), (q11, Ns E, 59), (w.heap.size + 1 + 1 + 1, Ns ZO, 61)] v29.drew := hX.drew
        clear hX
        generalize World.drew v29 = dd at hX0 ⊢
        refine wpAnyM_tk (i := 0) (dst := some 64) (v := .agg (Ns E)) rfl rfl (by kernel_rfl) (fun _ _ _ h => h) (Or.inl ⟨by rfl, ?hyd0⟩) hX0 ?red0
        case hyd0 => exact fun wx hSx => exec_load_row 59 _ rfl (q11) rfl 59 _ (0, 0) _ (hSx.get 3 rfl) Tryz.underlying59 rfl (by rw [sE]; exact Tryz.info16)
        refine wpAnyM_tk (i := 1) (dst := some 65) (v := .agg (Ns F)) rfl rfl (by kernel_rfl) (fun _ _ _ h => h) (Or.inl ⟨by rfl, ?hyd1⟩) hX0 ?red1
        case hyd1 => exact fun wx hSx => exec_load_row 59 _ rfl (q12) rfl 59 _ (0, 0) _ (hSx.get 2 rfl) Tryz.underlying59 rfl (by rw [sF]; exact Tryz.info16)
        refine wpAnyM_tk (i := 3) (dst := some 67) (v := .agg (Ns G)) rfl rfl (by kernel_rfl) (fun _ _ _ h => h) (Or.inl ⟨by rfl, ?hyd3⟩) hX0 ?red3
        case hyd3 => exact fun wx hSx => exec_load_row 59 _ rfl (q13) rfl 59 _ (0, 0) _ (hSx.get 1 rfl) Tryz.underlying59 rfl (by rw [sG]; exact Tryz.info16)
        simp only [Act.put, qA, qB, qC]
        refine wpAnyM_tk (i := 4) (dst := some 68) (v := .agg (Ns H)) rfl rfl (by kernel_rfl) (fun _ _ _ h => h) (Or.inl ⟨by rfl, ?hyd4⟩) hX0 ?red4
        case hyd4 => exact fun wx hSx => exec_load_row 59 _ rfl (q14) rfl 59 _ (0, 0) _ (hSx.get 0 rfl) Tryz.underlying59 rfl (by rw [sH]; exact Tryz.info16)
        refine wpAnyM_tk (i := 6) (dst := some 70) (v := .agg (Ns F)) rfl rfl (by kernel_rfl) (fun _ _ _ h => h) (Or.inl ⟨by rfl, ?hyd6⟩) hX0 ?red6
        case hyd6 => exact fun wx hSx => exec_load_row 59 _ rfl (q12) rfl 59 _ (0, 0) _ (hSx.get 2 rfl) Tryz.underlying59 rfl (by rw [sF]; exact Tryz.info16)
        refine wpAnyM_tk (i := 7) (dst := some 71) (v := .agg (Ns G)) rfl rfl (by kernel_rfl) (fun _ _ _ h => h) (Or.inl ⟨by rfl, ?hyd7⟩) hX0 ?red7
        case hyd7 => exact fun wx hSx => exec_load_row 59 _ rfl (q13) rfl 59 _ (0, 0) _ (hSx.get 1 rfl) Tryz.underlying59 rfl (by rw [sG]; exact Tryz.info16)
        simp only [Act.put, qA, qB, qC]
        refine wpAnyM_tk (i := 9) (dst := some 73) (v := .agg (Ns E)) rfl rfl (by kernel_rfl) (fun _ _ _ h => h) (Or.inl ⟨by rfl, ?hyd9⟩) hX0 ?red9
        case hyd9 => exact fun wx hSx => exec_load_row 59 _ rfl (q11) rfl 59 _ (0, 0) _ (hSx.get 3 rfl) Tryz.underlying59 rfl (by rw [sE]; exact Tryz.info16)
        refine wpAnyM_tk (i := 10) (dst := some 74) (v := .agg (Ns H)) rfl rfl (by kernel_rfl) (fun _ _ _ h => h) (Or.inl ⟨by rfl, ?hyd10⟩) hX0 ?red10
        case hyd10 => exact fun wx hSx => exec_load_row 59 _ rfl (q14) rfl 59 _ (0, 0) _ (hSx.get 0 rfl) Tryz.underlying59 rfl (by rw [sH]; exact Tryz.info16)
        try simp only [Act.put, qA, qB, qC]
        change wpAnyM _ _ _ _ _ _ 6 #[true, true, false, true, true, false, true, true, false, true, true, false, false, false] _ _
        refine wpAnyM_phaseU2 (R := fun d u w' => (d 2 = true → u 66 = .agg (Ns RX)) ∧ (d 5 = true → u 69 = .agg (Ns RY)) ∧ (d 8 = true → u 72 = .agg (Ns RZ)) ∧ (d 11 = true → u 75 = .agg (Ns RT)) ∧ (d 12 = true → u 76 = .agg (Ns RR)) ∧ WD w (w.heap.size) [(q14, Ns H, 59), (q13, Ns G, 59), (q12, Ns F, 59), (q11, Ns E, 59), (w.heap.size + 1 + 1 + 1, Ns ZO, 61)] w') [66, 69, 72, 75, 76] [2, 5, 8, 11, 12] #[true, true, true, true, true, true, true, true, true, true, true, true, true, false] (by kernel_rfl) (by kernel_rfl) (by kernel_rfl) ⟨fun h => Bool.noConfusion h, fun h => Bool.noConfusion h, fun h => Bool.noConfusion h, fun h => Bool.noConfusion h, fun h => Bool.noConfusion h, hX0⟩ ?stepsd ?find
        case stepsd =>
          refine StepsU.cons rfl ?sd2 (StepsU.cons rfl ?sd5 (StepsU.cons rfl ?sd8 (StepsU.cons rfl ?sd11 (StepsU.cons rfl ?sd12 StepsU.nil))))
          case sd2 =>
            rintro d u wx ⟨h2, h5, h8, h11, h12, hX⟩ hd K hK
            simp only [layS, List.foldl, Act.put, qA, qB, qC]
            go_simp
            go_wp2_with (go_at_call 84; refine (J6.out _).mono ?_; rintro e x0 ⟨rfl, k0⟩)
            refine hK.out (upV u 66 (.agg (Ns RX))) _ (hX.keep k0) ⟨fun _ => rfl, fun h => h5 h, fun h => h8 h, fun h => h11 h, fun h => h12 h, hX.keep k0⟩ _ ?_
            simp only [layS, List.foldl, Act.put, qA, qB, qC, upV, reduceIte, Nat.reduceEqDiff]
          case sd5 =>
            rintro d u wx ⟨h2, h5, h8, h11, h12, hX⟩ hd K hK
            simp only [layS, List.foldl, Act.put, qA, qB, qC]
            go_simp
            go_wp2_with (go_at_call 84; refine (J7.out _).mono ?_; rintro e x0 ⟨rfl, k0⟩)
            refine hK.out (upV u 69 (.agg (Ns RY))) _ (hX.keep k0) ⟨fun h => h2 h, fun _ => rfl, fun h => h8 h, fun h => h11 h, fun h => h12 h, hX.keep k0⟩ _ ?_
            simp only [layS, List.foldl, Act.put, qA, qB, qC, upV, reduceIte, Nat.reduceEqDiff]
          case sd8 =>
            rintro d u wx ⟨h2, h5, h8, h11, h12, hX⟩ hd K hK
            simp only [layS, List.foldl, Act.put, qA, qB, qC]
            go_simp
            go_wp2_with (go_at_call 84; refine (J8.out _).mono ?_; rintro e x0 ⟨rfl, k0⟩)
            refine hK.out (upV u 72 (.agg (Ns RZ))) _ (hX.keep k0) ⟨fun h => h2 h, fun h => h5 h, fun _ => rfl, fun h => h11 h, fun h => h12 h, hX.keep k0⟩ _ ?_
            simp only [layS, List.foldl, Act.put, qA, qB, qC, upV, reduceIte, Nat.reduceEqDiff]
          case sd11 =>
            rintro d u wx ⟨h2, h5, h8, h11, h12, hX⟩ hd K hK
            simp only [layS, List.foldl, Act.put, qA, qB, qC]
            go_simp
            go_wp2_with (go_at_call 84; refine (J9.out _).mono ?_; rintro e x0 ⟨rfl, k0⟩)
            refine hK.out (upV u 75 (.agg (Ns RT))) _ (hX.keep k0) ⟨fun h => h2 h, fun h => h5 h, fun h => h8 h, fun _ => rfl, fun h => h12 h, hX.keep k0⟩ _ ?_
            simp only [layS, List.foldl, Act.put, qA, qB, qC, upV, reduceIte, Nat.reduceEqDiff]
          case sd12 =>
            rintro d u wx ⟨h2, h5, h8, h11, h12, hX⟩ hd K hK
            have e2 := h2 (hd 2 (by kernel_rfl))
            have e5 := h5 (hd 5 (by kernel_rfl))
            have e8 := h8 (hd 8 (by kernel_rfl))
            have e11 := h11 (hd 11 (by kernel_rfl))
            simp only [layS, List.foldl, Act.put, qA, qB, qC, e2, e5, e8, e11]
            rw [if_pos (by rfl)]
            unfold Oper.wp
            rw [Rp.exec_made 61 _ rfl [(0, .agg (Ns RX)), (1, .agg (Ns RY)), (2, .agg (Ns RZ)), (3, .agg (Ns RT))] rfl _ (HB.out wx)]
            refine hK.out (upV u 76 (.agg (Ns RR))) _ hX ⟨fun h => h2 h, fun h => h5 h, fun h => h8 h, fun h => h11 h, fun _ => rfl, hX⟩ _ ?_
            simp only [layS, List.foldl, Act.put, qA, qB, qC, upV, reduceIte, Nat.reduceEqDiff, e2, e5, e8, e11]
            rfl
        case find =>
          rintro n' d u dx ⟨h2, h5, h8, h11, h12, hX⟩ hd
          have e66 := h2 (hd 2 rfl)
          have e69 := h5 (hd 5 rfl)
          have e72 := h8 (hd 8 rfl)
          have e75 := h11 (hd 11 rfl)
          have e76 := h12 (hd 12 rfl)
          simp only [layS, List.foldl, Act.put, qA, qB, qC, e66, e69, e72, e75, e76]
          clear hd h2 h5 h8 h11 h12 e66 e69 e72 e75 e76
          change wpAnyM _ _ _ _ _ _ (n' + 1) _ _ _
          refine wpAnyM_late (i := 13) (by kernel_rfl) rfl rfl (fun K hK => ?_)
          have hst := storeRowI (l := RR) (hX.get 4 rfl) (by rw [sZ', lRR])
          go_simp
          refine hK.out _ _ ?_
          clear hK K hst
          replace hX : WD w (w.heap.size) [(q14, Ns H, 59), (q13, Ns G, 59), (q12, Ns F, 59), (q11, Ns E, 59), (w.heap.size + 1 + 1 + 1, Ns RR, 61)] (dx.setRow (w.heap.size + 1 + 1 + 1) (Ns RR)) := hX.over 4 rfl (Ns RR)
          generalize dx.setRow (w.heap.size + 1 + 1 + 1) (Ns RR) = dy0 at hX ⊢
          refine wpAnyM_done (by kernel_rfl) ?_ _
          go_wp2
          refine bodyPost_ret (v := .agg (Ns RR)) ?_ rfl ⟨rfl, hX.below⟩
          exact results_cell_row rfl _ _ (w.heap.size + 1 + 1 + 1) 61 _ (0, 0) _ rfl (hX.get 4 rfl) Tryz.underlying61 rfl (by rw [sRR]; exact Tryz.infoP64)
theorem R_sum (p q : Rp.Pn) (tw : List Int) (hp : Rp.Fine p) (hq : Rp.Fine q) (ht : Fd.Good tw) (w : World) :
    Calls Tryz.prog 82 #[.agg (Ns (Rp.row p)), .agg (Ns (Rp.row q)), .agg (Ns tw)] w fun e w' => e = .returned (.agg (Ns (Rp.row (Rp.sum p q tw)))) ∧ Below w.heap.size w w' := by
  obtain ⟨gA, gB, gC, gD, gE, gF, gG, gH⟩ := Rp.goods hp hq ht
  obtain ⟨rx, ry, rz, rt⟩ := Rp.sum_fine hp hq ht
  have d0 := Fd.by_good _ _ hp.2.2.1 hq.2.2.1
  rw [Rp.row_qt p, Rp.row_qt q, Rp.row_qt (Rp.sum p q tw)]
  rw [Rp.sum_x] at rx ⊢
  rw [Rp.sum_y] at ry ⊢
  rw [Rp.sum_z] at rz ⊢
  rw [Rp.sum_t] at rt ⊢
  have m1 := Fd.minus_good _ _ hp.2.1 hp.1
  have m2 := Fd.minus_good _ _ hq.2.1 hq.1
  have p1 := Fd.plus_good _ _ hp.2.1 hp.1
  have p2 := Fd.plus_good _ _ hq.2.1 hq.1
  have c1 := Fd.by_good _ _ hp.2.2.2 ht
  exact R_sum' p.x p.y p.z p.t q.x q.y q.z q.t tw (Fd.minus p.y p.x) (Fd.minus q.y q.x) (Rp.sA p q) (Fd.plus p.y p.x) (Fd.plus q.y q.x) (Rp.sB p q) (Fd.by_ p.t tw) (Rp.sC p q tw) (Fd.by_ p.z q.z) (Rp.sD p q) (Rp.sE p q) (Rp.sF p q tw) (Rp.sG p q tw) (Rp.sH p q) _ _ _ _ w
    hp.1.1 hp.2.1.1 hp.2.2.1.1 hp.2.2.2.1 hq.1.1 hq.2.1.1 hq.2.2.1.1 hq.2.2.2.1 ht.1 gA.1 gB.1 gC.1 d0.1 gD.1 gE.1 gF.1 gG.1 gH.1 rx.1 ry.1 rz.1 rt.1
    (fun wx => R_minus _ _ hp.2.1 hp.1 wx) (fun wx => R_minus _ _ hq.2.1 hq.1 wx) (fun wx => R_by _ _ m1 m2 wx)
    (fun wx => R_plus _ _ hp.2.1 hp.1 wx) (fun wx => R_plus _ _ hq.2.1 hq.1 wx) (fun wx => R_by _ _ p1 p2 wx)
    (fun wx => R_by _ _ hp.2.2.2 ht wx) (fun wx => R_by _ _ c1 hq.2.2.2 wx) (fun wx => R_by _ _ hp.2.2.1 hq.2.2.1 wx) (fun wx => R_plus _ _ d0 d0 wx)
    (fun wx => R_minus _ _ gB gA wx) (fun wx => R_minus _ _ gD gC wx) (fun wx => R_plus _ _ gD gC wx) (fun wx => R_plus _ _ gB gA wx)
    (fun wx => R_by _ _ gE gF wx) (fun wx => R_by _ _ gG gH wx) (fun wx => R_by _ _ gF gG wx) (fun wx => R_by _ _ gE gH wx)
end Go.Proofs.YtclpbaokadfhhaaGreatDoor
