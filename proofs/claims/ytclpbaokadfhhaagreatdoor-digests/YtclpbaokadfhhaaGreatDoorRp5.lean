/- Contract of the document's pointBytes. -/
import Derived.Test.YtclpbaokadfhhaaGreatDoorRp4
import Derived.Test.YtclpbaokadfhhaaGreatDoorChg
namespace Go.Proofs.YtclpbaokadfhhaaGreatDoor
open Go.RowKit

set_option maxRecDepth 100000 in
set_option maxHeartbeats 4000000 in
theorem R_pointBytes' (X Y Z T IZ XA YA : List Int) (lt : List UInt8) (od : Bool) (w : World) (hlt : lt.length = 32)
    (hX1 : X.length = 16) (hY : Y.length = 16) (hZ : Z.length = 16) (hT : T.length = 16) (hIZ : IZ.length = 16) (hXA : XA.length = 16) (hYA : YA.length = 16)
    (H1 : Hid (∀ wx : World, Calls Tryz.prog 85 #[.agg (Ns Z)] wx fun e w' => e = .returned (.agg (Ns IZ)) ∧ Below wx.heap.size wx w'))
    (H2 : Hid (∀ wx : World, Calls Tryz.prog 84 #[.agg (Ns X), .agg (Ns IZ)] wx fun e w' => e = .returned (.agg (Ns XA)) ∧ Below wx.heap.size wx w'))
    (H3 : Hid (∀ wx : World, Calls Tryz.prog 84 #[.agg (Ns Y), .agg (Ns IZ)] wx fun e w' => e = .returned (.agg (Ns YA)) ∧ Below wx.heap.size wx w'))
    (H4 : Hid (∀ wx : World, Calls Tryz.prog 87 #[.agg (Ns YA)] wx fun e w' => e = .returned (.string ⟨lt.toArray⟩) ∧ Below wx.heap.size wx w'))
    (H5 : Hid (∀ wx : World, Calls Tryz.prog 88 #[.agg (Ns XA)] wx fun e w' => e = .returned (.bool od) ∧ Below wx.heap.size wx w')) :
    Calls Tryz.prog 40 #[.agg (Ns (Rp.qt X Y Z T))] w fun e w' => e = .returned (.string ⟨(if od = true then lt.set 31 (lt.getD 31 0 ||| 128) else lt).toArray⟩) ∧ Below w.heap.size w w' := by
  have hz := zero16
  have sY : (Ns Y).size = 16 := by rw [Ns_size, hY]
  have sZ : (Ns Z).size = 16 := by rw [Ns_size, hZ]
  have sT : (Ns T).size = 16 := by rw [Ns_size, hT]
  have sIZ : (Ns IZ).size = 16 := by rw [Ns_size, hIZ]
  have sXA : (Ns XA).size = 16 := by rw [Ns_size, hXA]
  have sYA : (Ns YA).size = 16 := by rw [Ns_size, hYA]
  have sX : (Ns X).size = 16 := by rw [Ns_size, hX1]
  have sP : (Ns (Rp.qt X Y Z T)).size = 64 := by rw [Ns_size, Rp.qt_length hX1 hY hZ hT]
  have hX : WD w w.heap.size [(w.heap.size, Ns (Rp.qt X Y Z T), 61)] (w.alloc (.cells (Ns (Rp.qt X Y Z T)) 61)) := (WD.start (w := w)).new (Ns (Rp.qt X Y Z T)) 61
  generalize hPa : Ns (Rp.qt X Y Z T) = PA at sP ⊢
  replace hPa : Hid (Ns (Rp.qt X Y Z T) = PA) := hPa
  rw [hPa.out] at hX
  have hR : Hid (∀ b : Bool, od = b → (if od = true then lt.set 31 (lt.getD 31 0 ||| 128) else lt) = if b = true then lt.set 31 (lt.getD 31 0 ||| 128) else lt) := fun b e => by rw [e]
  generalize (if od = true then lt.set 31 (lt.getD 31 0 ||| 128) else lt) = RR at hR ⊢
  go_enter Tryz.func40, Tryz.ntmps40
  have c0 := Rp.ptZ (Blk.new w (Ns (Rp.qt X Y Z T)) 61) hX1 hY
  rw [hPa.out] at c0
  have c1 := c0
  clear c1
  go_wp2_with (first
    | (refine Rp.wpList_mid rfl 59 _ rfl (w.heap.size) 32 rfl (Ns Z) _ c0 Tryz.underlying59 rfl (by rw [sZ]; exact Tryz.info16) ?_))
  clear c0
  rw [← hPa.out] at hX
  clear sP
  rw [← hPa.out]
  generalize w.alloc (.cells (Ns (Rp.qt X Y Z T)) 61) = w1 at hX ⊢
  refine (H1.out _).mono ?_
  rintro e x1 ⟨rfl, k1⟩
  replace hX := hX.keep k1
  clear k1
  have hN := hX.new (Ns Fd.none16) 59
  have g2 := hN.get 0 rfl
  dsimp only at g2
  unfold Blk at g2
  replace hX : WD w (w.heap.size) [(x1.heap.size, Ns IZ, 59), (w.heap.size, Ns (Rp.qt X Y Z T), 61)] ((x1.alloc (.cells (Ns Fd.none16) 59)).setRow x1.heap.size (Ns IZ)) := hN.over 0 rfl (Ns IZ)
  have c3 := Rp.ptX (hX.get 1 rfl)
  have g4 := hX.get 0 rfl
  dsimp only at g4
  unfold Blk at g4
  go_wp2_with (first
    | (refine wpList_store_row rfl 59 _ _ rfl x1.heap.size _ rfl rfl 59 _ g2 (by rw [sIZ]; exact Tryz.info16) (by rw [sIZ]; rfl) (Ns_one _) ?_)
    | (refine Rp.wpList_mid rfl 59 _ rfl (w.heap.size) 0 rfl (Ns X) _ c3 Tryz.underlying59 rfl (by rw [sX]; exact Tryz.info16) ?_)
    | (refine wpList_load_row rfl 59 _ rfl (x1.heap.size) rfl 59 _ (0, 0) _ g4 Tryz.underlying59 rfl (by rw [sIZ]; exact Tryz.info16) ?_))
  clear hN g2 c3 g4
  generalize (x1.alloc (.cells (Ns Fd.none16) 59)).setRow x1.heap.size (Ns IZ) = v5 at hX ⊢
  generalize x1.heap.size = q3 at hX ⊢
  refine (H2.out _).mono ?_
  rintro e x6 ⟨rfl, k6⟩
  replace hX := hX.keep k6
  clear k6
  have hN := hX.new (Ns Fd.none16) 59
  have g7 := hN.get 0 rfl
  dsimp only at g7
  unfold Blk at g7
  replace hX : WD w (w.heap.size) [(x6.heap.size, Ns XA, 59), (q3, Ns IZ, 59), (w.heap.size, Ns (Rp.qt X Y Z T), 61)] ((x6.alloc (.cells (Ns Fd.none16) 59)).setRow x6.heap.size (Ns XA)) := hN.over 0 rfl (Ns XA)
  have c8 := Rp.ptY (hX.get 2 rfl) hX1
  have g9 := hX.get 1 rfl
  dsimp only at g9
  unfold Blk at g9
  go_wp2_with (first
    | (refine wpList_store_row rfl 59 _ _ rfl x6.heap.size _ rfl rfl 59 _ g7 (by rw [sXA]; exact Tryz.info16) (by rw [sXA]; rfl) (Ns_one _) ?_)
    | (refine Rp.wpList_mid rfl 59 _ rfl (w.heap.size) 16 rfl (Ns Y) _ c8 Tryz.underlying59 rfl (by rw [sY]; exact Tryz.info16) ?_)
    | (refine wpList_load_row rfl 59 _ rfl (q3) rfl 59 _ (0, 0) _ g9 Tryz.underlying59 rfl (by rw [sIZ]; exact Tryz.info16) ?_))
  clear hN g7 c8 g9
  generalize (x6.alloc (.cells (Ns Fd.none16) 59)).setRow x6.heap.size (Ns XA) = v10 at hX ⊢
  generalize x6.heap.size = q4 at hX ⊢
  refine (H3.out _).mono ?_
  rintro e x11 ⟨rfl, k11⟩
  replace hX := hX.keep k11
  clear k11
  have hN := hX.new (Ns Fd.none16) 59
  have g12 := hN.get 0 rfl
  dsimp only at g12
  unfold Blk at g12
  replace hX : WD w (w.heap.size) [(x11.heap.size, Ns YA, 59), (q4, Ns XA, 59), (q3, Ns IZ, 59), (w.heap.size, Ns (Rp.qt X Y Z T), 61)] ((x11.alloc (.cells (Ns Fd.none16) 59)).setRow x11.heap.size (Ns YA)) := hN.over 0 rfl (Ns YA)
  have g13 := hX.get 0 rfl
  dsimp only at g13
  unfold Blk at g13
  go_wp2_with (first
    | (refine wpList_store_row rfl 59 _ _ rfl x11.heap.size _ rfl rfl 59 _ g12 (by rw [sYA]; exact Tryz.info16) (by rw [sYA]; rfl) (Ns_one _) ?_)
    | (refine wpList_load_row rfl 59 _ rfl (x11.heap.size) rfl 59 _ (0, 0) _ g13 Tryz.underlying59 rfl (by rw [sYA]; exact Tryz.info16) ?_))
  clear hN g12 g13
  generalize (x11.alloc (.cells (Ns Fd.none16) 59)).setRow x11.heap.size (Ns YA) = v14 at hX ⊢
  generalize x11.heap.size = q5 at hX ⊢
  refine (H4.out _).mono ?_
  rintro e x15 ⟨rfl, k15⟩
  replace hX := hX.keep k15
  clear k15
  obtain ⟨cap, wb, hcv, ho, b3⟩ := bytesOf ⟨lt.toArray⟩ x15.heap.size x15 (Nat.le_refl _)
  replace ho := ho.at
  rw [show (⟨lt.toArray⟩ : ByteArray).size = 32 by rw [← hlt]; rfl] at hcv
  replace ho : OwnR wb _ cap lt := ho
  have hgb : w.heap.size ≤ x15.heap.size := hX.below.size
  replace hX := hX.keep b3
  clear b3
  have g16 := hX.get 1 rfl
  dsimp only at g16
  unfold Blk at g16
  go_wp2_with (first
    | (refine wpList_load_row rfl 59 _ rfl (q4) rfl 59 _ (0, 0) _ g16 Tryz.underlying59 rfl (by rw [sXA]; exact Tryz.info16) ?_))
  clear g16
  generalize x15.heap.size = gb at ho hgb ⊢
  refine (H5.out _).mono ?_
  rintro e wc ⟨rfl, kc⟩
  replace ho := ho.below kc ho.lt
  replace hX := hX.keep kc
  clear kc
  cases od with
  | true =>
    have hr := hR.out true rfl
    rw [if_pos rfl] at hr
    clear hR
    have c31 := ho.cell 31 (by omega)
    have f31 := ho.frozen 31 (by omega)
    have o2 := ho.set 31 (lt.getD 31 0 ||| 128)
    have a2 : bits BinOp.or IntKind.u8 ((lt.getD 31 0).toNat : Int) 128 = ((lt.getD 31 0 ||| 128).toNat : Int) := or_byte _ 128
    rw [← hr] at o2
    have lR : RR.length = 32 := by rw [hr, List.length_set, hlt]
    clear hr
    generalize lt.getD 31 0 ||| 128 = y at *
    generalize lt.getD 31 0 = x at *
    have hso := stringOfOwn (n := 32) o2 (by rw [lR])
    have bel := hX.below.setCell (p := ⟨gb, 31, none⟩) hgb (.int .u8 (y.toNat : Int))
    clear o2 hX ho
    go_wp2
    go_ret
    exact ⟨rfl, bel⟩
  | false =>
    have hr := hR.out false rfl
    rw [if_neg (by decide)] at hr
    clear hR
    subst hr
    have hso := stringOfOwn (n := 32) ho (by rw [hlt])
    have bel := hX.below
    clear hX ho
    go_wp2
    go_ret
    exact ⟨rfl, bel⟩

/-- a point as bytes -/
def Rp.bytes (p : Rp.Pn) : List UInt8 := if Fd.odd (Fd.by_ p.x (Fd.inv p.z)) = true then (Fd.told (Fd.by_ p.y (Fd.inv p.z))).set 31 ((Fd.told (Fd.by_ p.y (Fd.inv p.z))).getD 31 0 ||| 128) else Fd.told (Fd.by_ p.y (Fd.inv p.z))
theorem Rp.bytes_length (p : Rp.Pn) : (Rp.bytes p).length = 32 := by
  unfold Rp.bytes
  split
  · rw [List.length_set, Fd.told_length]
  · rw [Fd.told_length]
theorem R_pointBytes (p : Rp.Pn) (hp : Rp.Fine p) (w : World) :
    Calls Tryz.prog 40 #[.agg (Ns (Rp.row p))] w fun e w' => e = .returned (.string ⟨(Rp.bytes p).toArray⟩) ∧ Below w.heap.size w w' := by
  have gi := Fd.inv_good _ hp.2.2.1
  have gx := Fd.by_good _ _ hp.1 gi
  have gy := Fd.by_good _ _ hp.2.1 gi
  exact R_pointBytes' p.x p.y p.z p.t (Fd.inv p.z) (Fd.by_ p.x (Fd.inv p.z)) (Fd.by_ p.y (Fd.inv p.z)) (Fd.told (Fd.by_ p.y (Fd.inv p.z))) (Fd.odd (Fd.by_ p.x (Fd.inv p.z))) w (Fd.told_length _)
    hp.1.1 hp.2.1.1 hp.2.2.1.1 hp.2.2.2.1 gi.1 gx.1 gy.1 (fun wx => inverse_any _ wx hp.2.2.1) (fun wx => R_by _ _ hp.1 gi wx) (fun wx => R_by _ _ hp.2.1 gi wx) (fun wx => R_told _ gy wx) (fun wx => R_odd _ gx wx)
end Go.Proofs.YtclpbaokadfhhaaGreatDoor
