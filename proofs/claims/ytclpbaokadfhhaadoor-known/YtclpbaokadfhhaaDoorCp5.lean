/- Contract of curve's Bytes. -/
import Derived.Test.YtclpbaokadfhhaaDoorCp1
import Derived.Test.YtclpbaokadfhhaaDoorOwn
import Derived.Test.YtclpbaokadfhhaaDoorChg
import Derived.Test.YtclpbaokadfhhaaDoorCvb
namespace Go.Proofs.YtclpbaokadfhhaaDoor
open Go.RowKit

/-- rows, and a slice of bytes -/
def WO (w0 : World) (base : Nat) (l : BL) (g cap : Nat) (L : List UInt8) (w : World) : Prop := WD w0 base l w ∧ OwnR w g cap L
theorem WO.keep {w0 w w' : World} {base g cap : Nat} {l : BL} {L : List UInt8} (h : WO w0 base l g cap L w) (k : Below w.heap.size w w') : WO w0 base l g cap L w' := ⟨h.1.keep k, h.2.below k h.2.lt⟩
theorem WO.drew {w0 w : World} {base g cap : Nat} {l : BL} {L : List UInt8} (h : WO w0 base l g cap L w) : WO w0 base l g cap L w.drew := ⟨h.1.drew, h.2.drew⟩
theorem WO.get {w0 w : World} {base g cap : Nat} {l : BL} {L : List UInt8} (h : WO w0 base l g cap L w) (i : Nat) {x : Nat × Array Value × Nat} (hi : l[i]? = some x) : Blk w x.1 x.2.1 x.2.2 := h.1.get i hi
theorem shl7 (b : UInt8) : IntKind.u8.wrap ((b.toNat : Int) * 128) = ((b <<< 7).toNat : Int) := by
  rw [IntKind.wrap_u8, UInt8.toNat_shiftLeft]
  have := b.toNat_lt
  show _ = (((b.toNat <<< ((7 : UInt8).toNat % 8)) % 2 ^ 8 : Nat) : Int)
  rw [show (7 : UInt8).toNat % 8 = 7 from rfl, Nat.shiftLeft_eq]
  omega

set_option maxRecDepth 100000 in
set_option maxHeartbeats 8000000 in
theorem C_bytes' (A B C I V W' : List (BitVec 64)) (Y : List UInt8) (x y s v : UInt8) (w : World) (hy : Hid (Y.getD 31 0 = y)) (f1 : IntKind.u8.wrap ((x.toNat : Int) * 128) = (s.toNat : Int)) (f2 : bits BinOp.or IntKind.u8 (y.toNat : Int) (s.toNat : Int) = (v.toNat : Int)) (hA : A.length = 5) (hB : B.length = 5) (hC : C.length = 5)
    (H1 : Hid (∀ wx : World, Calls Tryd.prog 59 #[.agg (Ws C)] wx fun e w' => e = .returned (.agg (Ws I)) ∧ Below wx.heap.size wx w')) (hI : I.length = 5)
    (H2 : Hid (∀ wx : World, Calls Tryd.prog 60 #[.agg (Ws B), .agg (Ws I)] wx fun e w' => e = .returned (.agg (Ws V)) ∧ Below wx.heap.size wx w'))
    (H3 : Hid (∀ wx : World, Calls Tryd.prog 46 #[.agg (Ws V)] wx fun e w' => e = .returned (.string ⟨Y.toArray⟩) ∧ Below wx.heap.size wx w')) (hY : Y.length = 32)
    (H4 : Hid (∀ wx : World, Calls Tryd.prog 60 #[.agg (Ws A), .agg (Ws I)] wx fun e w' => e = .returned (.agg (Ws W')) ∧ Below wx.heap.size wx w'))
    (H5 : Hid (∀ wx : World, Calls Tryd.prog 61 #[.agg (Ws W')] wx fun e w' => e = .returned (.int .u8 (x.toNat : Int)) ∧ Below wx.heap.size wx w')) :
    Calls Tryd.prog 36 #[.agg (Ws (pt A B C))] w fun e w' => e = .returned (.string ⟨(Y.set 31 v).toArray⟩) ∧ Below w.heap.size w w' := by
  have sA : (Ws A).size = 5 := by rw [Ws_size, hA]
  have sB : (Ws B).size = 5 := by rw [Ws_size, hB]
  have sC : (Ws C).size = 5 := by rw [Ws_size, hC]
  have sI : (Ws I).size = 5 := by rw [Ws_size, hI]
  have hlR : (Y.set 31 v).length = 32 := by rw [List.length_set, hY]
  generalize hRs : (⟨(Y.set 31 v).toArray⟩ : ByteArray) = RS
  replace hRs : Hid ((⟨(Y.set 31 v).toArray⟩ : ByteArray) = RS) := hRs
  have hW : WD w w.heap.size [(w.heap.size, Ws (pt A B C), 60)] (w.alloc (.cells (Ws (pt A B C)) 60)) := (WD.start (w := w)).new (Ws (pt A B C)) 60
  have c1 := ptZ (hW.get 0 rfl) hA hB
  dsimp only at c1
  have sP : (Ws (pt A B C)).size = 15 := pt_size hA hB hC
  generalize hPa : Ws (pt A B C) = PA at sP hW c1 ⊢
  replace hPa : Hid (Ws (pt A B C) = PA) := hPa
  go_enter Tryd.func36, Tryd.ntmps36
  go_wp2_with (first
    | (refine wpList_mid rfl 58 _ rfl w.heap.size 10 rfl (Ws C) _ c1 Tryd.underlying58 rfl (by rw [sC]; exact Tryd.infoF5) ?_))
  clear c1
  generalize w.alloc (.cells PA 60) = w1 at hW ⊢
  rw [← hPa.out] at hW ⊢
  clear sP hPa
  refine (H1.out _).mono ?_
  rintro e w2 ⟨rfl, k2⟩
  replace hW := hW.keep k2
  clear k2
  have hN := hW.new #[.int .u64 0, .int .u64 0, .int .u64 0, .int .u64 0, .int .u64 0] 58
  have gz := hN.get 0 rfl
  dsimp only at gz
  unfold Blk at gz
  replace hW : WD w w.heap.size [(w2.heap.size, Ws I, 58), (w.heap.size, Ws (pt A B C), 60)] ((w2.alloc (.cells #[.int .u64 0, .int .u64 0, .int .u64 0, .int .u64 0, .int .u64 0] 58)).setRow w2.heap.size (Ws I)) := hN.over 0 rfl (Ws I)
  have c1 := ptY (hW.get 1 rfl) hA
  have g0 := hW.get 0 rfl
  dsimp only at c1 g0
  unfold Blk at g0
  go_wp2_with (first
    | (refine wpList_store_row rfl 58 _ _ rfl w2.heap.size _ rfl rfl 58 _ gz (by rw [sI]; exact Tryd.infoF5) (by rw [sI]; rfl) (Ws_one _) ?_)
    | (refine wpList_mid rfl 58 _ rfl w.heap.size 5 rfl (Ws B) _ c1 Tryd.underlying58 rfl (by rw [sB]; exact Tryd.infoF5) ?_)
    | (refine wpList_load_row rfl 58 _ rfl w2.heap.size rfl 58 _ (0, 0) _ g0 Tryd.underlying58 rfl (by rw [sI]; exact Tryd.infoF5) ?_))
  clear hN gz c1 g0
  generalize (w2.alloc (.cells #[.int .u64 0, .int .u64 0, .int .u64 0, .int .u64 0, .int .u64 0] 58)).setRow w2.heap.size (Ws I) = w3 at hW ⊢
  generalize w2.heap.size = q at hW ⊢
  refine (H2.out _).mono ?_
  rintro e w4 ⟨rfl, k4⟩
  replace hW := hW.keep k4
  clear k4
  go_wp2_with fail
  refine (H3.out _).mono ?_
  rintro e w5 ⟨rfl, k5⟩
  replace hW := hW.keep k5
  clear k5 H1 H2 H3
  have hsz : (⟨Y.toArray⟩ : ByteArray).size = 32 := hY
  have hdt : (⟨Y.toArray⟩ : ByteArray).data.toList = Y := rfl
  generalize (⟨Y.toArray⟩ : ByteArray) = ys at hsz hdt ⊢
  obtain ⟨cap, w6, hcv, ho, b6⟩ := bytesOf ys w.heap.size w5 hW.1.2.2.1
  replace ho := ho.at
  rw [hdt] at ho
  rw [hsz] at hcv
  have hO : WO w w.heap.size [(q, Ws I, 58), (w.heap.size, Ws (pt A B C), 60)] w5.heap.size cap Y w6 := ⟨hW.keep b6, ho⟩
  have hge : w.heap.size ≤ w5.heap.size := hW.1.2.2.1
  clear hW ho b6
  go_wp2_with fail
  clear hcv
  generalize w5.heap.size = gg at hO hge ⊢
  refine wp_region_M (S := WO w w.heap.size [(q, Ws I, 58), (w.heap.size, Ws (pt A B C), 60)] gg cap Y) (ls := [11]) (by kernel_rfl) ?_
  have hO0 : WO w w.heap.size [(q, Ws I, 58), (w.heap.size, Ws (pt A B C), 60)] gg cap Y w6.drew := hO.drew
  clear hO
  generalize World.drew w6 = bd at hO0 ⊢
  refine wpAnyM_take (i := 0) (dst := some 14) (v := ?vb0) rfl rfl (by kernel_rfl) (by kernel_rfl) (by kernel_rfl) (by kernel_rfl) (by kernel_rfl) (fun _ _ _ h => h) (Or.inl ⟨by rfl, ?hyb0⟩) hO0 ?reb0
  case hyb0 => (intro wx hSx; clear hSx; go_simp; try (with_reducible rfl))
  refine wpAnyM_take (i := 1) (dst := some 15) (v := ?vb1) rfl rfl (by kernel_rfl) (by kernel_rfl) (by kernel_rfl) (by kernel_rfl) (by kernel_rfl) (fun _ _ _ h => h) (Or.inl ⟨by rfl, ?hyb1⟩) hO0 ?reb1
  case hyb1 => (intro wx hSx; clear hSx; go_simp; try (with_reducible rfl))
  refine wpAnyM_take (i := 2) (dst := some 16) (v := .int .u8 (y.toNat : Int)) rfl rfl (by kernel_rfl) (by kernel_rfl) (by kernel_rfl) (by kernel_rfl) (by kernel_rfl) (fun _ _ _ h => h) (Or.inl ⟨by rfl, ?hyb2⟩) hO0 ?reb2
  case hyb2 => (intro wx hSx; have c31 := hSx.2.cell 31 (by omega); rw [hy.out] at c31; clear hSx; go_simp; try (with_reducible rfl))
  simp only [Act.put, List.setIfInBounds_toArray, List.set_cons_zero, List.set_cons_succ]
  refine wpAnyM_take (i := 3) (dst := some 17) (v := ?vb3) rfl rfl (by kernel_rfl) (by kernel_rfl) (by kernel_rfl) (by kernel_rfl) (by kernel_rfl) (fun _ _ _ h => h) (Or.inl ⟨by rfl, ?hyb3⟩) hO0 ?reb3
  case hyb3 => (intro wx hSx; clear hSx; go_simp; try (with_reducible rfl))
  refine wpAnyM_take (i := 4) (dst := some 18) (v := .agg (Ws A)) rfl rfl (by kernel_rfl) (by kernel_rfl) (by kernel_rfl) (by kernel_rfl) (by kernel_rfl) (fun _ _ _ h => h) (Or.inl ⟨by rfl, ?hyb4⟩) hO0 ?reb4
  case hyb4 => exact fun wx hSx => exec_mid 58 _ rfl w.heap.size 0 rfl (Ws A) _ (ptX (hSx.get 1 rfl)) Tryd.underlying58 rfl (by rw [sA]; exact Tryd.infoF5)
  refine wpAnyM_take (i := 5) (dst := some 19) (v := .agg (Ws I)) rfl rfl (by kernel_rfl) (by kernel_rfl) (by kernel_rfl) (by kernel_rfl) (by kernel_rfl) (fun _ _ _ h => h) (Or.inl ⟨by rfl, ?hyb5⟩) hO0 ?reb5
  case hyb5 => exact fun wx hSx => exec_load_row 58 _ rfl q rfl 58 _ (0, 0) _ (hSx.get 0 rfl) Tryd.underlying58 rfl (by rw [sI]; exact Tryd.infoF5)
  simp only [Act.put, List.setIfInBounds_toArray, List.set_cons_zero, List.set_cons_succ]
  refine wpAnyM_one (i := 6) (by kernel_rfl) rfl (fun K hK => ?_)
  go_simp
  go_wp2_with (go_at_call 60; refine (H4.out _).mono ?_; rintro e bx0 ⟨rfl, k0⟩)
  have hO1 := hO0.keep k0
  refine hK.out _ _ hO1 ?_
  try simp only [Act.put, List.setIfInBounds_toArray, List.set_cons_zero, List.set_cons_succ]
  clear hK K k0 hO0
  refine wpAnyM_one (i := 7) (by kernel_rfl) rfl (fun K hK => ?_)
  go_simp
  go_wp2_with (go_at_call 61; refine (H5.out _).mono ?_; rintro e bx1 ⟨rfl, k0⟩)
  have hO2 := hO1.keep k0
  refine hK.out _ _ hO2 ?_
  try simp only [Act.put, List.setIfInBounds_toArray, List.set_cons_zero, List.set_cons_succ]
  clear hK K k0 hO1
  have o2 := hO2.2.set 31 v
  have c31 := hO2.2.cell 31 (by omega)
  have f31 := hO2.2.frozen 31 (by omega)
  rw [hy.out] at c31
  have bel := hO2.1.below.setCell (p := ⟨gg, 31, none⟩) hge (.int .u8 (v.toNat : Int))
  have hso := stringOfOwn (n := 32) o2 hlR.symm
  rw [hRs.out] at hso
  refine wpAnyM_take (i := 8) (dst := some 22) (v := .int .u8 (s.toNat : Int)) rfl rfl (by kernel_rfl) (by kernel_rfl) (by kernel_rfl) (by kernel_rfl) (by kernel_rfl) (fun _ _ _ h => h) (Or.inl ⟨by rfl, ?hyb8⟩) hO2 ?reb8
  case hyb8 => (intro wx hSx; clear hSx; go_simp; try (with_reducible rfl))
  simp only [Act.put, List.setIfInBounds_toArray, List.set_cons_zero, List.set_cons_succ]
  refine wpAnyM_take (i := 9) (dst := some 23) (v := .int .u8 (v.toNat : Int)) rfl rfl (by kernel_rfl) (by kernel_rfl) (by kernel_rfl) (by kernel_rfl) (by kernel_rfl) (fun _ _ _ h => h) (Or.inl ⟨by rfl, ?hyb9⟩) hO2 ?reb9
  case hyb9 => (intro wx hSx; clear hSx; go_simp; try (with_reducible rfl))
  try simp only [Act.put, List.setIfInBounds_toArray, List.set_cons_zero, List.set_cons_succ]
  refine wpAnyM_take (i := 10) (dst := some 24) (v := ?vb10) rfl rfl (by kernel_rfl) (by kernel_rfl) (by kernel_rfl) (by kernel_rfl) (by kernel_rfl) (fun _ _ _ h => h) (Or.inl ⟨by rfl, ?hyb10⟩) hO2 ?reb10
  case hyb10 => (intro wx hSx; clear hSx; go_simp; try (with_reducible rfl))
  try simp only [Act.put, List.setIfInBounds_toArray, List.set_cons_zero, List.set_cons_succ]
  refine wpAnyM_late (i := 11) (by kernel_rfl) rfl rfl (fun K hK => ?_)
  go_simp
  refine hK.out _ _ ?_
  clear hK K f1 f2 c31 f31 o2 hlR
  refine wpAnyM_done (by kernel_rfl) ?_ _
  generalize World.setCell bx1 _ _ = wz at hso bel ⊢
  go_wp2
  go_ret
  exact ⟨rfl, bel⟩
theorem C_bytes (a : Cv.Pn) (w : World) (ha : Cv.Ok a) :
    Calls Tryd.prog 36 #[.agg (Ws (Cv.row a))] w fun e w' => e = .returned (.string ⟨(Cv.bytes a).toArray⟩) ∧ Below w.heap.size w w' := by
  have lt := Ff.times_length a.x (Ff.inverse a.z)
  have ly := Ff.times_length a.y (Ff.inverse a.z)
  have li := Ff.inverse_length a.z
  have := C_bytes' a.x a.y a.z (Ff.inverse a.z) (Ff.times a.y (Ff.inverse a.z)) (Ff.times a.x (Ff.inverse a.z)) (Cv.yb a) (Cv.xb a) _ _ _ w rfl (shl7 _) (or_byte _ _) ha.1 ha.2.1 ha.2.2 (fun wx => F_inverse _ wx ha.2.2) li (fun wx => F_times _ _ wx ha.2.1 li) (fun wx => F_bytes _ wx ly) (Cv.yb_length a) (fun wx => F_times _ _ wx ha.1 li) (fun wx => F_lowestBit _ wx lt)
  unfold Cv.bytes
  exact this
end Go.Proofs.YtclpbaokadfhhaaDoor
