/- Several texts as one: Rp7, Rp8. -/
import Derived.Test.YtclpbaokadfhhaaGreatDoorRp6
import Derived.Test.YtclpbaokadfhhaaGreatDoorRDig
namespace Go.Proofs.YtclpbaokadfhhaaGreatDoor
open Go.RowKit
namespace Rp
def nil4 : Pn := ⟨Fd.none16, Fd.none16, Fd.none16, Fd.none16⟩
theorem nil4_row : row nil4 = Z64 := by decide
theorem none16_good : Fd.Good Fd.none16 := ⟨rfl, fun i => by have := Fd.none_at 16 i; unfold Fd.none16; rw [this]; omega⟩
theorem nil4_fine : Fine nil4 := ⟨none16_good, none16_good, none16_good, none16_good⟩
theorem Fine.of {x y z t : List Int} (hx : Fd.Good x) (hy : Fd.Good y) (hz : Fd.Good z) (ht : Fd.Good t) : Fine ⟨x, y, z, t⟩ := ⟨hx, hy, hz, ht⟩
def pickf (o1 o2 bt : Bool) (a b : Pn) : Option Pn := if o1 = bt then some a else if o2 = bt then some b else none
theorem pickf_fine {o1 o2 bt : Bool} {a b p : Pn} (ha : Fine a) (hb : Fine b) (h : pickf o1 o2 bt a b = some p) : Fine p := by
  unfold pickf at h
  split at h
  · injection h with h; subst h; exact ha
  · split at h
    · injection h with h; subst h; exact hb
    · cases h
def fin (x y : List Int) (bt : Bool) : Option Pn :=
  pickf (Fd.odd x) (Fd.odd (Fd.minus (Fd.small 0) x)) bt ⟨x, y, Fd.small 1, Fd.by_ x y⟩ ⟨Fd.minus (Fd.small 0) x, y, Fd.small 1, Fd.by_ (Fd.minus (Fd.small 0) x) y⟩
def low (s : ByteArray) : List UInt8 := s.data.toList.set 31 (s.data.toList.getD 31 0 % 128)
def high (s : ByteArray) : Bool := decide ((128 : Int) ≤ ((s.data.toList.getD 31 0).toNat : Int))
def ofW (y : List Int) : List Int := Fd.by_ (Fd.minus (Fd.by_ y y) (Fd.small 1)) (Fd.inv (Fd.plus (Fd.by_ factor (Fd.by_ y y)) (Fd.small 1)))
def ofX (y : List Int) : List Int := Fd.pow (ofW y) (Fd.ones [0] 252)
def ofX2 (y : List Int) : List Int := Fd.by_ (ofX y) (Fd.pow (Fd.small 2) (Fd.ones [0, 1, 1] 253))
def ofB (s : ByteArray) : Option Pn :=
  if Fd.told (Fd.num s) = low s then
    if Fd.same (Fd.by_ (ofX (Fd.num s)) (ofX (Fd.num s))) (ofW (Fd.num s)) = true then fin (ofX (Fd.num s)) (Fd.num s) (high s)
    else if Fd.same (Fd.by_ (ofX2 (Fd.num s)) (ofX2 (Fd.num s))) (ofW (Fd.num s)) = true then fin (ofX2 (Fd.num s)) (Fd.num s) (high s) else none
  else none
def get (o : Option Pn) : Pn := o.getD nil4
def val (o : Option Pn) : Value := .tuple #[.agg (Ns (row (get o))), .bool o.isSome]
theorem val_mk (x y z t : List Int) : val (some ⟨x, y, z, t⟩) = .tuple #[.agg (Ns (qt x y z t)), .bool true] := rfl
theorem val_none : val none = .tuple #[.agg (Ns Z64), .bool false] := by rw [← nil4_row]; rfl
theorem pickf_val (o1 o2 bt : Bool) (x y z t x' y' z' t' : List Int) : (o1 = bt → val (pickf o1 o2 bt ⟨x, y, z, t⟩ ⟨x', y', z', t'⟩) = .tuple #[.agg (Ns (qt x y z t)), .bool true]) ∧ (¬ o1 = bt → o2 = bt → val (pickf o1 o2 bt ⟨x, y, z, t⟩ ⟨x', y', z', t'⟩) = .tuple #[.agg (Ns (qt x' y' z' t')), .bool true]) ∧ (¬ o1 = bt → ¬ o2 = bt → val (pickf o1 o2 bt ⟨x, y, z, t⟩ ⟨x', y', z', t'⟩) = .tuple #[.agg (Ns Z64), .bool false]) := by
  unfold pickf
  refine ⟨fun h => ?_, fun h h2 => ?_, fun h h2 => ?_⟩
  · rw [if_pos h]; exact val_mk _ _ _ _
  · rw [if_neg h, if_pos h2]; exact val_mk _ _ _ _
  · rw [if_neg h, if_neg h2]; exact val_none
theorem ofW_good (y : List Int) (hy : Fd.Good y) : Fd.Good (ofW y) := by
  have yy := Fd.by_good _ _ hy hy
  exact Fd.by_good _ _ (Fd.minus_good _ _ yy small1) (Fd.inv_good _ (Fd.plus_good _ _ (Fd.by_good _ _ factor_good yy) small1))
theorem ofX_good (y : List Int) (hy : Fd.Good y) : Fd.Good (ofX y) := Fd.pow_good _ _ (ofW_good y hy)
theorem small_two : Fd.Good (Fd.small 2) := Fd.small_good 2 (by omega) (by omega)
theorem ofX2_good (y : List Int) (hy : Fd.Good y) : Fd.Good (ofX2 y) := Fd.by_good _ _ (ofX_good y hy) (Fd.pow_good _ _ small_two)
theorem fin_fine (x y : List Int) (bt : Bool) (hx : Fd.Good x) (hy : Fd.Good y) (p : Pn) (h : fin x y bt = some p) : Fine p := by
  have hn := Fd.minus_good _ _ small0 hx
  exact pickf_fine (Fine.of hx hy small1 (Fd.by_good _ _ hx hy)) (Fine.of hn hy small1 (Fd.by_good _ _ hn hy)) h
theorem num_good (s : ByteArray) : Fd.Good (Fd.num s) := (Fd.num_norm s).good
theorem ifs_fine {a b c : Prop} [Decidable a] [Decidable b] [Decidable c] {u v : Option Pn} {p : Pn} (hu : u = some p → Fine p) (hv : v = some p → Fine p) (h : (if a then if b then u else if c then v else none else none) = some p) : Fine p := by
  split at h
  · split at h
    · exact hu h
    · split at h
      · exact hv h
      · cases h
  · cases h
theorem ofB_fine (s : ByteArray) (p : Pn) (h : ofB s = some p) : Fine p := by
  have hy := num_good s
  exact ifs_fine (fin_fine _ _ _ (ofX_good _ hy) hy p) (fin_fine _ _ _ (ofX2_good _ hy) hy p) h
theorem get_fine (s : ByteArray) : Fine (get (ofB s)) := by
  unfold get
  cases h : ofB s with
  | none => exact nil4_fine
  | some p => exact ofB_fine s p h
end Rp
theorem R_pointOf (s : ByteArray) (hs : s.size = 32) (w : World) :
    Calls Tryz.prog 86 #[.string s] w fun e w' => e = .returned (Rp.val (Rp.ofB s)) ∧ Below w.heap.size w w' := by
  have hy := Rp.num_good s
  have yy := Fd.by_good _ _ hy hy
  have gm := Fd.minus_good _ _ yy Rp.small1
  have gd := Fd.by_good _ _ Rp.factor_good yy
  have gv := Fd.plus_good _ _ gd Rp.small1
  have gi := Fd.inv_good _ gv
  have gw := Rp.ofW_good _ hy
  have gx := Rp.ofX_good _ hy
  have gx2 := Rp.ofX2_good _ hy
  have gxx := Fd.by_good _ _ gx gx
  have gxx2 := Fd.by_good _ _ gx2 gx2
  have gn := Fd.minus_good _ _ Rp.small0 gx
  have gn2 := Fd.minus_good _ _ Rp.small0 gx2
  have gt := Fd.by_good _ _ gx hy
  have gtn := Fd.by_good _ _ gn hy
  have gt2 := Fd.by_good _ _ gx2 hy
  have gtn2 := Fd.by_good _ _ gn2 hy
  have gp := Fd.pow_good (Fd.small 2) (Fd.ones [0, 1, 1] 253) Rp.small_two
  have hfin : ∀ x bt, (Fd.odd x = bt → Rp.val (Rp.fin x (Fd.num s) bt) = .tuple #[.agg (Ns (Rp.qt x (Fd.num s) (Fd.small 1) (Fd.by_ x (Fd.num s)))), .bool true]) ∧ (¬ Fd.odd x = bt → Fd.odd (Fd.minus (Fd.small 0) x) = bt → Rp.val (Rp.fin x (Fd.num s) bt) = .tuple #[.agg (Ns (Rp.qt (Fd.minus (Fd.small 0) x) (Fd.num s) (Fd.small 1) (Fd.by_ (Fd.minus (Fd.small 0) x) (Fd.num s)))), .bool true]) ∧ (¬ Fd.odd x = bt → ¬ Fd.odd (Fd.minus (Fd.small 0) x) = bt → Rp.val (Rp.fin x (Fd.num s) bt) = .tuple #[.agg (Ns Rp.Z64), .bool false]) := fun x bt => by
    exact Rp.pickf_val _ _ _ _ _ _ _ _ _ _ _
  refine R_pointOf' s (Fd.num s) (Fd.by_ (Fd.num s) (Fd.num s)) Rp.factor (Fd.small 1) (Fd.minus (Fd.by_ (Fd.num s) (Fd.num s)) (Fd.small 1)) (Fd.by_ Rp.factor (Fd.by_ (Fd.num s) (Fd.num s))) (Fd.plus (Fd.by_ Rp.factor (Fd.by_ (Fd.num s) (Fd.num s))) (Fd.small 1)) (Fd.inv (Fd.plus (Fd.by_ Rp.factor (Fd.by_ (Fd.num s) (Fd.num s))) (Fd.small 1)))
    (Rp.ofW (Fd.num s)) (Rp.ofX (Fd.num s)) (Fd.by_ (Rp.ofX (Fd.num s)) (Rp.ofX (Fd.num s))) (Fd.small 2) (Fd.pow (Fd.small 2) (Fd.ones [0, 1, 1] 253)) (Rp.ofX2 (Fd.num s)) (Fd.by_ (Rp.ofX2 (Fd.num s)) (Rp.ofX2 (Fd.num s))) (Fd.small 0) (Fd.ones [0] 252) (Fd.ones [0, 1, 1] 253)
    (Fd.minus (Fd.small 0) (Rp.ofX (Fd.num s))) (Fd.by_ (Rp.ofX (Fd.num s)) (Fd.num s)) (Fd.by_ (Fd.minus (Fd.small 0) (Rp.ofX (Fd.num s))) (Fd.num s)) (Fd.minus (Fd.small 0) (Rp.ofX2 (Fd.num s))) (Fd.by_ (Rp.ofX2 (Fd.num s)) (Fd.num s)) (Fd.by_ (Fd.minus (Fd.small 0) (Rp.ofX2 (Fd.num s))) (Fd.num s))
    (Fd.told (Fd.num s)) (Fd.same (Fd.by_ (Rp.ofX (Fd.num s)) (Rp.ofX (Fd.num s))) (Rp.ofW (Fd.num s))) (Fd.same (Fd.by_ (Rp.ofX2 (Fd.num s)) (Rp.ofX2 (Fd.num s))) (Rp.ofW (Fd.num s))) (Rp.high s) (Fd.odd (Rp.ofX (Fd.num s))) (Fd.odd (Fd.minus (Fd.small 0) (Rp.ofX (Fd.num s)))) (Fd.odd (Rp.ofX2 (Fd.num s))) (Fd.odd (Fd.minus (Fd.small 0) (Rp.ofX2 (Fd.num s))))
    (Rp.val (Rp.ofB s)) w hs hy.1 yy.1 Rp.factor_good.1 rfl gm.1 gv.1 gw.1 gx.1 gx2.1 gn.1 gn2.1 gt.1 gtn.1 gt2.1 gtn2.1 (by unfold Rp.high; with_reducible rfl) (fun h => ?_) (fun h h1 => ?_) (fun h h1 h2 => ?_) (fun h h1 h2 => ?_)
    (fun wx v h => R_ones [0] 252 252 rfl (by omega) (by decide) (by decide) wx v h) (fun wx v h => R_ones [0, 1, 1] 253 253 rfl (by omega) (by decide) (by decide) wx v h)
    (fun wx v h => R_power _ _ gw (by rw [Fd.ones_length _ _ (by decide)]; omega) wx v h) (fun wx v h => R_power _ _ Rp.small_two (by rw [Fd.ones_length _ _ (by decide)]; omega) wx v h)
    (fun wx => number_any s wx hs) (fun wx => R_told _ hy wx) (fun wx => R_by _ _ hy hy wx) (fun wx => R_factor wx) (fun wx => small_any 1 wx) (fun wx => R_minus _ _ yy Rp.small1 wx) (fun wx => R_by _ _ Rp.factor_good yy wx) (fun wx => R_plus _ _ gd Rp.small1 wx) (fun wx => inverse_any _ wx gv) (fun wx => R_by _ _ gm gi wx)
    (fun wx => R_by _ _ gx gx wx) (fun wx => R_same _ _ gxx gw wx) (fun wx => small_any 2 wx) (fun wx => R_by _ _ gx gp wx) (fun wx => R_by _ _ gx2 gx2 wx) (fun wx => R_same _ _ gxx2 gw wx) (fun wx => small_any 0 wx)
    (fun wx => R_odd _ gx wx) (fun wx => R_minus _ _ Rp.small0 gx wx) (fun wx => R_odd _ gn wx) (fun wx => R_by _ _ gx hy wx) (fun wx => R_by _ _ gn hy wx)
    (fun wx => R_odd _ gx2 wx) (fun wx => R_minus _ _ Rp.small0 gx2 wx) (fun wx => R_odd _ gn2 wx) (fun wx => R_by _ _ gx2 hy wx) (fun wx => R_by _ _ gn2 hy wx)
  · have e : Rp.ofB s = none := by unfold Rp.ofB; exact if_neg h
    rw [e]; exact Rp.val_none
  · have e : Rp.ofB s = Rp.fin (Rp.ofX (Fd.num s)) (Fd.num s) (Rp.high s) := by unfold Rp.ofB; rw [if_pos (show Fd.told (Fd.num s) = Rp.low s from h), if_pos h1]
    rw [e]; exact hfin _ _
  · have e : Rp.ofB s = Rp.fin (Rp.ofX2 (Fd.num s)) (Fd.num s) (Rp.high s) := by unfold Rp.ofB; rw [if_pos (show Fd.told (Fd.num s) = Rp.low s from h), if_neg (by rw [h1]; decide), if_pos h2]
    rw [e]; exact hfin _ _
  · have e : Rp.ofB s = none := by unfold Rp.ofB; rw [if_pos (show Fd.told (Fd.num s) = Rp.low s from h), if_neg (by rw [h1]; decide), if_neg (by rw [h2]; decide)]
    rw [e]; exact Rp.val_none
namespace Rp
def baseY : List Int := Fd.by_ (Fd.small 4) (Fd.inv (Fd.small 5))
def base : Pn := get (ofB ⟨(Fd.told baseY).toArray⟩)
theorem small_n (n : Int) (h0 : 0 ≤ n) (h1 : n ≤ 5) : Fd.Good (Fd.small n) := Fd.small_good n (by omega) (by omega)
theorem baseY_good : Fd.Good baseY := Fd.by_good _ _ (small_n 4 (by omega) (by omega)) (Fd.inv_good _ (small_n 5 (by omega) (by omega)))
theorem base_fine : Fine base := get_fine _
end Rp
set_option maxRecDepth 100000 in
set_option maxHeartbeats 4000000 in
theorem R_base (w : World) : Calls Tryz.prog 39 #[] w fun e w' => e = .returned (.agg (Ns (Rp.row Rp.base))) ∧ Below w.heap.size w w' := by
  have hz := zero16
  have hz2 := Rp.zero64
  have H1 : Hid (Rv 81 #[.int .i64 4] (.agg (Ns (Fd.small 4)))) := fun wx => small_any 4 wx
  have H2 : Hid (Rv 81 #[.int .i64 5] (.agg (Ns (Fd.small 5)))) := fun wx => small_any 5 wx
  have g4 := Rp.small_n 4 (by omega) (by omega)
  have g5 := Rp.small_n 5 (by omega) (by omega)
  have H3 : Hid (Rv 85 #[.agg (Ns (Fd.small 5))] (.agg (Ns (Fd.inv (Fd.small 5))))) := fun wx => inverse_any _ wx g5
  have H4 : Hid (Rv 84 #[.agg (Ns (Fd.small 4)), .agg (Ns (Fd.inv (Fd.small 5)))] (.agg (Ns Rp.baseY))) := fun wx => R_by _ _ g4 (Fd.inv_good _ g5) wx
  have H5 : Hid (Rv 87 #[.agg (Ns Rp.baseY)] (.string ⟨(Fd.told Rp.baseY).toArray⟩)) := fun wx => R_told _ Rp.baseY_good wx
  have H6 : Hid (Rv 86 #[.string ⟨(Fd.told Rp.baseY).toArray⟩] (.tuple #[.agg (Ns (Rp.row Rp.base)), .bool (Rp.ofB ⟨(Fd.told Rp.baseY).toArray⟩).isSome])) := fun wx => R_pointOf _ (by have := Fd.told_length Rp.baseY; exact this) wx
  have sB : (Ns (Rp.row Rp.base)).size = 64 := by rw [Ns_size, Rp.base_fine.row]
  have sY : (Ns Rp.baseY).size = 16 := by rw [Ns_size, Rp.baseY_good.1]
  generalize (Rp.ofB ⟨(Fd.told Rp.baseY).toArray⟩).isSome = ok at H6
  generalize Rp.row Rp.base = B at H6 sB ⊢
  generalize (⟨(Fd.told Rp.baseY).toArray⟩ : ByteArray) = T at H5 H6
  generalize Rp.baseY = Y at H4 H5 sY
  generalize Fd.inv (Fd.small 5) = I5 at H3 H4
  generalize Fd.small 5 = S5 at H2 H3
  generalize Fd.small 4 = S4 at H1 H4
  clear g4 g5
  have sZ := Rp.Z64_len
  generalize Rp.Z64 = ZO at hz2 sZ
  have sZ' : (Ns ZO).size = 64 := by rw [Ns_size, sZ]
  have hX : WD w w.heap.size [(w.heap.size, Ns ZO, 61)] (w.alloc (.cells (Ns ZO) 61)) := (WD.start (w := w)).new (Ns ZO) 61
  go_enter Tryz.func39, Tryz.ntmps39
  go_wp2_with fail
  generalize w.alloc (.cells (Ns ZO) 61) = w1 at hX ⊢
  refine (H1.out _).mono ?_
  rintro e x1 ⟨rfl, k1⟩
  replace hX := hX.keep k1
  clear k1
  go_wp2_with fail
  refine (H2.out _).mono ?_
  rintro e x2 ⟨rfl, k2⟩
  replace hX := hX.keep k2
  clear k2
  go_wp2_with fail
  refine (H3.out _).mono ?_
  rintro e x3 ⟨rfl, k3⟩
  replace hX := hX.keep k3
  clear k3
  go_wp2_with fail
  refine (H4.out _).mono ?_
  rintro e x4 ⟨rfl, k4⟩
  replace hX := hX.keep k4
  clear k4
  have hN := hX.new (Ns Fd.none16) 59
  have g5 := hN.gt 0 rfl
  replace hX : WD w (w.heap.size) [(x4.heap.size, Ns Y, 59), (w.heap.size, Ns ZO, 61)] ((x4.alloc (.cells (Ns Fd.none16) 59)).setRow x4.heap.size (Ns Y)) := hN.over 0 rfl (Ns Y)
  have g6 := hX.gt 0 rfl
  go_wp2_with (first
    | (refine stN rfl rfl x4.heap.size rfl rfl g5 sY rfl ?_)
    | (refine ldN rfl rfl (x4.heap.size) rfl g6 sY ?_))
  clear hN g5 g6
  generalize (x4.alloc (.cells (Ns Fd.none16) 59)).setRow x4.heap.size (Ns Y) = v7 at hX ⊢
  generalize x4.heap.size = q1 at hX ⊢
  refine (H5.out _).mono ?_
  rintro e x8 ⟨rfl, k8⟩
  replace hX := hX.keep k8
  clear k8
  go_wp2_with fail
  refine (H6.out _).mono ?_
  rintro e x9 ⟨rfl, k9⟩
  replace hX := hX.keep k9
  clear k9
  have hN := hX.new (Ns ZO) 61
  have g10 := hN.gt 0 rfl
  replace hX : WD w (w.heap.size) [(x9.heap.size, Ns B, 61), (q1, Ns Y, 59), (w.heap.size, Ns ZO, 61)] ((x9.alloc (.cells (Ns ZO) 61)).setRow x9.heap.size (Ns B)) := hN.over 0 rfl (Ns B)
  have g11 := hX.gt 0 rfl
  have g12 := hX.gt 2 rfl
  replace hX : WD w (w.heap.size) [(x9.heap.size, Ns B, 61), (q1, Ns Y, 59), (w.heap.size, Ns B, 61)] (((x9.alloc (.cells (Ns ZO) 61)).setRow x9.heap.size (Ns B)).setRow (w.heap.size) (Ns B)) := hX.over 2 rfl (Ns B)
  go_wp2_with (first
    | (refine wpList_store_row rfl 61 _ _ rfl x9.heap.size _ rfl rfl 61 _ g10 (by rw [sB]; exact Tryz.infoP64) (by rw [sB, sZ']) (Ns_one _) ?_)
    | (refine wpList_load_row rfl 61 _ rfl (x9.heap.size) rfl 61 _ (0, 0) _ g11 Tryz.underlying61 rfl (by rw [sB]; exact Tryz.infoP64) ?_)
    | (refine wpList_store_row rfl 61 _ _ rfl (w.heap.size) _ rfl rfl 61 _ g12 (by rw [sB]; exact Tryz.infoP64) (by rw [sB, sZ']) (Ns_one _) ?_))
  clear hN g10 g11 g12
  generalize ((x9.alloc (.cells (Ns ZO) 61)).setRow x9.heap.size (Ns B)).setRow (w.heap.size) (Ns B) = v13 at hX ⊢
  generalize x9.heap.size = q2 at hX ⊢
  refine bodyPost_ret (v := .agg (Ns B)) ?_ rfl ⟨rfl, hX.below⟩
  exact results_cell_row rfl _ _ w.heap.size 61 _ (0, 0) _ rfl (hX.get 2 rfl) Tryz.underlying61 rfl (by rw [sB]; exact Tryz.infoP64)
end Go.Proofs.YtclpbaokadfhhaaGreatDoor
namespace Go.Proofs.YtclpbaokadfhhaaGreatDoor
open Go.RowKit
namespace Rp
def half (s : ByteArray) : ByteArray := (Sha.OfB Sha.K s).extract 0 32
theorem half_size (s : ByteArray) : (half s).size = 32 := by unfold half; rw [ByteArray.size_extract, Sha.OfB_size]; rfl
def secret (s : ByteArray) : ByteArray := ⟨(clamp (half s).data.toList).toArray⟩
theorem secret_size (s : ByteArray) : (secret s).size = 32 := by
  show (clamp (half s).data.toList).toArray.size = 32
  have h : (half s).data.toList.length = 32 := by rw [← half_size s]; simp
  rw [List.size_toArray, clamp_length, h]
def ident (s : ByteArray) : ByteArray := ⟨(bytes (multiple (secret s) base)).toArray⟩
def idR (s : ByteArray) : ByteArray × Int := if s.size = 32 then (ident s, 0) else (⟨#[]⟩, 1)
end Rp
set_option maxRecDepth 100000 in
set_option maxHeartbeats 4000000 in
theorem RIdentity_any (s : ByteArray) (w : World) :
    Calls Tryz.prog 21 #[.string s] w fun e w' => e = .returned (.tuple #[.string (Rp.idR s).1, .int .i64 (Rp.idR s).2]) ∧ Below w.heap.size w w' := by
  by_cases h : s.size = 32
  · have e1 : Rp.idR s = (Rp.ident s, 0) := by unfold Rp.idR; rw [if_pos h]
    rw [e1]
    clear e1
    have hz2 := Rp.zero64
    have d1 : ((s.size : Int) == 32) = true := by rw [beq_iff_eq]; omega
    have H1 : Hid (Rv 36 #[.string s] (.string (Sha.OfB Sha.K s))) := fun wx => rdigest_any s wx (by omega)
    have hx : Hid ((Sha.OfB Sha.K s).extract 0 32 = Rp.half s) := rfl
    have hsz := Sha.OfB_size Sha.K s
    have H2 : Hid (Rv 38 #[.string (Rp.half s)] (.string (Rp.secret s))) := fun wx => R_clamped _ wx (Rp.half_size s)
    have H3 : Hid (Rv 39 #[] (.agg (Ns (Rp.row Rp.base)))) := fun wx => R_base wx
    have H4 : Hid (Rv 37 #[.string (Rp.secret s), .agg (Ns (Rp.row Rp.base))] (.agg (Ns (Rp.row (Rp.multiple (Rp.secret s) Rp.base))))) := fun wx => R_multiple _ _ (Rp.secret_size s) Rp.base_fine wx
    have hf := Rp.multiple_fine (Rp.secret s) Rp.base Rp.base_fine
    have H5 : Hid (Rv 40 #[.agg (Ns (Rp.row (Rp.multiple (Rp.secret s) Rp.base)))] (.string (Rp.ident s))) := fun wx => R_pointBytes _ hf wx
    have sR : (Ns (Rp.row (Rp.multiple (Rp.secret s) Rp.base))).size = 64 := by rw [Ns_size, hf.row]
    clear hf
    generalize Rp.row (Rp.multiple (Rp.secret s) Rp.base) = R at H4 H5 sR
    generalize Rp.row Rp.base = B at H3 H4
    generalize Rp.ident s = I at H5 ⊢
    generalize Rp.secret s = C at H2 H4
    generalize Rp.half s = L at hx H2
    generalize Sha.OfB Sha.K s = D at H1 hx hsz
    have sZ := Rp.Z64_len
    generalize Rp.Z64 = ZO at hz2 sZ
    have sZ' : (Ns ZO).size = 64 := by rw [Ns_size, sZ]
    go_enter Tryz.func21, Tryz.ntmps21
    go_wp2_with fail
    refine (H1.out _).mono ?_
    rintro e w1 ⟨rfl, k1⟩
    have hL := hx.out
    go_wp2_with fail
    refine (H2.out _).mono ?_
    rintro e w2 ⟨rfl, k2⟩
    clear hL
    go_wp2_with fail
    refine (H3.out _).mono ?_
    rintro e w3 ⟨rfl, k3⟩
    go_wp2_with fail
    refine (H4.out _).mono ?_
    rintro e w4 ⟨rfl, k4⟩
    have bel : Below w.heap.size w w4 := k1.trans ((k2.trans ((k3.trans (k4.mono k3.size)).mono k2.size)).mono k1.size)
    clear k1 k2 k3 k4
    have hN := Blk.new w4 (Ns ZO) 61
    have gz := hN
    unfold Blk at gz
    have h2 := hN.row (Ns R)
    have g2 := h2
    unfold Blk at g2
    have bel2 : Below w.heap.size w ((w4.alloc (.cells (Ns ZO) 61)).setRow w4.heap.size (Ns R)) := below_setRow (bel.alloc bel.size _) bel.size _
    go_wp2_with (first
      | (refine wpList_store_row rfl 61 _ _ rfl w4.heap.size _ rfl rfl 61 _ gz (by rw [sR]; exact Tryz.infoP64) (by rw [sR, sZ']) (Ns_one _) ?_)
      | (refine wpList_load_row rfl 61 _ rfl w4.heap.size rfl 61 _ (0, 0) _ g2 Tryz.underlying61 rfl (by rw [sR]; exact Tryz.infoP64) ?_))
    clear gz g2 h2 hN
    generalize (w4.alloc (.cells (Ns ZO) 61)).setRow w4.heap.size (Ns R) = w5 at bel2 ⊢
    refine (H5.out _).mono ?_
    rintro e w6 ⟨rfl, k6⟩
    go_wp2
    go_ret2
    exact ⟨rfl, bel2.trans (k6.mono bel2.size)⟩
  · have e1 : Rp.idR s = (⟨#[]⟩, 1) := by unfold Rp.idR; rw [if_neg h]
    rw [e1]
    clear e1
    have d1 : ((s.size : Int) == 32) = false := by rw [beq_eq_false_iff_ne]; omega
    go_enter Tryz.func21, Tryz.ntmps21
    go_wp2
    go_ret2
    exact ⟨rfl, Below.refl _ _⟩
end Go.Proofs.YtclpbaokadfhhaaGreatDoor
