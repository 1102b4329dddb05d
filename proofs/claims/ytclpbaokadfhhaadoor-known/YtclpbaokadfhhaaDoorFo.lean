/- Contract of field's ones. -/
import Derived.Test.YtclpbaokadfhhaaDoorFq
import Derived.Test.YtclpbaokadfhhaaDoorPhase
namespace Go.Proofs.YtclpbaokadfhhaaDoor
open Go.RowKit

/-- what stays while a region of ones goes -/
def OneW (w : World) (p h : Nat) (a H : List (BitVec 64)) (w' : World) : Prop :=
  Blk w' p (Ws a) 58 ∧ Blk w' (p + 1) (Ws [0, 0, 0, 0, 0]) 58 ∧ Blk w' h (Ws H) 58 ∧ Below p w w'
theorem OneW.keep {w w1 w2 : World} {p h : Nat} {a H : List (BitVec 64)} (h1 : OneW w p h a H w1) (k : Below w1.heap.size w1 w2) : OneW w p h a H w2 :=
  ⟨h1.1.keep k, h1.2.1.keep k, h1.2.2.1.keep k, h1.2.2.2.trans (k.mono (by have := h1.1.lt; omega))⟩
theorem OneW.alloc {w w1 : World} {p h : Nat} {a H : List (BitVec 64)} (h1 : OneW w p h a H w1) (o : Obj) : OneW w p h a H (w1.alloc o) :=
  ⟨h1.1.alloc _, h1.2.1.alloc _, h1.2.2.1.alloc _, h1.2.2.2.alloc (by have := h1.1.lt; omega) _⟩

def SqS (q p : Nat) (T a : List (BitVec 64)) (w' : World) : Prop := Blk w' q (Ws T) 58 ∧ Blk w' p (Ws a) 58

def OneR (w : World) (p h : Nat) (a H SQ T : List (BitVec 64)) (d : Nat → Bool) (u : Nat → Value) (w' : World) : Prop :=
  (d 3 = true → u 17 = .agg (Ws SQ)) ∧ (d 5 = true → u 19 = .agg (Ws T)) ∧ (d 6 = true → ∃ q, u 6 = .pointer (some ⟨q, 0, none⟩) ∧ Blk w' q (Ws [0, 0, 0, 0, 0]) 58 ∧ p + 1 < q) ∧ OneW w p h a H w'

set_option maxRecDepth 100000 in
set_option maxHeartbeats 4000000 in
theorem F_onesStep (a H : List (BitVec 64)) (n : Nat) (w : World) (ha : a.length = 5) (hH : H.length = 5) (hn : n ≤ 1000) (hn1 : ¬ n = 1) (hn0 : 1 ≤ n)
    (IH : ∀ wx : World, Calls Tryd.prog 77 #[.agg (Ws a), .int .i64 ((n / 2 : Nat) : Int)] wx fun e w' => e = .returned (.agg (Ws H)) ∧ Below wx.heap.size wx w') :
    Calls Tryd.prog 77 #[.agg (Ws a), .int .i64 n] w fun e w' => e = .returned (.agg (Ws (Ff.onesStep a H n))) ∧ Below w.heap.size w w' := by
  have sa : (Ws a).size = 5 := by rw [Ws_size, ha]
  have sH : (Ws H).size = 5 := by rw [Ws_size, hH]
  have hb1 : Blk ((w.alloc (.cells (Ws a) 58)).alloc (.cells (Ws [0, 0, 0, 0, 0]) 58)) w.heap.size (Ws a) 58 := heap_alloc2_old w _ _
  have hb2 : Blk ((w.alloc (.cells (Ws a) 58)).alloc (.cells (Ws [0, 0, 0, 0, 0]) 58)) (w.heap.size + 1) (Ws [0, 0, 0, 0, 0]) 58 := heap_alloc2_new w _ _
  have hbel : Below w.heap.size w ((w.alloc (.cells (Ws a) 58)).alloc (.cells (Ws [0, 0, 0, 0, 0]) 58)) := ((Below.refl _ _).alloc (Nat.le_refl _) _).alloc (by simp) _
  have e2 : ((n / 2 : Nat) : Int) = (n : Int) / 2 := by omega
  have HO : Hid (∀ wx : World, Calls Tryd.prog 77 #[.agg (Ws a), .int .i64 ((n : Int) / 2)] wx fun e w' => e = .returned (.agg (Ws H)) ∧ Below wx.heap.size wx w') := by rw [← e2]; exact IH
  have HSq : Hid (∀ wx : World, Calls Tryd.prog 76 #[.agg (Ws H), .int .i64 ((n : Int) / 2)] wx fun e w' => e = .returned (.agg (Ws (Ff.squares H (n / 2)))) ∧ Below wx.heap.size wx w') := by
    rw [← e2]; exact fun wx => F_squares H (n / 2) wx hH (by omega)
  clear IH
  have hlQ : (Ff.squares H (n / 2)).length = 5 := Ff.squares_length _ hH _
  have HE : Hid (Ff.onesStep a H n = if n % 2 = 1 then Ff.times (Ff.times (Ff.times (Ff.squares H (n / 2)) H) (Ff.times (Ff.squares H (n / 2)) H)) a else Ff.times (Ff.squares H (n / 2)) H) := by
    have : Ff.onesStep a H n = if n % 2 = 1 then Ff.times (Ff.times (Ff.times (Ff.squares H (n / 2)) H) (Ff.times (Ff.squares H (n / 2)) H)) a else Ff.times (Ff.squares H (n / 2)) H := rfl
    exact this
  generalize Ff.onesStep a H n = RR at HE ⊢
  generalize Ff.squares H (n / 2) = SQ at HSq hlQ HE
  have HT : Hid (∀ wx : World, Calls Tryd.prog 60 #[.agg (Ws SQ), .agg (Ws H)] wx fun e w' => e = .returned (.agg (Ws (Ff.times SQ H))) ∧ Below wx.heap.size wx w') := fun wx => F_times SQ H wx hlQ hH
  have hlT : (Ff.times SQ H).length = 5 := Ff.times_length _ _
  generalize Ff.times SQ H = T at HT hlT HE
  have HS2 : Hid (∀ wx : World, Calls Tryd.prog 65 #[.agg (Ws T)] wx fun e w' => e = .returned (.agg (Ws (Ff.times T T))) ∧ Below wx.heap.size wx w') := fun wx => F_square T wx hlT
  have hlU : (Ff.times T T).length = 5 := Ff.times_length _ _
  generalize Ff.times T T = UU at HS2 hlU HE
  have HT2 : Hid (∀ wx : World, Calls Tryd.prog 60 #[.agg (Ws UU), .agg (Ws a)] wx fun e w' => e = .returned (.agg (Ws (Ff.times UU a))) ∧ Below wx.heap.size wx w') := fun wx => F_times UU a wx hlU ha
  have hlV : (Ff.times UU a).length = 5 := Ff.times_length _ _
  generalize Ff.times UU a = VV at HT2 hlV HE
  have sT : (Ws T).size = 5 := by rw [Ws_size, hlT]
  have sV : (Ws VV).size = 5 := by rw [Ws_size, hlV]
  have sQ : (Ws SQ).size = 5 := by rw [Ws_size, hlQ]
  have i1 : ¬ (n : Int) = 1 := by omega
  have iw : IntKind.i64.wrap ((n : Int) / 2) = (n : Int) / 2 := by rw [IntKind.wrap_i64]; omega
  have g1 := hb1
  unfold Blk at g1
  rw [← FZ5] at g1
  go_enter Tryd.func77, Tryd.ntmps77
  go_wp2_with (first
    | (refine wpList_load_row rfl 58 _ rfl w.heap.size rfl 58 _ (0, 0) _ g1 Tryd.underlying58 rfl (by rw [sa]; exact Tryd.infoF5) ?_))
  rw [FZ5]
  clear g1
  generalize (w.alloc (.cells (Ws a) 58)).alloc (.cells (Ws [0, 0, 0, 0, 0]) 58) = w1 at hb1 hb2 hbel ⊢
  refine (HO.out _).mono ?_
  rintro e w2 ⟨rfl, k2⟩
  replace hb1 := hb1.keep k2
  replace hb2 := hb2.keep k2
  replace hbel := hbel.trans (k2.mono hbel.size)
  clear k2
  have hsz : w.heap.size + 1 < w2.heap.size := hb2.lt
  have hn3 : Blk (w2.alloc (.cells #[.int .u64 0, .int .u64 0, .int .u64 0, .int .u64 0, .int .u64 0] 58)) w2.heap.size #[.int .u64 0, .int .u64 0, .int .u64 0, .int .u64 0, .int .u64 0] 58 := Blk.new _ _ _
  have hst := storeRow (l := H) hn3 (by rw [hH]; rfl)
  have hW : OneW w w.heap.size w2.heap.size a H ((w2.alloc (.cells #[.int .u64 0, .int .u64 0, .int .u64 0, .int .u64 0, .int .u64 0] 58)).setRow w2.heap.size (Ws H)) :=
    ⟨(hb1.alloc _).other (by omega) _, (hb2.alloc _).other (by omega) _, hn3.row _, below_setRow (hbel.alloc (by omega) _) (by omega) _⟩
  go_wp2_with fail
  clear hst hn3 hb1 hb2 hbel
  generalize (w2.alloc (.cells #[.int .u64 0, .int .u64 0, .int .u64 0, .int .u64 0, .int .u64 0] 58)).setRow w2.heap.size (Ws H) = w3 at hW ⊢
  generalize w2.heap.size = h at hW hsz ⊢
  refine wp_region_M (S := OneW w w.heap.size h a H) (ls := [7]) (by kernel_rfl) ?_
  have hW1 : OneW w w.heap.size h a H w3.drew := ⟨hW.1, hW.2.1, hW.2.2.1, hW.2.2.2.drew⟩
  generalize World.drew w3 = wd at hW1 ⊢
  clear hW
  refine wpAnyM_take (i := 0) (dst := some 14) (v := .agg (Ws H)) rfl rfl (by kernel_rfl) (by kernel_rfl) (by kernel_rfl) (by kernel_rfl) (by kernel_rfl) (fun _ _ _ h => h) (Or.inl ⟨by rfl, ?hy0⟩) hW1 ?rest0
  case hy0 => exact fun wx hSx => exec_load_row 58 _ rfl h rfl 58 _ (0, 0) _ hSx.2.2.1 Tryd.underlying58 rfl (by rw [sH]; exact Tryd.infoF5)
  refine wpAnyM_take (i := 1) (dst := some 15) (v := ?v1) rfl rfl (by kernel_rfl) (by kernel_rfl) (by kernel_rfl) (by kernel_rfl) (by kernel_rfl) (fun _ _ _ h => h) (Or.inl ⟨by rfl, ?hy1⟩) hW1 ?rest1
  case hy1 => (intro wx hSx; clear hSx; go_simp; try (with_reducible rfl))
  refine wpAnyM_take (i := 2) (dst := some 16) (v := ?v2) rfl rfl (by kernel_rfl) (by kernel_rfl) (by kernel_rfl) (by kernel_rfl) (by kernel_rfl) (fun _ _ _ h => h) (Or.inl ⟨by rfl, ?hy2⟩) hW1 ?rest2
  case hy2 => (intro wx hSx; clear hSx; go_simp; try (with_reducible rfl))
  refine wpAnyM_take (i := 4) (dst := some 18) (v := .agg (Ws H)) rfl rfl (by kernel_rfl) (by kernel_rfl) (by kernel_rfl) (by kernel_rfl) (by kernel_rfl) (fun _ _ _ h => h) (Or.inl ⟨by rfl, ?hy4⟩) hW1 ?rest4
  case hy4 => exact fun wx hSx => exec_load_row 58 _ rfl h rfl 58 _ (0, 0) _ hSx.2.2.1 Tryd.underlying58 rfl (by rw [sH]; exact Tryd.infoF5)
  simp only [Act.put, List.setIfInBounds_toArray, List.set_cons_zero, List.set_cons_succ]
  change wpAnyM _ _ _ _ _ _ 4 #[true, true, true, false, true, false, false, false] _ _
  refine wpAnyM_phaseU (R := OneR w w.heap.size h a H SQ T) [6, 17, 19] [3, 5, 6] #[true, true, true, true, true, true, true, false] (by kernel_rfl) (by kernel_rfl) (by kernel_rfl) ⟨fun h => Bool.noConfusion h, fun h => Bool.noConfusion h, fun h => Bool.noConfusion h, hW1⟩ ?steps ?fin
  case steps =>
    refine StepsU.cons rfl ?s3 (StepsU.cons rfl ?s5 (StepsU.cons rfl ?s6 StepsU.nil))
    case s3 =>
      rintro d u wx ⟨h3, h5, h6, hX⟩ hd K hK
      simp only [layS, List.foldl, Act.put, List.setIfInBounds_toArray, List.set_cons_zero, List.set_cons_succ]
      go_simp
      go_wp2_with (go_at_call 76; refine (HSq.out _).mono ?_; rintro e x0 ⟨rfl, k0⟩)
      refine hK.out (upV u 17 (.agg (Ws SQ))) _ (hX.keep k0) ⟨fun _ => rfl, fun h => h5 h, fun h => (by obtain ⟨q, e, hb, hq⟩ := h6 h; exact ⟨q, e, hb.keep k0, hq⟩), hX.keep k0⟩ _ ?_
      simp only [layS, List.foldl, Act.put, List.setIfInBounds_toArray, List.set_cons_zero, List.set_cons_succ, upV, reduceIte, Nat.reduceEqDiff]
    case s5 =>
      rintro d u wx ⟨h3, h5, h6, hX⟩ hd K hK
      have e17 := h3 (hd 3 (by kernel_rfl))
      simp only [layS, List.foldl, Act.put, List.setIfInBounds_toArray, List.set_cons_zero, List.set_cons_succ, e17]
      go_simp
      go_wp2_with (go_at_call 60; refine (HT.out _).mono ?_; rintro e x0 ⟨rfl, k0⟩)
      refine hK.out (upV u 19 (.agg (Ws T))) _ (hX.keep k0) ⟨fun h => h3 h, fun _ => rfl, fun h => (by obtain ⟨q, e, hb, hq⟩ := h6 h; exact ⟨q, e, hb.keep k0, hq⟩), hX.keep k0⟩ _ ?_
      simp only [layS, List.foldl, Act.put, List.setIfInBounds_toArray, List.set_cons_zero, List.set_cons_succ, upV, reduceIte, Nat.reduceEqDiff, e17]
    case s6 =>
      rintro d u wx ⟨h3, h5, h6, hX⟩ hd K hK
      simp only [layS, List.foldl, Act.put, List.setIfInBounds_toArray, List.set_cons_zero, List.set_cons_succ]
      go_simp
      refine hK.out (upV u 6 (.pointer (some ⟨wx.heap.size, 0, none⟩))) _ (hX.alloc _) ⟨fun h => h3 h, fun h => h5 h, fun _ => ⟨wx.heap.size, rfl, Blk.new _ _ _, hX.2.1.lt⟩, hX.alloc _⟩ _ ?_
      simp only [layS, List.foldl, Act.put, List.setIfInBounds_toArray, List.set_cons_zero, List.set_cons_succ, upV, reduceIte, Nat.reduceEqDiff]
  case fin =>
    rintro n' d u wx ⟨h3, h5, h6, hX⟩ hd
    have e17 := h3 (hd 3 rfl)
    have e19 := h5 (hd 5 rfl)
    obtain ⟨q, e6, hq, hqp⟩ := h6 (hd 6 rfl)
    simp only [layS, List.foldl, Act.put, List.setIfInBounds_toArray, List.set_cons_zero, List.set_cons_succ, e17, e19, e6]
    clear h3 h5 h6 e17 e19 e6
    change wpAnyM _ _ _ _ _ _ (n' + 1) _ _ _
    refine wpAnyM_late (i := 7) (by kernel_rfl) rfl rfl (fun K hK => ?_)
    have hst := storeRow (l := T) hq (by rw [hlT]; rfl)
    go_simp
    refine hK.out _ _ ?_
    clear hK K hst
    refine wpAnyM_done (by kernel_rfl) ?_ _
    have r1 := hX.1.other (b' := q) (by omega) (Ws T)
    have r2 := hX.2.1.other (b' := q) (by omega) (Ws T)
    have r3 := hq.row (Ws T)
    have rb := below_setRow (g := q) hX.2.2.2 (by omega) (Ws T)
    clear hX hq
    generalize wx.setRow q (Ws T) = w4 at r1 r2 r3 rb ⊢
    by_cases hodd : n % 2 = 1
    · have i5 : (n : Int) % 2 = 1 := by omega
      have hr : RR = VV := by rw [show RR = _ from HE.out, if_pos hodd]
      subst hr
      clear HE HO HSq HT
      go_wp2_with fail
      refine wp_region_M (S := SqS q w.heap.size T a) (ls := [4]) (by kernel_rfl) ?_
      have hS0 : SqS q w.heap.size T a w4.drew := ⟨r3, r1⟩
      replace r2 : Blk w4.drew (w.heap.size + 1) (Ws [0, 0, 0, 0, 0]) 58 := r2
      replace rb : Below w.heap.size w w4.drew := rb.drew
      clear r1 r3
      generalize World.drew w4 = w5 at hS0 r2 rb ⊢
      refine wpAnyM_take (i := 0) (dst := some 23) (v := .agg (Ws T)) rfl rfl (by kernel_rfl) (by kernel_rfl) (by kernel_rfl) (by kernel_rfl) (by kernel_rfl) (fun _ _ _ h => h) (Or.inl ⟨by rfl, ?hz0⟩) hS0 ?resz0
      case hz0 => exact fun wx hSx => exec_load_row 58 _ rfl q rfl 58 _ (0, 0) _ hSx.1 Tryd.underlying58 rfl (by rw [sT]; exact Tryd.infoF5)
      refine wpAnyM_take (i := 2) (dst := some 25) (v := .agg (Ws a)) rfl rfl (by kernel_rfl) (by kernel_rfl) (by kernel_rfl) (by kernel_rfl) (by kernel_rfl) (fun _ _ _ h => h) (Or.inl ⟨by rfl, ?hz2⟩) hS0 ?resz2
      case hz2 => exact fun wx hSx => exec_load_row 58 _ rfl w.heap.size rfl 58 _ (0, 0) _ hSx.2 Tryd.underlying58 rfl (by rw [sa]; exact Tryd.infoF5)
      simp only [Act.put, List.setIfInBounds_toArray, List.set_cons_zero, List.set_cons_succ]
      refine wpAnyM_one (i := 1) (by kernel_rfl) rfl (fun K hK => ?_)
      go_simp
      go_wp2_with (go_at_call 65; refine (HS2.out _).mono ?_; rintro e x0 ⟨rfl, k0⟩)
      have hS1 : SqS q w.heap.size T a x0 := ⟨hS0.1.keep k0, hS0.2.keep k0⟩
      replace r2 := r2.keep k0
      replace rb := rb.trans (k0.mono rb.size)
      refine hK.out _ _ hS1 ?_
      clear hK K k0 hS0
      refine wpAnyM_one (i := 3) (by kernel_rfl) rfl (fun K hK => ?_)
      go_simp
      go_wp2_with (go_at_call 60; refine (HT2.out _).mono ?_; rintro e x1 ⟨rfl, k1⟩)
      have hS2 : SqS q w.heap.size T a x1 := ⟨hS1.1.keep k1, hS1.2.keep k1⟩
      replace r2 := r2.keep k1
      replace rb := rb.trans (k1.mono rb.size)
      refine hK.out _ _ hS2 ?_
      clear hK K k1 hS1
      refine wpAnyM_late (i := 4) (by kernel_rfl) rfl rfl (fun K hK => ?_)
      have hst := storeRow (l := RR) hS2.1 (by rw [hlV, sT])
      go_simp
      refine hK.out _ _ ?_
      clear hK K hst
      refine wpAnyM_done (by kernel_rfl) ?_ _
      have z1 := hS2.1.row (Ws RR)
      have z2 := r2.other (b' := q) (by omega) (Ws RR)
      have zb := below_setRow (g := q) rb (by omega) (Ws RR)
      clear hS2 r2 rb
      generalize x1.setRow q (Ws RR) = x2 at z1 z2 zb ⊢
      have g1 := z1; have g2 := z2
      unfold Blk at g1 g2
      have e0 : (Ws [0, 0, 0, 0, 0]).size = 5 := by rw [Ws_size]; rfl
      go_wp2_with (first
        | (refine wpList_load_row rfl 58 _ rfl q rfl 58 _ (0, 0) _ g1 Tryd.underlying58 rfl (by rw [sV]; exact Tryd.infoF5) ?_)
        | (refine wpList_store_row rfl 58 _ _ rfl (w.heap.size + 1) _ rfl rfl 58 _ g2 (by rw [sV]; exact Tryd.infoF5) (by rw [sV, e0]) (Ws_one _) ?_))
      refine bodyPost_ret (v := .agg (Ws RR)) ?_ rfl ⟨rfl, below_setRow zb (by omega) _⟩
      exact results_cell_row rfl _ _ (w.heap.size + 1) 58 _ (0, 0) _ rfl (z2.row _) Tryd.underlying58 rfl (by rw [sV]; exact Tryd.infoF5)
    · have i5 : ¬ (n : Int) % 2 = 1 := by omega
      have hr : RR = T := by rw [show RR = _ from HE.out, if_neg hodd]
      subst hr
      clear HE HO HSq HT
      have g1 := r3; have g2 := r2
      unfold Blk at g1 g2
      have e0 : (Ws [0, 0, 0, 0, 0]).size = 5 := by rw [Ws_size]; rfl
      go_wp2_with (first
        | (refine wpList_load_row rfl 58 _ rfl q rfl 58 _ (0, 0) _ g1 Tryd.underlying58 rfl (by rw [sT]; exact Tryd.infoF5) ?_)
        | (refine wpList_store_row rfl 58 _ _ rfl (w.heap.size + 1) _ rfl rfl 58 _ g2 (by rw [sT]; exact Tryd.infoF5) (by rw [sT, e0]) (Ws_one _) ?_))
      refine bodyPost_ret (v := .agg (Ws RR)) ?_ rfl ⟨rfl, below_setRow rb (by omega) _⟩
      exact results_cell_row rfl _ _ (w.heap.size + 1) 58 _ (0, 0) _ rfl (r2.row _) Tryd.underlying58 rfl (by rw [sT]; exact Tryd.infoF5)

end Go.Proofs.YtclpbaokadfhhaaDoor
