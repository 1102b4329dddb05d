/- Contracts of curve's Base, choose, Negated, Times. -/
import Derived.Test.YtclpbaokadfhhaaDoorCp2
import Derived.Test.YtclpbaokadfhhaaDoorSp1
namespace Go.Proofs.YtclpbaokadfhhaaDoor
open Go.RowKit

theorem buildBase (w : World) : (Instr.build 60 #[(0, .agg #[.int .u64 1738742601995546, .int .u64 1146398526822698, .int .u64 2070867633025821, .int .u64 562264141797630, .int .u64 587772402128613]), (1, .agg #[.int .u64 1801439850948184, .int .u64 1351079888211148, .int .u64 450359962737049, .int .u64 900719925474099, .int .u64 1801439850948198]), (2, .agg (Ws Ff.one5))]).run Tryd.prog w = .ok (.agg (Ws (Cv.row Cv.base))) w := run_build w _ _ _ (by kernel_rfl)
theorem base_len : (Cv.row Cv.base).length = 15 := rfl

set_option maxRecDepth 100000 in
set_option maxHeartbeats 2000000 in
theorem C_base (w : World) : Calls Tryd.prog 34 #[] w fun e w' => e = .returned (.agg (Ws (Cv.row Cv.base))) ∧ Below w.heap.size w w' := by
  have hz := zero15
  have H1 : Hid (∀ wx : World, Calls Tryd.prog 56 #[] wx fun e w' => e = .returned (.agg (Ws Ff.one5)) ∧ Below wx.heap.size wx w') := C_one
  have HB := buildBase
  have lR := base_len
  have sZ := Z15_len
  generalize Z15 = ZO at hz sZ
  generalize Ff.one5 = O at H1 HB
  generalize Cv.row Cv.base = R at HB lR ⊢
  have sR : (Ws R).size = 15 := by rw [Ws_size, lR]
  have sZ' : (Ws ZO).size = 15 := by rw [Ws_size, sZ]
  have hb := Blk.new w (Ws ZO) 60
  have hbel : Below w.heap.size w (w.alloc (.cells (Ws ZO) 60)) := (Below.refl _ _).alloc (Nat.le_refl _) _
  go_enter Tryd.func34, Tryd.ntmps34
  go_wp2_with fail
  generalize w.alloc (.cells (Ws ZO) 60) = w1 at hb hbel ⊢
  refine (H1.out _).mono ?_
  rintro e w2 ⟨rfl, k2⟩
  replace hb := hb.keep k2
  replace hbel := hbel.trans (k2.mono hbel.size)
  have gz := hb
  unfold Blk at gz
  go_wp2_with (first
    | (refine wpList_made rfl 60 _ rfl [(0, .agg #[.int .u64 1738742601995546, .int .u64 1146398526822698, .int .u64 2070867633025821, .int .u64 562264141797630, .int .u64 587772402128613]), (1, .agg #[.int .u64 1801439850948184, .int .u64 1351079888211148, .int .u64 450359962737049, .int .u64 900719925474099, .int .u64 1801439850948198]), (2, .agg (Ws O))] rfl _ (HB _) ?_)
    | (refine wpList_store_row rfl 60 _ _ rfl w.heap.size _ rfl rfl 60 _ gz (by rw [sR]; exact Tryd.infoP15) (by rw [sR, sZ']) (Ws_one _) ?_))
  refine bodyPost_ret (v := .agg (Ws R)) ?_ rfl ⟨rfl, below_setRow hbel (by omega) _⟩
  exact results_cell_row rfl _ _ w.heap.size 60 _ (0, 0) _ rfl (hb.row _) Tryd.underlying60 rfl (by rw [sR]; exact Tryd.infoP15)

theorem setCells5' {w : World} {b t : Nat} {L : List (BitVec 64)} (h : Blk w b (Ws L) t) (off : Nat) (v0 v1 v2 v3 v4 : BitVec 64) :
    w.setCells b off (Ws [v0, v1, v2, v3, v4]).toList = w.setRow b (Ws (((((L.set off v0).set (off + 1) v1).set (off + 1 + 1) v2).set (off + 1 + 1 + 1) v3).set (off + 1 + 1 + 1 + 1) v4)) := by
  show ((((w.setCell ⟨b, off, none⟩ (.int .u64 (U v0))).setCell ⟨b, off + 1, none⟩ (.int .u64 (U v1))).setCell ⟨b, off + 1 + 1, none⟩ (.int .u64 (U v2))).setCell ⟨b, off + 1 + 1 + 1, none⟩ (.int .u64 (U v3))).setCell ⟨b, off + 1 + 1 + 1 + 1, none⟩ (.int .u64 (U v4)) = _
  rw [h.set, Ws_set, (h.row _).set, setRow_setRow, Ws_set, (h.row _).set, setRow_setRow, Ws_set, (h.row _).set, setRow_setRow, Ws_set, (h.row _).set, setRow_setRow, Ws_set]
theorem pt_there {w : World} {b t off : Nat} {L : List (BitVec 64)} (h : Blk w b (Ws L) t) (ho : off + 5 ≤ L.length) {cs : Array Value} (hc : cs.size = 5) : w.there b off cs.size := by
  rw [hc]
  intro j hj
  refine ⟨?_, h.frozen _⟩
  rw [h.cell, Ws_at _ _ (by omega)]; rfl
theorem ptSetX {w : World} {b t : Nat} {A B C V : List (BitVec 64)} (h : Blk w b (Ws (pt A B C)) t) (hA : A.length = 5) (hV : V.length = 5) : w.setCells b 0 (Ws V).toList = w.setRow b (Ws (pt V B C)) := by
  obtain ⟨v0, v1, v2, v3, v4, rfl⟩ := Ff.five V hV
  obtain ⟨a0, a1, a2, a3, a4, rfl⟩ := Ff.five A hA
  exact setCells5' h 0 v0 v1 v2 v3 v4
theorem ptSetY {w : World} {b t : Nat} {A B C V : List (BitVec 64)} (h : Blk w b (Ws (pt A B C)) t) (hA : A.length = 5) (hB : B.length = 5) (hV : V.length = 5) : w.setCells b 5 (Ws V).toList = w.setRow b (Ws (pt A V C)) := by
  obtain ⟨v0, v1, v2, v3, v4, rfl⟩ := Ff.five V hV
  obtain ⟨a0, a1, a2, a3, a4, rfl⟩ := Ff.five A hA
  obtain ⟨b0, b1, b2, b3, b4, rfl⟩ := Ff.five B hB
  exact setCells5' h 5 v0 v1 v2 v3 v4
theorem ptSetZ {w : World} {b t : Nat} {A B C V : List (BitVec 64)} (h : Blk w b (Ws (pt A B C)) t) (hA : A.length = 5) (hB : B.length = 5) (hC : C.length = 5) (hV : V.length = 5) : w.setCells b 10 (Ws V).toList = w.setRow b (Ws (pt A B V)) := by
  obtain ⟨v0, v1, v2, v3, v4, rfl⟩ := Ff.five V hV
  obtain ⟨a0, a1, a2, a3, a4, rfl⟩ := Ff.five A hA
  obtain ⟨b0, b1, b2, b3, b4, rfl⟩ := Ff.five B hB
  obtain ⟨c0, c1, c2, c3, c4, rfl⟩ := Ff.five C hC
  exact setCells5' h 10 v0 v1 v2 v3 v4

set_option maxRecDepth 100000 in
set_option maxHeartbeats 4000000 in
theorem C_choose' (bit : BitVec 64) (A B C D E F : List (BitVec 64)) (w : World) (hA : A.length = 5) (hB : B.length = 5) (hC : C.length = 5) (hD : D.length = 5) (hE : E.length = 5) (hF : F.length = 5) :
    Calls Tryd.prog 57 #[.int .u64 (U bit), .agg (Ws (pt A B C)), .agg (Ws (pt D E F))] w fun e w' => e = .returned (.agg (Ws (pt (Ff.swap bit A D).1 (Ff.swap bit B E).1 (Ff.swap bit C F).1))) ∧ Below w.heap.size w w' := by
  have hz := zero15
  have sA : (Ws A).size = 5 := by rw [Ws_size, hA]
  have sB : (Ws B).size = 5 := by rw [Ws_size, hB]
  have sC : (Ws C).size = 5 := by rw [Ws_size, hC]
  have sD : (Ws D).size = 5 := by rw [Ws_size, hD]
  have sE : (Ws E).size = 5 := by rw [Ws_size, hE]
  have sF : (Ws F).size = 5 := by rw [Ws_size, hF]
  have H1 : Hid (∀ wx : World, Calls Tryd.prog 75 #[.int .u64 (U bit), .agg (Ws A), .agg (Ws D)] wx fun e w' => e = .returned (.tuple #[.agg (Ws (Ff.swap bit A D).1), .agg (Ws (Ff.swap bit A D).2)]) ∧ Below wx.heap.size wx w') := fun wx => F_swap bit A D wx hA hD
  have l1 : (Ff.swap bit A D).1.length = 5 := by rw [Ff.swap, (Ff.swapTo_length _ _ _ _).1, hA]
  generalize (Ff.swap bit A D).1 = V1 at H1 l1 ⊢
  generalize (Ff.swap bit A D).2 = T1 at H1
  have sV1 : (Ws V1).size = 5 := by rw [Ws_size, l1]
  have H2 : Hid (∀ wx : World, Calls Tryd.prog 75 #[.int .u64 (U bit), .agg (Ws B), .agg (Ws E)] wx fun e w' => e = .returned (.tuple #[.agg (Ws (Ff.swap bit B E).1), .agg (Ws (Ff.swap bit B E).2)]) ∧ Below wx.heap.size wx w') := fun wx => F_swap bit B E wx hB hE
  have l2 : (Ff.swap bit B E).1.length = 5 := by rw [Ff.swap, (Ff.swapTo_length _ _ _ _).1, hB]
  generalize (Ff.swap bit B E).1 = V2 at H2 l2 ⊢
  generalize (Ff.swap bit B E).2 = T2 at H2
  have sV2 : (Ws V2).size = 5 := by rw [Ws_size, l2]
  have H3 : Hid (∀ wx : World, Calls Tryd.prog 75 #[.int .u64 (U bit), .agg (Ws C), .agg (Ws F)] wx fun e w' => e = .returned (.tuple #[.agg (Ws (Ff.swap bit C F).1), .agg (Ws (Ff.swap bit C F).2)]) ∧ Below wx.heap.size wx w') := fun wx => F_swap bit C F wx hC hF
  have l3 : (Ff.swap bit C F).1.length = 5 := by rw [Ff.swap, (Ff.swapTo_length _ _ _ _).1, hC]
  generalize (Ff.swap bit C F).1 = V3 at H3 l3 ⊢
  generalize (Ff.swap bit C F).2 = T3 at H3
  have sV3 : (Ws V3).size = 5 := by rw [Ws_size, l3]
  have sZ := Z15_len
  generalize Z15 = ZO at hz sZ
  have sZ' : (Ws ZO).size = 15 := by rw [Ws_size, sZ]
  have sP : (Ws (pt A B C)).size = 15 := pt_size hA hB hC
  have sQ : (Ws (pt D E F)).size = 15 := pt_size hD hE hF
  have hW : WD w w.heap.size [(w.heap.size + 1 + 1, Ws ZO, 60), (w.heap.size + 1, Ws (pt D E F), 60), (w.heap.size, Ws (pt A B C), 60)] (((w.alloc (.cells (Ws (pt A B C)) 60)).alloc (.cells (Ws (pt D E F)) 60)).alloc (.cells (Ws ZO) 60)) := by
    have h1 := (WD.start (w := w)).new (Ws (pt A B C)) 60
    have h2 := h1.new (Ws (pt D E F)) 60
    rw [show (w.alloc (.cells (Ws (pt A B C)) 60)).heap.size = w.heap.size + 1 by simp] at h2
    have h3 := h2.new (Ws ZO) 60
    rw [show ((w.alloc (.cells (Ws (pt A B C)) 60)).alloc (.cells (Ws (pt D E F)) 60)).heap.size = w.heap.size + 1 + 1 by simp] at h3
    exact h3
  have c1 := ptX (hW.get 2 rfl)
  have c2 := ptX (hW.get 1 rfl)
  generalize hPa : Ws (pt A B C) = PA at sP hW c1 c2 ⊢
  generalize hPb : Ws (pt D E F) = PB at sQ hW c1 c2 ⊢
  replace hPa : Hid (Ws (pt A B C) = PA) := hPa
  replace hPb : Hid (Ws (pt D E F) = PB) := hPb
  go_enter Tryd.func57, Tryd.ntmps57
  go_wp2_with (first
    | (refine wpList_mid rfl 58 _ rfl w.heap.size 0 rfl (Ws A) _ c1 Tryd.underlying58 rfl (by rw [sA]; exact Tryd.infoF5) ?_)
    | (refine wpList_mid rfl 58 _ rfl (w.heap.size + 1) 0 rfl (Ws D) _ c2 Tryd.underlying58 rfl (by rw [sD]; exact Tryd.infoF5) ?_))
  clear c1 c2
  rw [← hPa.out, ← hPb.out] at hW ⊢
  clear sP sQ hPa hPb
  generalize ((w.alloc (.cells (Ws (pt A B C)) 60)).alloc (.cells (Ws (pt D E F)) 60)).alloc (.cells (Ws ZO) 60) = w1 at hW ⊢
  refine (H1.out _).mono ?_
  rintro e w2 ⟨rfl, k2⟩
  replace hW := hW.keep k2
  clear k2
  have t1 := pt_there (off := 0) (hW.get 2 rfl) (by rw [pt_length hA hB hC]; omega) sV1
  have e1 := ptSetX (hW.get 2 rfl) hA l1
  dsimp only at t1 e1
  have hW2 : WD w w.heap.size [(w.heap.size + 1 + 1, Ws ZO, 60), (w.heap.size + 1, Ws (pt D E F), 60), (w.heap.size, Ws (pt V1 B C), 60)] (w2.setRow w.heap.size (Ws (pt V1 B C))) := hW.over 2 rfl _
  rw [← e1] at hW2
  clear e1
  have c1 := ptY (hW2.get 2 rfl) l1
  have c2 := ptY (hW2.get 1 rfl) hD
  go_wp2_with (first
    | (refine wpList_store_mid rfl 58 _ _ rfl w.heap.size 0 (Ws V1) rfl rfl t1 (by rw [sV1]; exact Tryd.infoF5) (Ws_one _) ?_)
    | (refine wpList_mid rfl 58 _ rfl w.heap.size 5 rfl (Ws B) _ c1 Tryd.underlying58 rfl (by rw [sB]; exact Tryd.infoF5) ?_)
    | (refine wpList_mid rfl 58 _ rfl (w.heap.size + 1) 5 rfl (Ws E) _ c2 Tryd.underlying58 rfl (by rw [sE]; exact Tryd.infoF5) ?_))
  clear c1 c2 t1 hW
  generalize w2.setCells w.heap.size 0 (Ws V1).toList = w3 at hW2 ⊢
  refine (H2.out _).mono ?_
  rintro e w4 ⟨rfl, k4⟩
  replace hW2 := hW2.keep k4
  clear k4
  have t1 := pt_there (off := 5) (hW2.get 2 rfl) (by rw [pt_length l1 hB hC]; omega) sV2
  have e1 := ptSetY (hW2.get 2 rfl) l1 hB l2
  dsimp only at t1 e1
  have hW3 : WD w w.heap.size [(w.heap.size + 1 + 1, Ws ZO, 60), (w.heap.size + 1, Ws (pt D E F), 60), (w.heap.size, Ws (pt V1 V2 C), 60)] (w4.setRow w.heap.size (Ws (pt V1 V2 C))) := hW2.over 2 rfl _
  rw [← e1] at hW3
  clear e1
  have c1 := ptZ (hW3.get 2 rfl) l1 l2
  have c2 := ptZ (hW3.get 1 rfl) hD hE
  go_wp2_with (first
    | (refine wpList_store_mid rfl 58 _ _ rfl w.heap.size 5 (Ws V2) rfl rfl t1 (by rw [sV2]; exact Tryd.infoF5) (Ws_one _) ?_)
    | (refine wpList_mid rfl 58 _ rfl w.heap.size 10 rfl (Ws C) _ c1 Tryd.underlying58 rfl (by rw [sC]; exact Tryd.infoF5) ?_)
    | (refine wpList_mid rfl 58 _ rfl (w.heap.size + 1) 10 rfl (Ws F) _ c2 Tryd.underlying58 rfl (by rw [sF]; exact Tryd.infoF5) ?_))
  clear c1 c2 t1 hW2
  generalize w4.setCells w.heap.size 5 (Ws V2).toList = w5 at hW3 ⊢
  refine (H3.out _).mono ?_
  rintro e w6 ⟨rfl, k6⟩
  replace hW3 := hW3.keep k6
  clear k6
  have t1 := pt_there (off := 10) (hW3.get 2 rfl) (by rw [pt_length l1 l2 hC]; omega) sV3
  have e1 := ptSetZ (hW3.get 2 rfl) l1 l2 hC l3
  dsimp only at t1 e1
  have hW4 : WD w w.heap.size [(w.heap.size + 1 + 1, Ws ZO, 60), (w.heap.size + 1, Ws (pt D E F), 60), (w.heap.size, Ws (pt V1 V2 V3), 60)] (w6.setRow w.heap.size (Ws (pt V1 V2 V3))) := hW3.over 2 rfl _
  rw [← e1] at hW4
  clear e1
  have sR : (Ws (pt V1 V2 V3)).size = 15 := pt_size l1 l2 l3
  have lR : (pt V1 V2 V3).length = 15 := pt_length l1 l2 l3
  have g1 := hW4.get 2 rfl
  have g2 := hW4.get 0 rfl
  dsimp only at g1 g2
  unfold Blk at g1 g2
  generalize hV : pt V1 V2 V3 = VV at sR lR g1 hW4 ⊢
  go_wp2_with (first
    | (refine wpList_store_mid rfl 58 _ _ rfl w.heap.size 10 (Ws V3) rfl rfl t1 (by rw [sV3]; exact Tryd.infoF5) (Ws_one _) ?_)
    | (refine wpList_load_row rfl 60 _ rfl w.heap.size rfl 60 _ (0, 0) _ g1 Tryd.underlying60 rfl (by rw [sR]; exact Tryd.infoP15) ?_)
    | (refine wpList_store_row rfl 60 _ _ rfl (w.heap.size + 1 + 1) _ rfl rfl 60 _ g2 (by rw [sR]; exact Tryd.infoP15) (by rw [sR, sZ']) (Ws_one _) ?_))
  have hW5 := hW4.over 0 rfl (Ws VV)
  refine bodyPost_ret (v := .agg (Ws VV)) ?_ rfl ⟨by rw [hV], hW5.below⟩
  exact results_cell_row rfl _ _ (w.heap.size + 1 + 1) 60 _ (0, 0) _ rfl (hW5.get 0 rfl) Tryd.underlying60 rfl (by rw [sR]; exact Tryd.infoP15)
theorem C_choose (bit : BitVec 64) (a b : Cv.Pn) (w : World) (ha : Cv.Ok a) (hb : Cv.Ok b) :
    Calls Tryd.prog 57 #[.int .u64 (U bit), .agg (Ws (Cv.row a)), .agg (Ws (Cv.row b))] w fun e w' => e = .returned (.agg (Ws (Cv.row (Cv.choose bit a b)))) ∧ Below w.heap.size w w' := by
  have := C_choose' bit a.x a.y a.z b.x b.y b.z w ha.1 ha.2.1 ha.2.2 hb.1 hb.2.1 hb.2.2
  have e : Cv.row (Cv.choose bit a b) = pt (Ff.swap bit a.x b.x).1 (Ff.swap bit a.y b.y).1 (Ff.swap bit a.z b.z).1 := by
    unfold Cv.choose Cv.row pt
    with_reducible rfl
  rw [e]
  exact this

set_option maxRecDepth 100000 in
set_option maxHeartbeats 4000000 in
theorem C_negated' (A B C : List (BitVec 64)) (w : World) (hA : A.length = 5) (hB : B.length = 5) (hC : C.length = 5) :
    Calls Tryd.prog 42 #[.agg (Ws (pt A B C))] w fun e w' => e = .returned (.agg (Ws (pt (Ff.negated A) B C))) ∧ Below w.heap.size w w' := by
  have hz := zero15
  have sA : (Ws A).size = 5 := by rw [Ws_size, hA]
  have sB : (Ws B).size = 5 := by rw [Ws_size, hB]
  have sC : (Ws C).size = 5 := by rw [Ws_size, hC]
  have H1 : Hid (∀ wx : World, Calls Tryd.prog 70 #[.agg (Ws A)] wx fun e w' => e = .returned (.agg (Ws (Ff.negated A))) ∧ Below wx.heap.size wx w') := fun wx => F_negated A wx hA
  have hV : (Ff.negated A).length = 5 := Ff.negated_length _
  generalize Ff.negated A = V at H1 hV ⊢
  have HB : Hid (∀ wx : World, (Instr.build 60 #[(0, .agg (Ws V)), (1, .agg (Ws B)), (2, .agg (Ws C))]).run Tryd.prog wx = .ok (.agg (Ws (pt V B C))) wx) := build15 V B C hV hB hC
  have sZ := Z15_len
  generalize Z15 = ZO at hz sZ
  have sZ' : (Ws ZO).size = 15 := by rw [Ws_size, sZ]
  have sP : (Ws (pt A B C)).size = 15 := pt_size hA hB hC
  have sR : (Ws (pt V B C)).size = 15 := pt_size hV hB hC
  have lR : (pt V B C).length = 15 := pt_length hV hB hC
  have hW : WD w w.heap.size [(w.heap.size + 1, Ws ZO, 60), (w.heap.size, Ws (pt A B C), 60)] ((w.alloc (.cells (Ws (pt A B C)) 60)).alloc (.cells (Ws ZO) 60)) := by
    have h1 := (WD.start (w := w)).new (Ws (pt A B C)) 60
    have h2 := h1.new (Ws ZO) 60
    rw [show (w.alloc (.cells (Ws (pt A B C)) 60)).heap.size = w.heap.size + 1 by simp] at h2
    exact h2
  generalize hPa : Ws (pt A B C) = PA at sP ⊢
  replace hPa : Hid (Ws (pt A B C) = PA) := hPa
  rw [hPa.out] at hW
  go_enter Tryd.func42, Tryd.ntmps42
  go_wp2_with fail
  rw [← hPa.out] at hW ⊢
  clear sP hPa
  generalize (w.alloc (.cells (Ws (pt A B C)) 60)).alloc (.cells (Ws ZO) 60) = w1 at hW ⊢
  refine wp_region_M (S := WD w (w.heap.size) [(w.heap.size + 1, Ws ZO, 60), (w.heap.size, Ws (pt A B C), 60)]) (ls := [8]) (by kernel_rfl) ?_
  have hW0 : WD w (w.heap.size) [(w.heap.size + 1, Ws ZO, 60), (w.heap.size, Ws (pt A B C), 60)] w1.drew := hW.drew
  clear hW
  generalize World.drew w1 = nd at hW0 ⊢
  refine wpAnyM_take (i := 0) (dst := some 3) (v := ?vn0) rfl rfl (by kernel_rfl) (by kernel_rfl) (by kernel_rfl) (by kernel_rfl) (by kernel_rfl) (fun _ _ _ h => h) (Or.inl ⟨by rfl, ?hyn0⟩) hW0 ?ren0
  case hyn0 => (intro wx hSx; clear hSx; go_simp; try (with_reducible rfl))
  refine wpAnyM_take (i := 1) (dst := some 4) (v := .agg (Ws A)) rfl rfl (by kernel_rfl) (by kernel_rfl) (by kernel_rfl) (by kernel_rfl) (by kernel_rfl) (fun _ _ _ h => h) (Or.inl ⟨by rfl, ?hyn1⟩) hW0 ?ren1
  case hyn1 => exact fun wx hSx => exec_mid 58 _ rfl (w.heap.size) 0 rfl (Ws A) _ (ptX (hSx.get 1 rfl)) Tryd.underlying58 rfl (by rw [sA]; exact Tryd.infoF5)
  refine wpAnyM_take (i := 3) (dst := some 6) (v := ?vn3) rfl rfl (by kernel_rfl) (by kernel_rfl) (by kernel_rfl) (by kernel_rfl) (by kernel_rfl) (fun _ _ _ h => h) (Or.inl ⟨by rfl, ?hyn3⟩) hW0 ?ren3
  case hyn3 => (intro wx hSx; clear hSx; go_simp; try (with_reducible rfl))
  simp only [Act.put, List.setIfInBounds_toArray, List.set_cons_zero, List.set_cons_succ]
  refine wpAnyM_take (i := 4) (dst := some 7) (v := .agg (Ws B)) rfl rfl (by kernel_rfl) (by kernel_rfl) (by kernel_rfl) (by kernel_rfl) (by kernel_rfl) (fun _ _ _ h => h) (Or.inl ⟨by rfl, ?hyn4⟩) hW0 ?ren4
  case hyn4 => exact fun wx hSx => exec_mid 58 _ rfl (w.heap.size) 5 rfl (Ws B) _ (ptY (hSx.get 1 rfl) hA) Tryd.underlying58 rfl (by rw [sB]; exact Tryd.infoF5)
  refine wpAnyM_take (i := 5) (dst := some 8) (v := ?vn5) rfl rfl (by kernel_rfl) (by kernel_rfl) (by kernel_rfl) (by kernel_rfl) (by kernel_rfl) (fun _ _ _ h => h) (Or.inl ⟨by rfl, ?hyn5⟩) hW0 ?ren5
  case hyn5 => (intro wx hSx; clear hSx; go_simp; try (with_reducible rfl))
  refine wpAnyM_take (i := 6) (dst := some 9) (v := .agg (Ws C)) rfl rfl (by kernel_rfl) (by kernel_rfl) (by kernel_rfl) (by kernel_rfl) (by kernel_rfl) (fun _ _ _ h => h) (Or.inl ⟨by rfl, ?hyn6⟩) hW0 ?ren6
  case hyn6 => exact fun wx hSx => exec_mid 58 _ rfl (w.heap.size) 10 rfl (Ws C) _ (ptZ (hSx.get 1 rfl) hA hB) Tryd.underlying58 rfl (by rw [sC]; exact Tryd.infoF5)
  try simp only [Act.put, List.setIfInBounds_toArray, List.set_cons_zero, List.set_cons_succ]
  refine wpAnyM_one (i := 2) (by kernel_rfl) rfl (fun K hK => ?_)
  go_simp
  go_wp2_with (go_at_call 70; refine (H1.out _).mono ?_; rintro e nx0 ⟨rfl, k0⟩)
  have hW1 := hW0.keep k0
  refine hK.out _ _ hW1 ?_
  try simp only [Act.put, List.setIfInBounds_toArray, List.set_cons_zero, List.set_cons_succ]
  clear hK K k0 hW0
  refine wpAnyM_take (i := 7) (dst := some 10) (v := .agg (Ws (pt V B C))) rfl rfl (by kernel_rfl) (by kernel_rfl) (by kernel_rfl) (by kernel_rfl) (by kernel_rfl) (fun _ _ _ h => h) (Or.inl ⟨by rfl, ?hyn7⟩) hW1 ?ren7
  case hyn7 => exact fun wx _ => exec_made 60 _ rfl [(0, .agg (Ws V)), (1, .agg (Ws B)), (2, .agg (Ws C))] rfl _ (HB.out wx)
  simp only [Act.put, List.setIfInBounds_toArray, List.set_cons_zero, List.set_cons_succ]
  generalize hLR : pt V B C = LR at sR lR ⊢
  replace hLR : Hid (pt V B C = LR) := hLR
  refine wpAnyM_late (i := 8) (by kernel_rfl) rfl rfl (fun K hK => ?_)
  have hst := storeRow (l := LR) (hW1.get 0 rfl) (by rw [sZ', lR])
  go_simp
  refine hK.out _ _ ?_
  clear hK K hst
  replace hW1 : WD w (w.heap.size) [(w.heap.size + 1, Ws LR, 60), (w.heap.size, Ws (pt A B C), 60)] (nx0.setRow (w.heap.size + 1) (Ws LR)) := hW1.over 0 rfl (Ws LR)
  generalize nx0.setRow (w.heap.size + 1) (Ws LR) = ny0 at hW1 ⊢
  refine wpAnyM_done (by kernel_rfl) ?_ _
  go_wp2
  refine bodyPost_ret (v := .agg (Ws LR)) ?_ rfl ⟨by rw [hLR.out], hW1.below⟩
  exact results_cell_row rfl _ _ (w.heap.size + 1) 60 _ (0, 0) _ rfl (hW1.get 0 rfl) Tryd.underlying60 rfl (by rw [sR]; exact Tryd.infoP15)
theorem C_negated (a : Cv.Pn) (w : World) (ha : Cv.Ok a) :
    Calls Tryd.prog 42 #[.agg (Ws (Cv.row a))] w fun e w' => e = .returned (.agg (Ws (Cv.row (Cv.negated a)))) ∧ Below w.heap.size w w' := by
  have := C_negated' a.x a.y a.z w ha.1 ha.2.1 ha.2.2
  have e : Cv.row (Cv.negated a) = pt (Ff.negated a.x) a.y a.z := by
    unfold Cv.negated Cv.row pt
    with_reducible rfl
  rw [e]
  exact this
end Go.Proofs.YtclpbaokadfhhaaDoor
