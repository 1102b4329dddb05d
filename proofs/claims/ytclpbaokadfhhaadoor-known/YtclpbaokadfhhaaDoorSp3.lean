/- Contract of scalar's Times. -/
import Derived.Test.YtclpbaokadfhhaaDoorSp2
import Derived.Test.YtclpbaokadfhhaaDoorFby
import Derived.Test.YtclpbaokadfhhaaDoorPhase
import Derived.Test.YtclpbaokadfhhaaDoorBlks
namespace Go.Proofs.YtclpbaokadfhhaaDoor
open Go.RowKit

set_option maxRecDepth 100000 in
set_option maxHeartbeats 4000000 in
theorem S_times (a b : List (BitVec 64)) (w : World) (ha : a.length = 4) (hb : b.length = 4) :
    Calls Tryd.prog 39 #[.agg (Ws a), .agg (Ws b)] w fun e w' => e = .returned (.agg (Ws (Sc.times a b))) ∧ Below w.heap.size w w' := by
  have sa : (Ws a).size = 4 := by rw [Ws_size, ha]
  have sb : (Ws b).size = 4 := by rw [Ws_size, hb]
  have HE : Hid (Sc.times a b = Sc.timesTo a b 253) := by
    have : Sc.times a b = Sc.timesTo a b 253 := rfl
    exact this
  generalize Sc.times a b = R at HE ⊢
  have h1 := (WS.start (w := w)).new (Ws a) 52
  have h2 := h1.new (Ws b) 52
  rw [show (w.alloc (.cells (Ws a) 52)).heap.size = w.heap.size + 1 by simp] at h2
  have h3 := h2.new (Ws [0, 0, 0, 0]) 52
  rw [show ((w.alloc (.cells (Ws a) 52)).alloc (.cells (Ws b) 52)).heap.size = w.heap.size + 1 + 1 by simp] at h3
  have hW := h3.new (Ws [0, 0, 0, 0]) 52
  rw [show (((w.alloc (.cells (Ws a) 52)).alloc (.cells (Ws b) 52)).alloc (.cells (Ws [0, 0, 0, 0]) 52)).heap.size = w.heap.size + 1 + 1 + 1 by simp] at hW
  clear h1 h2 h3
  go_enter Tryd.func39, Tryd.ntmps39
  go_wp2_with fail
  rw [SZ4]
  generalize (((w.alloc (.cells (Ws a) 52)).alloc (.cells (Ws b) 52)).alloc (.cells (Ws [0, 0, 0, 0]) 52)).alloc (.cells (Ws [0, 0, 0, 0]) 52) = w1 at hW ⊢
  go_loopw [6] (fun c wr => ∃ n : Nat, n ≤ 253 ∧ c = .int .i64 (252 - (n : Int)) ∧ WS w w.heap.size [(w.heap.size + 1 + 1 + 1, Ws (Sc.timesTo a b n), 52), (w.heap.size + 1 + 1, Ws [0, 0, 0, 0], 52), (w.heap.size + 1, Ws b, 52), (w.heap.size, Ws a, 52)] wr) (fun c _ => ((intOf c) + 1).toNat)
  case atStart => exact ⟨0, by omega, rfl, hW⟩
  case round =>
    clear hW
    obtain ⟨n, hn, rfl, hW⟩ := hrel
    have hlS := Sc.timesTo_length a b n
    by_cases hlt : n < 253
    · have HS : Hid (Sc.timesTo a b (n + 1) = Sc.plus (Sc.plus (Sc.timesTo a b n) (Sc.timesTo a b n)) (Sc.onlyIf a (Sc.bit b (252 - n)))) := by
        have : Sc.timesTo a b (n + 1) = Sc.plus (Sc.plus (Sc.timesTo a b n) (Sc.timesTo a b n)) (Sc.onlyIf a (Sc.bit b (252 - n))) := by rw [Sc.timesTo]
        exact this
      obtain ⟨at0, hat⟩ : ∃ at0 : Nat, at0 = 252 - n := ⟨_, rfl⟩
      rw [← hat] at HS
      have hc : (252 - (n : Int)) = (at0 : Int) := by omega
      rw [hc]
      have hat2 : at0 ≤ 252 := by omega
      clear hat
      replace hc : Hid (252 - (n : Int) = (at0 : Int)) := hc
      have i3 : (0 : Int) ≤ (at0 : Int) := by omega
      generalize hS : Sc.timesTo a b n = S at hW hlS HS
      replace hS : Hid (Sc.timesTo a b n = S) := hS
      have H1 : Hid (∀ wx : World, Calls Tryd.prog 37 #[.agg (Ws S), .agg (Ws S)] wx fun e w' => e = .returned (.agg (Ws (Sc.plus S S))) ∧ Below wx.heap.size wx w') := fun wx => S_plus S S wx hlS hlS
      have lP : (Sc.plus S S).length = 4 := by rw [Sc.plus_length, hlS]
      have H2 : Hid (∀ wx : World, Calls Tryd.prog 58 #[.agg (Ws b), .int .i64 (at0 : Int)] wx fun e w' => e = .returned (.int .u64 (U (Sc.bit b at0))) ∧ Below wx.heap.size wx w') := fun wx => S_bit b at0 wx hb (by omega)
      generalize Sc.plus S S = P at H1 lP HS
      generalize Sc.bit b at0 = t at H2 HS
      have H3 : Hid (∀ wx : World, Calls Tryd.prog 64 #[.agg (Ws a), .int .u64 (U t)] wx fun e w' => e = .returned (.agg (Ws (Sc.onlyIf a t))) ∧ Below wx.heap.size wx w') := fun wx => S_onlyIf a t wx ha
      have lO : (Sc.onlyIf a t).length = 4 := by rw [Sc.onlyIf_length, ha]
      generalize Sc.onlyIf a t = O at H3 lO HS
      have H4 : Hid (∀ wx : World, Calls Tryd.prog 37 #[.agg (Ws P), .agg (Ws O)] wx fun e w' => e = .returned (.agg (Ws (Sc.plus P O))) ∧ Below wx.heap.size wx w') := fun wx => S_plus P O wx lP lO
      have lT : (Sc.plus P O).length = 4 := by rw [Sc.plus_length, lP]
      generalize Sc.plus P O = T at H4 lT HS
      have sS : (Ws S).size = 4 := by rw [Ws_size, hlS]
      have sT : (Ws T).size = 4 := by rw [Ws_size, lT]
      clear lP lO
      go_wp2_with fail
      refine wp_region_M (S := WS w (w.heap.size) [(w.heap.size + 1 + 1 + 1, Ws S, 52), (w.heap.size + 1 + 1, Ws [0, 0, 0, 0], 52), (w.heap.size + 1, Ws b, 52), (w.heap.size, Ws a, 52)]) (ls := [9]) (by kernel_rfl) ?_
      have hW0 : WS w (w.heap.size) [(w.heap.size + 1 + 1 + 1, Ws S, 52), (w.heap.size + 1 + 1, Ws [0, 0, 0, 0], 52), (w.heap.size + 1, Ws b, 52), (w.heap.size, Ws a, 52)] wr.drew := hW.drew
      clear hW
      generalize World.drew wr = rd at hW0 ⊢
      refine wpAnyM_take (i := 0) (dst := some 11) (v := .agg (Ws S)) rfl rfl (by kernel_rfl) (by kernel_rfl) (by kernel_rfl) (by kernel_rfl) (by kernel_rfl) (fun _ _ _ h => h) (Or.inl ⟨by rfl, ?hyr0⟩) hW0 ?rer0
      case hyr0 => exact fun wx hSx => exec_load_row 52 _ rfl (w.heap.size + 1 + 1 + 1) rfl 52 _ (0, 0) _ (hSx.get 0 rfl) Tryd.underlying52 rfl (by rw [sS]; exact Tryd.infoS4)
      refine wpAnyM_take (i := 1) (dst := some 12) (v := .agg (Ws S)) rfl rfl (by kernel_rfl) (by kernel_rfl) (by kernel_rfl) (by kernel_rfl) (by kernel_rfl) (fun _ _ _ h => h) (Or.inl ⟨by rfl, ?hyr1⟩) hW0 ?rer1
      case hyr1 => exact fun wx hSx => exec_load_row 52 _ rfl (w.heap.size + 1 + 1 + 1) rfl 52 _ (0, 0) _ (hSx.get 0 rfl) Tryd.underlying52 rfl (by rw [sS]; exact Tryd.infoS4)
      refine wpAnyM_take (i := 3) (dst := some 14) (v := .agg (Ws a)) rfl rfl (by kernel_rfl) (by kernel_rfl) (by kernel_rfl) (by kernel_rfl) (by kernel_rfl) (fun _ _ _ h => h) (Or.inl ⟨by rfl, ?hyr3⟩) hW0 ?rer3
      case hyr3 => exact fun wx hSx => exec_load_row 52 _ rfl (w.heap.size) rfl 52 _ (0, 0) _ (hSx.get 3 rfl) Tryd.underlying52 rfl (by rw [sa]; exact Tryd.infoS4)
      simp only [Act.put, List.setIfInBounds_toArray, List.set_cons_zero, List.set_cons_succ]
      refine wpAnyM_take (i := 4) (dst := some 15) (v := .agg (Ws b)) rfl rfl (by kernel_rfl) (by kernel_rfl) (by kernel_rfl) (by kernel_rfl) (by kernel_rfl) (fun _ _ _ h => h) (Or.inl ⟨by rfl, ?hyr4⟩) hW0 ?rer4
      case hyr4 => exact fun wx hSx => exec_load_row 52 _ rfl (w.heap.size + 1) rfl 52 _ (0, 0) _ (hSx.get 2 rfl) Tryd.underlying52 rfl (by rw [sb]; exact Tryd.infoS4)
      refine wpAnyM_take (i := 5) (dst := some 16) (v := ?vr5) rfl rfl (by kernel_rfl) (by kernel_rfl) (by kernel_rfl) (by kernel_rfl) (by kernel_rfl) (fun _ _ _ h => h) (Or.inl ⟨by rfl, ?hyr5⟩) hW0 ?rer5
      case hyr5 => (intro wx hSx; clear hSx; go_simp; try (with_reducible rfl))
      try simp only [Act.put, List.setIfInBounds_toArray, List.set_cons_zero, List.set_cons_succ]
      refine wpAnyM_one (i := 2) (by kernel_rfl) rfl (fun K hK => ?_)
      go_simp
      go_wp2_with (go_at_call 37; refine (H1.out _).mono ?_; rintro e rx0 ⟨rfl, k0⟩)
      have hW1 := hW0.keep k0
      refine hK.out _ _ hW1 ?_
      try simp only [Act.put, List.setIfInBounds_toArray, List.set_cons_zero, List.set_cons_succ]
      clear hK K k0 hW0
      refine wpAnyM_one (i := 6) (by kernel_rfl) rfl (fun K hK => ?_)
      go_simp
      go_wp2_with (go_at_call 58; refine (H2.out _).mono ?_; rintro e rx1 ⟨rfl, k0⟩)
      have hW2 := hW1.keep k0
      refine hK.out _ _ hW2 ?_
      try simp only [Act.put, List.setIfInBounds_toArray, List.set_cons_zero, List.set_cons_succ]
      clear hK K k0 hW1
      refine wpAnyM_one (i := 7) (by kernel_rfl) rfl (fun K hK => ?_)
      go_simp
      go_wp2_with (go_at_call 64; refine (H3.out _).mono ?_; rintro e rx2 ⟨rfl, k0⟩)
      have hW3 := hW2.keep k0
      refine hK.out _ _ hW3 ?_
      try simp only [Act.put, List.setIfInBounds_toArray, List.set_cons_zero, List.set_cons_succ]
      clear hK K k0 hW2
      refine wpAnyM_one (i := 8) (by kernel_rfl) rfl (fun K hK => ?_)
      go_simp
      go_wp2_with (go_at_call 37; refine (H4.out _).mono ?_; rintro e rx3 ⟨rfl, k0⟩)
      have hW4 := hW3.keep k0
      refine hK.out _ _ hW4 ?_
      try simp only [Act.put, List.setIfInBounds_toArray, List.set_cons_zero, List.set_cons_succ]
      clear hK K k0 hW3
      refine wpAnyM_late (i := 9) (by kernel_rfl) rfl rfl (fun K hK => ?_)
      have hst := storeRow (l := T) (hW4.get 0 rfl) (by rw [sS, lT])
      go_simp
      refine hK.out _ _ ?_
      clear hK K hst
      replace hW4 := hW4.upd (w.heap.size + 1 + 1 + 1) (Ws T) 52 [(w.heap.size + 1 + 1 + 1, Ws T, 52), (w.heap.size + 1 + 1, Ws [0, 0, 0, 0], 52), (w.heap.size + 1, Ws b, 52), (w.heap.size, Ws a, 52)] ⟨_, List.mem_of_getElem? (i := 0) rfl⟩ (by intro x hx; simp only [List.mem_cons, List.not_mem_nil, or_false] at hx; rcases hx with rfl | rfl | rfl | rfl <;> first | exact Or.inl rfl | exact Or.inr ⟨by simp, by dsimp only; omega⟩)
      generalize rx3.setRow (w.heap.size + 1 + 1 + 1) (Ws T) = ry0 at hW4 ⊢
      refine wpAnyM_done (by kernel_rfl) ?_ _
      go_wp2
      go_roundw
      case rel =>
        refine ⟨n + 1, by omega, by have := hc.out; go_num, ?_⟩
        rw [show Sc.timesTo a b (n + 1) = _ from HS.out]
        exact hW4
      case measure => have := hc.out; simp [intOf]; try omega
    · have hk8 : n = 253 := by omega
      subst hk8
      generalize Sc.timesTo a b 253 = S at hW hlS HE
      have g0 := hW.get 0 rfl
      have g1 := hW.get 1 rfl
      dsimp only at g0 g1
      have hst := storeRow (l := S) g1 (by rw [hlS]; rfl)
      have sS : (Ws S).size = 4 := by rw [Ws_size, hlS]
      have hg1 := g1
      unfold Blk at g0
      go_wp2_with (first
        | (refine wpList_load_row rfl 52 _ rfl (w.heap.size + 1 + 1 + 1) rfl 52 _ (0, 0) _ g0 Tryd.underlying52 rfl (by rw [sS]; exact Tryd.infoS4) ?_))
      refine bodyPost_ret (v := .agg (Ws S)) ?_ rfl ⟨by rw [show R = _ from HE.out], below_setRow hW.below (by omega) _⟩
      exact results_cell_row rfl _ _ (w.heap.size + 1 + 1) 52 _ (0, 0) _ rfl (hg1.row _) Tryd.underlying52 rfl (by rw [sS]; exact Tryd.infoS4)
end Go.Proofs.YtclpbaokadfhhaaDoor
