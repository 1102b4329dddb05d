/- Contracts of field's Square, squares. -/
import Derived.Test.YtclpbaokadfhhaaDoorFx
namespace Go.Proofs.YtclpbaokadfhhaaDoor
open Go.RowKit

set_option maxRecDepth 100000 in
set_option maxHeartbeats 1000000 in
theorem F_square (a : List (BitVec 64)) (w : World) (ha : a.length = 5) :
    Calls Tryd.prog 65 #[.agg (Ws a)] w fun e w' => e = .returned (.agg (Ws (Ff.times a a))) ∧ Below w.heap.size w w' := by
  have sa : (Ws a).size = 5 := by rw [Ws_size, ha]
  have hb1 : Blk ((w.alloc (.cells (Ws a) 58)).alloc (.cells (Ws [0, 0, 0, 0, 0]) 58)) w.heap.size (Ws a) 58 := heap_alloc2_old w _ _
  have hb2 : Blk ((w.alloc (.cells (Ws a) 58)).alloc (.cells (Ws [0, 0, 0, 0, 0]) 58)) (w.heap.size + 1) (Ws [0, 0, 0, 0, 0]) 58 := heap_alloc2_new w _ _
  have hbel : Below w.heap.size w ((w.alloc (.cells (Ws a) 58)).alloc (.cells (Ws [0, 0, 0, 0, 0]) 58)) := ((Below.refl _ _).alloc (Nat.le_refl _) _).alloc (by simp) _
  have H1 : Hid (∀ wx : World, Calls Tryd.prog 60 #[.agg (Ws a), .agg (Ws a)] wx fun e w' => e = .returned (.agg (Ws (Ff.times a a))) ∧ Below wx.heap.size wx w') := fun wx => F_times a a wx ha ha
  have hlR : (Ff.times a a).length = 5 := Ff.times_length _ _
  generalize Ff.times a a = R at H1 hlR ⊢
  have sR : (Ws R).size = 5 := by rw [Ws_size, hlR]
  have g1 := hb1
  unfold Blk at g1
  rw [← FZ5] at g1
  go_enter Tryd.func65, Tryd.ntmps65
  go_wp2_with (first
    | (refine wpList_load_row rfl 58 _ rfl w.heap.size rfl 58 _ (0, 0) _ g1 Tryd.underlying58 rfl (by rw [sa]; exact Tryd.infoF5) ?_))
  rw [FZ5]
  clear g1
  generalize (w.alloc (.cells (Ws a) 58)).alloc (.cells (Ws [0, 0, 0, 0, 0]) 58) = w1 at hb1 hb2 hbel ⊢
  refine (H1.out _).mono ?_
  rintro e w2 ⟨rfl, k2⟩
  replace hb2 := hb2.keep k2
  replace hbel := hbel.trans (k2.mono hbel.size)
  have hst := storeRow (l := R) hb2 (by rw [hlR]; rfl)
  go_wp2
  refine bodyPost_ret (v := .agg (Ws R)) ?_ rfl ⟨rfl, below_setRow hbel (by omega) _⟩
  exact results_cell_row rfl _ _ (w.heap.size + 1) 58 _ (0, 0) _ rfl (hb2.row _) Tryd.underlying58 rfl (by rw [sR]; exact Tryd.infoF5)

set_option maxRecDepth 100000 in
set_option maxHeartbeats 1000000 in
theorem F_squares (a : List (BitVec 64)) (n : Nat) (w : World) (ha : a.length = 5) (hn : n ≤ 1000) :
    Calls Tryd.prog 76 #[.agg (Ws a), .int .i64 n] w fun e w' => e = .returned (.agg (Ws (Ff.squares a n))) ∧ Below w.heap.size w w' := by
  have sa : (Ws a).size = 5 := by rw [Ws_size, ha]
  have hb1 : Blk ((w.alloc (.cells (Ws a) 58)).alloc (.cells (Ws [0, 0, 0, 0, 0]) 58)) w.heap.size (Ws a) 58 := heap_alloc2_old w _ _
  have hb2 : Blk ((w.alloc (.cells (Ws a) 58)).alloc (.cells (Ws [0, 0, 0, 0, 0]) 58)) (w.heap.size + 1) (Ws [0, 0, 0, 0, 0]) 58 := heap_alloc2_new w _ _
  have hbel : Below w.heap.size w ((w.alloc (.cells (Ws a) 58)).alloc (.cells (Ws [0, 0, 0, 0, 0]) 58)) := ((Below.refl _ _).alloc (Nat.le_refl _) _).alloc (by simp) _
  obtain ⟨R0, hR0⟩ : ∃ R0, R0 = Ff.squares a n := ⟨_, rfl⟩
  have HE0 : Hid (R0 = Ff.squares a n) := hR0
  rw [← hR0]
  clear hR0
  go_enter Tryd.func76, Tryd.ntmps76
  go_wp2_with fail
  rw [FZ5]
  generalize (w.alloc (.cells (Ws a) 58)).alloc (.cells (Ws [0, 0, 0, 0, 0]) 58) = w1 at hb1 hb2 hbel ⊢
  go_loopw [6] (fun i wr => ∃ (k : Nat) (L : List (BitVec 64)), k ≤ n ∧ Hid (L = Ff.squares a k) ∧ i = .int .i64 k ∧ Blk wr w.heap.size (Ws L) 58 ∧ Blk wr (w.heap.size + 1) (Ws [0, 0, 0, 0, 0]) 58 ∧ Below w.heap.size w wr) (fun i _ => n - (intOf i).toNat)
  case atStart => exact ⟨0, a, by omega, (show a = Ff.squares a 0 from rfl), rfl, hb1, hb2, hbel⟩
  case round =>
    clear hb1 hb2 hbel w1
    obtain ⟨k, S, hk, HL, rfl, hb1, hb2, hbel⟩ := hrel
    have hlS : S.length = 5 := by rw [show S = Ff.squares a k from HL.out]; exact Ff.squares_length _ ha _
    by_cases hlt : k < n
    · have i1 : (k : Int) < n := by omega
      have HE : Hid (Ff.times S S = Ff.squares a (k + 1)) := by
        have : Ff.times S S = Ff.squares a (k + 1) := by rw [show S = Ff.squares a k from HL.out]; rfl
        exact this
      clear HL
      have H1 : Hid (∀ wx : World, Calls Tryd.prog 65 #[.agg (Ws S)] wx fun e w' => e = .returned (.agg (Ws (Ff.times S S))) ∧ Below wx.heap.size wx w') := fun wx => F_square S wx hlS
      have hlR : (Ff.times S S).length = 5 := Ff.times_length _ _
      generalize Ff.times S S = R at H1 hlR HE
      have sS : (Ws S).size = 5 := by rw [Ws_size, hlS]
      have sR : (Ws R).size = 5 := by rw [Ws_size, hlR]
      have g1 := hb1
      unfold Blk at g1
      go_wp2_with (first
        | (refine wpList_load_row rfl 58 _ rfl w.heap.size rfl 58 _ (0, 0) _ g1 Tryd.underlying58 rfl (by rw [sS]; exact Tryd.infoF5) ?_))
      clear g1
      refine (H1.out _).mono ?_
      rintro e w2 ⟨rfl, k2⟩
      replace hb1 := hb1.keep k2
      replace hb2 := hb2.keep k2
      replace hbel := hbel.trans (k2.mono hbel.size)
      have hst := storeRow (l := R) hb1 (by rw [hlR, sS])
      go_wp2
      go_roundw
      case rel =>
        exact ⟨k + 1, R, by omega, HE, by go_num, hb1.row _, hb2.other (by omega) _, below_setRow hbel (by omega) _⟩
      case measure => simp [intOf]; omega
    · have hk8 : k = n := by omega
      subst hk8
      have i1 : ¬ (k : Int) < k := by omega
      have g1 := hb1; have g2 := hb2
      unfold Blk at g1 g2
      have hl : (Ws S).size = 5 := by rw [Ws_size, hlS]
      have e0 : (Ws [0, 0, 0, 0, 0]).size = 5 := by rw [Ws_size]; rfl
      go_wp2_with (first
        | (refine wpList_load_row rfl 58 _ rfl w.heap.size rfl 58 _ (0, 0) _ g1 Tryd.underlying58 rfl (by rw [hl]; exact Tryd.infoF5) ?_)
        | (refine wpList_store_row rfl 58 _ _ rfl (w.heap.size + 1) _ rfl rfl 58 _ g2 (by rw [hl]; exact Tryd.infoF5) (by rw [hl, e0]) (Ws_one _) ?_))
      refine bodyPost_ret (v := .agg (Ws S)) ?_ rfl ⟨?_, below_setRow hbel (by omega) _⟩
      · exact results_cell_row rfl _ _ (w.heap.size + 1) 58 _ (0, 0) _ rfl (hb2.row _) Tryd.underlying58 rfl (by rw [hl]; exact Tryd.infoF5)
      · rw [show R0 = _ from HE0.out, ← show S = _ from HL.out]

end Go.Proofs.YtclpbaokadfhhaaDoor
