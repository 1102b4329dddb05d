/- Contract of field's lowest. -/
import Derived.Test.YtclpbaokadfhhaaFb
namespace Go.Proofs.Ytclpbaokadfhhaa
open Go.RowKit

set_option maxRecDepth 100000 in
set_option maxHeartbeats 1000000 in
theorem F_lowest (a : List (BitVec 64)) (w : World) (ha : a.length = 5) :
    Calls Try.prog 36 #[.agg (Ws a)] w fun e w' => e = .returned (.agg (Ws (Ff.lowest a))) ∧ Below w.heap.size w w' := by
  have sa : (Ws a).size = 5 := by rw [Ws_size, ha]
  have hb1 : Blk ((w.alloc (.cells (Ws a) 47)).alloc (.cells (Ws [0, 0, 0, 0, 0]) 47)) w.heap.size (Ws a) 47 := heap_alloc2_old w _ _
  have hb2 : Blk ((w.alloc (.cells (Ws a) 47)).alloc (.cells (Ws [0, 0, 0, 0, 0]) 47)) (w.heap.size + 1) (Ws [0, 0, 0, 0, 0]) 47 := heap_alloc2_new w _ _
  have hbel : Below w.heap.size w ((w.alloc (.cells (Ws a) 47)).alloc (.cells (Ws [0, 0, 0, 0, 0]) 47)) := ((Below.refl _ _).alloc (Nat.le_refl _) _).alloc (by simp) _
  have HE : Hid (Ff.lowest a = (Ff.carry (Ff.carried a) (19 * (Ff.carry (Ff.carried a) 19).2)).1) := by
    have : Ff.lowest a = (Ff.carry (Ff.carried a) (19 * (Ff.carry (Ff.carried a) 19).2)).1 := rfl
    exact this
  have H1 : Hid (∀ wx : World, Calls Try.prog 57 #[.agg (Ws a)] wx fun e w' => e = .returned (.agg (Ws (Ff.carried a))) ∧ Below wx.heap.size wx w') := fun wx => F_carried a wx ha
  have hlC : (Ff.carried a).length = 5 := by rw [Ff.carried_length, ha]
  generalize Ff.lowest a = R at HE ⊢
  generalize Ff.carried a = C at HE H1 hlC
  have H2 : Hid (∀ wx : World, Calls Try.prog 58 #[.agg (Ws C), .int .u64 19] wx fun e w' => e = .returned (.tuple #[.agg (Ws (Ff.carry C 19).1), .int .u64 (U (Ff.carry C 19).2)]) ∧ Below wx.heap.size wx w') := fun wx => F_carry C 19 wx hlC
  have hlD : (Ff.carry C 19).1.length = 5 := by rw [Ff.carry, Ff.carTo_length, hlC]
  generalize (Ff.carry C 19).1 = D at H2 hlD
  generalize (Ff.carry C 19).2 = o at HE H2
  have a0 := F_mul19 o
  generalize 19 * o = p at HE a0
  have H3 : Hid (∀ wx : World, Calls Try.prog 58 #[.agg (Ws C), .int .u64 (U p)] wx fun e w' => e = .returned (.tuple #[.agg (Ws (Ff.carry C p).1), .int .u64 (U (Ff.carry C p).2)]) ∧ Below wx.heap.size wx w') := fun wx => F_carry C p wx hlC
  have hlE : (Ff.carry C p).1.length = 5 := by rw [Ff.carry, Ff.carTo_length, hlC]
  generalize (Ff.carry C p).1 = E at HE H3 hlE
  generalize (Ff.carry C p).2 = o2 at H3
  have sC : (Ws C).size = 5 := by rw [Ws_size, hlC]
  have sD : (Ws D).size = 5 := by rw [Ws_size, hlD]
  have sE : (Ws E).size = 5 := by rw [Ws_size, hlE]
  have g1 := hb1
  unfold Blk at g1
  rw [← FZ5] at g1
  go_enter Try.func36, Try.ntmps36
  go_wp2_with (first
    | (refine wpList_load_row rfl 47 _ rfl w.heap.size rfl 47 _ (0, 0) _ g1 Try.underlying47 rfl (by rw [sa]; exact Try.infoF5) ?_))
  rw [FZ5]
  clear g1
  generalize (w.alloc (.cells (Ws a) 47)).alloc (.cells (Ws [0, 0, 0, 0, 0]) 47) = w1 at hb1 hb2 hbel ⊢
  refine (H1.out _).mono ?_
  rintro e w2 ⟨rfl, k2⟩
  replace hb1 := hb1.keep k2
  replace hb2 := hb2.keep k2
  replace hbel := hbel.trans (k2.mono hbel.size)
  clear k2
  have hst := storeRow (l := C) hb1 (by rw [sa, hlC])
  have hb3 := hb1.row (Ws C)
  have hb4 := hb2.other (b' := w.heap.size) (by omega) (Ws C)
  have hbel3 := below_setRow hbel (Nat.le_refl _) (Ws C)
  have g3 := hb3
  unfold Blk at g3
  go_wp2_with (first
    | (refine wpList_load_row rfl 47 _ rfl w.heap.size rfl 47 _ (0, 0) _ g3 Try.underlying47 rfl (by rw [sC]; exact Try.infoF5) ?_))
  clear hst g3 hb1 hb2 hbel
  generalize w2.setRow w.heap.size (Ws C) = w3 at hb3 hb4 hbel3 ⊢
  refine (H2.out _).mono ?_
  rintro e w4 ⟨rfl, k4⟩
  replace hb3 := hb3.keep k4
  replace hb4 := hb4.keep k4
  replace hbel3 := hbel3.trans (k4.mono hbel3.size)
  clear k4
  have hsz : w.heap.size + 1 < w4.heap.size := hb4.lt
  have hn : Blk (w4.alloc (.cells #[.int .u64 0, .int .u64 0, .int .u64 0, .int .u64 0, .int .u64 0] 47)) w4.heap.size #[.int .u64 0, .int .u64 0, .int .u64 0, .int .u64 0, .int .u64 0] 47 := Blk.new _ _ _
  have hst := storeRow (l := D) hn (by rw [hlD]; rfl)
  have hb5 := (hb3.alloc (.cells #[.int .u64 0, .int .u64 0, .int .u64 0, .int .u64 0, .int .u64 0] 47)).other (b' := w4.heap.size) (by omega) (Ws D)
  have hb6 := (hb4.alloc (.cells #[.int .u64 0, .int .u64 0, .int .u64 0, .int .u64 0, .int .u64 0] 47)).other (b' := w4.heap.size) (by omega) (Ws D)
  have hbel5 := below_setRow (hbel3.alloc (by omega) (.cells #[.int .u64 0, .int .u64 0, .int .u64 0, .int .u64 0, .int .u64 0] 47)) (g := w4.heap.size) (by omega) (Ws D)
  have g5 := hb5
  unfold Blk at g5
  go_wp2_with (first
    | (refine wpList_load_row rfl 47 _ rfl w.heap.size rfl 47 _ (0, 0) _ g5 Try.underlying47 rfl (by rw [sC]; exact Try.infoF5) ?_))
  clear hst hn g5 hb3 hb4 hbel3
  generalize (w4.alloc (.cells #[.int .u64 0, .int .u64 0, .int .u64 0, .int .u64 0, .int .u64 0] 47)).setRow w4.heap.size (Ws D) = w5 at hb5 hb6 hbel5 ⊢
  refine (H3.out _).mono ?_
  rintro e w6 ⟨rfl, k6⟩
  replace hb5 := hb5.keep k6
  replace hb6 := hb6.keep k6
  replace hbel5 := hbel5.trans (k6.mono hbel5.size)
  clear k6
  have hst := storeRow (l := E) hb5 (by rw [sC, hlE])
  have hb7 := hb5.row (Ws E)
  have hb8 := hb6.other (b' := w.heap.size) (by omega) (Ws E)
  have hbel7 := below_setRow hbel5 (Nat.le_refl _) (Ws E)
  have g7 := hb7; have g8 := hb8
  unfold Blk at g7 g8
  have e0 : (Ws [0, 0, 0, 0, 0]).size = 5 := by rw [Ws_size]; rfl
  go_wp2_with (first
    | (refine wpList_load_row rfl 47 _ rfl w.heap.size rfl 47 _ (0, 0) _ g7 Try.underlying47 rfl (by rw [sE]; exact Try.infoF5) ?_)
    | (refine wpList_store_row rfl 47 _ _ rfl (w.heap.size + 1) _ rfl rfl 47 _ g8 (by rw [sE]; exact Try.infoF5) (by rw [sE, e0]) (Ws_one _) ?_))
  refine bodyPost_ret (v := .agg (Ws E)) ?_ rfl ⟨by rw [show R = _ from HE.out], below_setRow hbel7 (by omega) _⟩
  exact results_cell_row rfl _ _ (w.heap.size + 1) 47 _ (0, 0) _ rfl (hb8.row _) Try.underlying47 rfl (by rw [sE]; exact Try.infoF5)

end Go.Proofs.Ytclpbaokadfhhaa
