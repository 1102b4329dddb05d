/- Contracts of field's carried, lowest, Plus. -/
import Derived.Test.YtclpbaokadfhhaaFa
namespace Go.Proofs.Ytclpbaokadfhhaa
open Go.RowKit

theorem Fset3 {w : World} {b t : Nat} {x0 x1 x2 x3 x4 u v z : BitVec 64} (hb : Blk w b (Ws [x0, x1, x2, x3, x4]) t) :
    ((w.setCell ⟨b, 0, none⟩ (.int .u64 (U u))).setCell ⟨b, 1, none⟩ (.int .u64 (U v))).setCell ⟨b, 0, none⟩ (.int .u64 (U z)) = w.setRow b (Ws [z, v, x2, x3, x4]) := by
  rw [hb.set, (hb.row _).set, setRow_setRow, (hb.row _).set, setRow_setRow]
  rfl
theorem Fset5 {w : World} {b t : Nat} {y0 y1 y2 y3 y4 : BitVec 64} (hb : Blk w b (Ws [y0, y1, y2, y3, y4]) t) (x0 x1 x2 x3 x4 : BitVec 64) :
    ((((w.setCell ⟨b, 0, none⟩ (.int .u64 (U x0))).setCell ⟨b, 1, none⟩ (.int .u64 (U x1))).setCell ⟨b, 2, none⟩ (.int .u64 (U x2))).setCell ⟨b, 3, none⟩ (.int .u64 (U x3))).setCell ⟨b, 4, none⟩ (.int .u64 (U x4)) = w.setRow b (Ws [x0, x1, x2, x3, x4]) := by
  rw [hb.set, (hb.row _).set, setRow_setRow, (hb.row _).set, setRow_setRow, (hb.row _).set, setRow_setRow, (hb.row _).set, setRow_setRow]
  rfl

set_option maxRecDepth 100000 in
set_option maxHeartbeats 1000000 in
theorem F_carried (a : List (BitVec 64)) (w : World) (ha : a.length = 5) :
    Calls Try.prog 57 #[.agg (Ws a)] w fun e w' => e = .returned (.agg (Ws (Ff.carried a))) ∧ Below w.heap.size w w' := by
  have sa : (Ws a).size = 5 := by rw [Ws_size, ha]
  have hb1 : Blk ((w.alloc (.cells (Ws a) 47)).alloc (.cells (Ws [0, 0, 0, 0, 0]) 47)) w.heap.size (Ws a) 47 := heap_alloc2_old w _ _
  have hb2 : Blk ((w.alloc (.cells (Ws a) 47)).alloc (.cells (Ws [0, 0, 0, 0, 0]) 47)) (w.heap.size + 1) (Ws [0, 0, 0, 0, 0]) 47 := heap_alloc2_new w _ _
  have hbel : Below w.heap.size w ((w.alloc (.cells (Ws a) 47)).alloc (.cells (Ws [0, 0, 0, 0, 0]) 47)) := ((Below.refl _ _).alloc (Nat.le_refl _) _).alloc (by simp) _
  have HE : Hid (Ff.carried a = Ff.carEnd (Ff.carry a 0).1 (Ff.carry a 0).2) := by
    have : Ff.carried a = Ff.carEnd (Ff.carry a 0).1 (Ff.carry a 0).2 := rfl
    exact this
  have HC : Hid (∀ wx : World, Calls Try.prog 58 #[.agg (Ws a), .int .u64 0] wx fun e w' => e = .returned (.tuple #[.agg (Ws (Ff.carry a 0).1), .int .u64 (U (Ff.carry a 0).2)]) ∧ Below wx.heap.size wx w') := fun wx => F_carry a 0 wx ha
  have hlL : (Ff.carry a 0).1.length = 5 := by rw [Ff.carry, Ff.carTo_length, ha]
  generalize Ff.carried a = R at HE ⊢
  generalize (Ff.carry a 0).1 = L at HE HC hlL
  generalize (Ff.carry a 0).2 = o at HE HC
  obtain ⟨x, y, l2, l3, l4, rfl⟩ := Ff.five L hlL
  have HE2 : Hid (Ff.carEnd [x, y, l2, l3, l4] o = [(x + 19 * o) &&& Ff.M51, y + (x + 19 * o) >>> 51, l2, l3, l4]) := by
    have : Ff.carEnd [x, y, l2, l3, l4] o = [(x + 19 * o) &&& Ff.M51, y + (x + 19 * o) >>> 51, l2, l3, l4] := rfl
    exact this
  have g1 := hb1
  unfold Blk at g1
  rw [← FZ5] at g1
  go_enter Try.func57, Try.ntmps57
  go_wp2_with (first
    | (refine wpList_load_row rfl 47 _ rfl w.heap.size rfl 47 _ (0, 0) _ g1 Try.underlying47 rfl (by rw [sa]; exact Try.infoF5) ?_))
  rw [FZ5]
  clear g1
  generalize (w.alloc (.cells (Ws a) 47)).alloc (.cells (Ws [0, 0, 0, 0, 0]) 47) = w1 at hb1 hb2 hbel ⊢
  refine (HC.out _).mono ?_
  rintro e w2 ⟨rfl, k2⟩
  replace hb1 := hb1.keep k2
  replace hb2 := hb2.keep k2
  replace hbel := hbel.trans (k2.mono hbel.size)
  have hst := storeRow (l := [x, y, l2, l3, l4]) hb1 (by rw [sa]; rfl)
  have hb3 := hb1.row (Ws [x, y, l2, l3, l4])
  have hb4 := hb2.other (b' := w.heap.size) (by omega) (Ws [x, y, l2, l3, l4])
  have hbel3 := below_setRow hbel (Nat.le_refl _) (Ws [x, y, l2, l3, l4])
  have f0 := hb3.frozen 0
  have f1 := hb3.frozen 1
  obtain ⟨c0, c1, c2, c3, c4⟩ := Fcells hb3
  have s5 : (Ws [x, y, l2, l3, l4]).size = 5 := rfl
  clear hb1 hb2 hbel k2
  have k0 := hb4.frozen 0
  have k1 := hb4.frozen 1
  have k2 := hb4.frozen 2
  have k3 := hb4.frozen 3
  have k4 := hb4.frozen 4
  obtain ⟨d0, d1, d2, d3, d4⟩ := Fcells hb4
  have a0 : IntKind.u64.wrap (19 * U o) = U (19 * o) := F_mul19 o
  generalize 19 * o = p at a0 HE2
  have a1 := U_add x p
  have a2 := F_and51 (x + p)
  have a3 := F_shr (x + p) 2251799813685248 51 rfl
  generalize x + p = u at a1 a2 a3 HE2
  generalize u &&& Ff.M51 = z at a2 HE2
  generalize u >>> 51 = q at a3 HE2
  have a4 := U_add y q
  generalize y + q = v at a4 HE2
  have hb5 : Blk ((((w2.setRow w.heap.size (Ws [x, y, l2, l3, l4])).setCell ⟨w.heap.size, 0, none⟩ (.int .u64 (U u))).setCell ⟨w.heap.size, 1, none⟩ (.int .u64 (U v))).setCell ⟨w.heap.size, 0, none⟩ (.int .u64 (U z))) (w.heap.size + 1) (Ws [0, 0, 0, 0, 0]) 47 := by
    rw [Fset3 hb3]; exact hb4.other (by omega) _
  have hbel5 : Below w.heap.size w ((((w2.setRow w.heap.size (Ws [x, y, l2, l3, l4])).setCell ⟨w.heap.size, 0, none⟩ (.int .u64 (U u))).setCell ⟨w.heap.size, 1, none⟩ (.int .u64 (U v))).setCell ⟨w.heap.size, 0, none⟩ (.int .u64 (U z))) := ((hbel3.setCell (Nat.le_refl _) _).setCell (Nat.le_refl _) _).setCell (Nat.le_refl _) _
  go_wp2
  rw [Fset5 hb5]
  refine bodyPost_ret (v := .agg (Ws [z, v, l2, l3, l4])) ?_ rfl ⟨by rw [show R = _ from HE.out, show Ff.carEnd [x, y, l2, l3, l4] o = _ from HE2.out], below_setRow hbel5 (by omega) _⟩
  exact results_cell_row rfl _ _ (w.heap.size + 1) 47 _ (0, 0) _ rfl (hb5.row _) Try.underlying47 rfl Try.infoF5

end Go.Proofs.Ytclpbaokadfhhaa
