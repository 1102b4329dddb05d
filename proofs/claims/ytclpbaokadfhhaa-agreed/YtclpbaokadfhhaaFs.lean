/- Contract of field's Swap. -/
import Derived.Test.YtclpbaokadfhhaaFp
import Derived.Deep.RegionWith
namespace Go.Proofs.Ytclpbaokadfhhaa
open Go.RowKit

theorem F_neg (x : BitVec 64) : IntKind.u64.wrap (-U x) = U (-x) := by
  rw [IntKind.wrap_u64]; unfold U; rw [BitVec.toNat_neg]; have := x.isLt; omega

set_option maxRecDepth 100000 in
set_option maxHeartbeats 2000000 in
theorem F_swap (bit : BitVec 64) (a b : List (BitVec 64)) (w : World) (ha : a.length = 5) (hb : b.length = 5) :
    Calls Try.prog 49 #[.int .u64 (U bit), .agg (Ws a), .agg (Ws b)] w fun e w' => e = .returned (.tuple #[.agg (Ws (Ff.swap bit a b).1), .agg (Ws (Ff.swap bit a b).2)]) ∧ Below w.heap.size w w' := by
  have sa : (Ws a).size = 5 := by rw [Ws_size, ha]
  have sb : (Ws b).size = 5 := by rw [Ws_size, hb]
  have hb1 := Blk.alloc (Blk.alloc (Blk.alloc (Blk.new w (Ws a) 47) (.cells (Ws b) 47)) (.cells (Ws [0, 0, 0, 0, 0]) 47)) (.cells (Ws [0, 0, 0, 0, 0]) 47)
  have hb2 := Blk.alloc (Blk.alloc (Blk.new (w.alloc (.cells (Ws a) 47)) (Ws b) 47) (.cells (Ws [0, 0, 0, 0, 0]) 47)) (.cells (Ws [0, 0, 0, 0, 0]) 47)
  have hb3 := Blk.alloc (Blk.new ((w.alloc (.cells (Ws a) 47)).alloc (.cells (Ws b) 47)) (Ws [0, 0, 0, 0, 0]) 47) (.cells (Ws [0, 0, 0, 0, 0]) 47)
  have hb4 := Blk.new (((w.alloc (.cells (Ws a) 47)).alloc (.cells (Ws b) 47)).alloc (.cells (Ws [0, 0, 0, 0, 0]) 47)) (Ws [0, 0, 0, 0, 0]) 47
  have hbel : Below w.heap.size w ((((w.alloc (.cells (Ws a) 47)).alloc (.cells (Ws b) 47)).alloc (.cells (Ws [0, 0, 0, 0, 0]) 47)).alloc (.cells (Ws [0, 0, 0, 0, 0]) 47)) :=
    ((((Below.refl _ _).alloc (Nat.le_refl _) _).alloc (by simp) _).alloc (by simp; omega) _).alloc (by simp; omega) _
  rw [show (w.alloc (.cells (Ws a) 47)).heap.size = w.heap.size + 1 by simp] at hb2
  rw [show ((w.alloc (.cells (Ws a) 47)).alloc (.cells (Ws b) 47)).heap.size = w.heap.size + 1 + 1 by simp] at hb3
  rw [show (((w.alloc (.cells (Ws a) 47)).alloc (.cells (Ws b) 47)).alloc (.cells (Ws [0, 0, 0, 0, 0]) 47)).heap.size = w.heap.size + 1 + 1 + 1 by simp] at hb4
  have a0 := F_neg bit
  have HE : Hid (Ff.swap bit a b = Ff.swapTo (-bit) a b 5) := by
    have : Ff.swap bit a b = Ff.swapTo (-bit) a b 5 := rfl
    exact this
  generalize -bit = m at a0 HE
  generalize Ff.swap bit a b = R at HE ⊢
  go_enter Try.func49, Try.ntmps49
  go_wp2_with fail
  rw [FZ5]
  generalize (((w.alloc (.cells (Ws a) 47)).alloc (.cells (Ws b) 47)).alloc (.cells (Ws [0, 0, 0, 0, 0]) 47)).alloc (.cells (Ws [0, 0, 0, 0, 0]) 47) = w1 at hb1 hb2 hb3 hb4 hbel ⊢
  go_loopw [13] (fun i wr => ∃ k : Nat, k ≤ 5 ∧ i = .int .i64 k ∧ Blk wr w.heap.size (Ws (Ff.swapTo m a b k).1) 47 ∧ Blk wr (w.heap.size + 1) (Ws (Ff.swapTo m a b k).2) 47 ∧ Blk wr (w.heap.size + 1 + 1) (Ws [0, 0, 0, 0, 0]) 47 ∧ Blk wr (w.heap.size + 1 + 1 + 1) (Ws [0, 0, 0, 0, 0]) 47 ∧ Below w.heap.size w wr) (fun i _ => 5 - (intOf i).toNat)
  case atStart => exact ⟨0, by omega, rfl, hb1, hb2, hb3, hb4, hbel⟩
  case round =>
    clear hb1 hb2 hb3 hb4 hbel w1
    obtain ⟨k, hk, rfl, hb1, hb2, hb3, hb4, hbel⟩ := hrel
    have hl1 : (Ff.swapTo m a b k).1.length = 5 := by rw [(Ff.swapTo_length m a b k).1, ha]
    have hl2 : (Ff.swapTo m a b k).2.length = 5 := by rw [(Ff.swapTo_length m a b k).2, hb]
    by_cases hlt : k < 5
    · have HS : Hid (Ff.swapTo m a b (k + 1) = ((Ff.swapTo m a b k).1.set k ((Ff.swapTo m a b k).1.getD k 0 ^^^ (m &&& ((Ff.swapTo m a b k).1.getD k 0 ^^^ (Ff.swapTo m a b k).2.getD k 0))), (Ff.swapTo m a b k).2.set k ((Ff.swapTo m a b k).2.getD k 0 ^^^ (m &&& ((Ff.swapTo m a b k).1.getD k 0 ^^^ (Ff.swapTo m a b k).2.getD k 0))))) := by
        have : Ff.swapTo m a b (k + 1) = ((Ff.swapTo m a b k).1.set k ((Ff.swapTo m a b k).1.getD k 0 ^^^ (m &&& ((Ff.swapTo m a b k).1.getD k 0 ^^^ (Ff.swapTo m a b k).2.getD k 0))), (Ff.swapTo m a b k).2.set k ((Ff.swapTo m a b k).2.getD k 0 ^^^ (m &&& ((Ff.swapTo m a b k).1.getD k 0 ^^^ (Ff.swapTo m a b k).2.getD k 0)))) := rfl
        exact this
      generalize (Ff.swapTo m a b k).1 = L at hb1 HS hl1
      generalize (Ff.swapTo m a b k).2 = M at hb2 HS hl2
      have c1 := hb1.cell k
      rw [Ws_at _ _ (by omega)] at c1
      have c2 := hb2.cell k
      rw [Ws_at _ _ (by omega)] at c2
      have f1 := hb1.frozen k
      have f2 := hb2.frozen k
      generalize L.getD k 0 = x at c1 HS
      generalize M.getD k 0 = y at c2 HS
      have i1 : (k : Int) < 5 := by omega
      have a1 := U_xor x y
      generalize x ^^^ y = d at a1 HS
      have a2 := U_and m d
      generalize m &&& d = c at a2 HS
      have a3 := U_xor x c
      have a4 := U_xor y c
      generalize x ^^^ c = x' at a3 HS
      generalize y ^^^ c = y' at a4 HS
      go_wp2_with fail
      go_quiet (fail)
      go_wp2
      go_roundw
      case rel =>
        rw [(hb1.drewN _).set, Ws_set, ((hb2.drewN _).other (by omega) _).set, Ws_set]
        refine ⟨k + 1, by omega, by go_num, ?_, ?_, ?_, ?_, ?_⟩
        · rw [show Ff.swapTo m a b (k + 1) = _ from HS.out]; exact ((hb1.drewN _).row _).other (by omega) _
        · rw [show Ff.swapTo m a b (k + 1) = _ from HS.out]; exact ((hb2.drewN _).other (by omega) _).row _
        · exact ((hb3.drewN _).other (by omega) _).other (by omega) _
        · exact ((hb4.drewN _).other (by omega) _).other (by omega) _
        · exact below_setRow (below_setRow (below_drewN hbel _) (by omega) _) (by omega) _
      case measure => simp [intOf]; omega
    · have hk8 : k = 5 := by omega
      subst hk8
      generalize Ff.swapTo m a b 5 = C at hb1 hb2 HE hl1 hl2 ⊢
      obtain ⟨L, M⟩ := C
      have hl1' : L.length = 5 := hl1
      have hl2' : M.length = 5 := hl2
      clear hl1 hl2
      have hb1 : Blk wr w.heap.size (Ws L) 47 := hb1
      have hb2 : Blk wr (w.heap.size + 1) (Ws M) 47 := hb2
      obtain ⟨x0, x1, x2, x3, x4, rfl⟩ := Ff.five L hl1'
      obtain ⟨y0, y1, y2, y3, y4, rfl⟩ := Ff.five M hl2'
      obtain ⟨c0, c1, c2, c3, c4⟩ := Fcells hb1
      obtain ⟨d0, d1, d2, d3, d4⟩ := Fcells hb2
      obtain ⟨e0, e1, e2, e3, e4⟩ := Fcells hb3
      obtain ⟨g0, g1, g2, g3, g4⟩ := Fcells hb4
      have k0 := hb3.frozen 0; have k1 := hb3.frozen 1; have k2 := hb3.frozen 2; have k3 := hb3.frozen 3; have k4 := hb3.frozen 4
      have m0 := hb4.frozen 0; have m1 := hb4.frozen 1; have m2 := hb4.frozen 2; have m3 := hb4.frozen 3; have m4 := hb4.frozen 4
      go_wp2_with fail
      go_region
      go_wp2
      have r0 : Blk (wr.setRow (w.heap.size + 1 + 1) (Ws [x0, x1, x2, x3, x4])) (w.heap.size + 1 + 1 + 1) (Ws [0, 0, 0, 0, 0]) 47 := hb4.other (by omega) _
      have r1 : Blk (((wr.setRow (w.heap.size + 1 + 1) (Ws [x0, x1, x2, x3, x4])).setRow (w.heap.size + 1 + 1 + 1) (Ws [y0, y1, y2, y3, y4])).drew) (w.heap.size + 1 + 1) (Ws [x0, x1, x2, x3, x4]) 47 := (hb3.row _).other (by omega) _
      have r2 : Blk (((wr.setRow (w.heap.size + 1 + 1) (Ws [x0, x1, x2, x3, x4])).setRow (w.heap.size + 1 + 1 + 1) (Ws [y0, y1, y2, y3, y4])).drew) (w.heap.size + 1 + 1 + 1) (Ws [y0, y1, y2, y3, y4]) 47 := r0.row _
      rw [Fset5 hb3, Fset5 r0]
      refine bodyPost_ret (v := .tuple #[.agg (Ws [x0, x1, x2, x3, x4]), .agg (Ws [y0, y1, y2, y3, y4])]) ?_ rfl ⟨by rw [show R = _ from HE.out], (below_setRow (below_setRow hbel (by omega) _) (by omega) _).drew⟩
      exact results_cell_cell rfl _ _ (w.heap.size + 1 + 1) (w.heap.size + 1 + 1 + 1) 47 _ _ _ rfl rfl r1 r2 Try.underlying47 rfl Try.infoF5 Try.infoF5

end Go.Proofs.Ytclpbaokadfhhaa
