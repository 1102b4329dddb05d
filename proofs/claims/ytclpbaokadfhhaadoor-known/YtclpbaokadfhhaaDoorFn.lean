/- Contract of field's narrow. -/
import Derived.Test.YtclpbaokadfhhaaDoorFw
namespace Go.Proofs.YtclpbaokadfhhaaDoor
open Go.RowKit

namespace Ff
theorem flat_hi (l : List Nat) (k : Nat) (h : k < l.length) : (flat l).getD (2 * k) 0 = hi (l.getD k 0) := by
  induction l generalizing k with
  | nil => simp at h
  | cons n l ih =>
    cases k with
    | zero => rfl
    | succ k => simp only [flat, show 2 * (k + 1) = 2 * k + 1 + 1 by omega, List.getD_cons_succ]; exact ih k (by simpa using h)
theorem flat_lo (l : List Nat) (k : Nat) (h : k < l.length) : (flat l).getD (2 * k + 1) 0 = lo (l.getD k 0) := by
  induction l generalizing k with
  | nil => simp at h
  | cons n l ih =>
    cases k with
    | zero => rfl
    | succ k => simp only [flat, show 2 * (k + 1) + 1 = 2 * k + 1 + 1 + 1 by omega, List.getD_cons_succ]; exact ih k (by simpa using h)
theorem flat_set (l : List Nat) (k n : Nat) : ((flat l).set (2 * k) (hi n)).set (2 * k + 1) (lo n) = flat (l.set k n) := by
  induction l generalizing k with
  | nil => rfl
  | cons m l ih =>
    cases k with
    | zero => rfl
    | succ k => simp only [flat, show 2 * (k + 1) = 2 * k + 1 + 1 by omega, List.set_cons_succ, ih k]
theorem five' (l : List Nat) (h : l.length = 5) : ∃ x0 x1 x2 x3 x4, l = [x0, x1, x2, x3, x4] := by
  match l, h with
  | [x0, x1, x2, x3, x4], _ => exact ⟨x0, x1, x2, x3, x4, rfl⟩
end Ff

theorem Tryd.infoW10 : (Tryd.prog.info? 99).map (·.size) = some 10 := by kernel_rfl
theorem F_indexW' (a0 a1 b0 b1 c0 c1 d0 d1 e0 e1 : BitVec 64) (k : Nat) (hk : k < 5) (w : World) :
    (Instr.index 99 (.agg (Ws [a0, a1, b0, b1, c0, c1, d0, d1, e0, e1])) (.int .i64 k)).run Tryd.prog w = .ok (.agg #[.int .u64 (U ([a0, b0, c0, d0, e0].getD k 0)), .int .u64 (U ([a1, b1, c1, d1, e1].getD k 0))]) w := by
  obtain rfl | rfl | rfl | rfl | rfl : k = 0 ∨ k = 1 ∨ k = 2 ∨ k = 3 ∨ k = 4 := by omega
  all_goals kernel_rfl
theorem F_indexW (s : List Nat) (hs : s.length = 5) (k : Nat) (hk : k < 5) (w : World) :
    (Instr.index 99 (.agg (Ws (Ff.flat s))) (.int .i64 k)).run Tryd.prog w = .ok (.agg #[.int .u64 (U (Ff.hi (s.getD k 0))), .int .u64 (U (Ff.lo (s.getD k 0)))]) w := by
  obtain ⟨x0, x1, x2, x3, x4, rfl⟩ := Ff.five' s hs
  have := F_indexW' (Ff.hi x0) (Ff.lo x0) (Ff.hi x1) (Ff.lo x1) (Ff.hi x2) (Ff.lo x2) (Ff.hi x3) (Ff.lo x3) (Ff.hi x4) (Ff.lo x4) k hk w
  rw [show [Ff.hi x0, Ff.hi x1, Ff.hi x2, Ff.hi x3, Ff.hi x4].getD k 0 = Ff.hi ([x0, x1, x2, x3, x4].getD k 0) by
      obtain rfl | rfl | rfl | rfl | rfl : k = 0 ∨ k = 1 ∨ k = 2 ∨ k = 3 ∨ k = 4 := by omega
      all_goals rfl,
    show [Ff.lo x0, Ff.lo x1, Ff.lo x2, Ff.lo x3, Ff.lo x4].getD k 0 = Ff.lo ([x0, x1, x2, x3, x4].getD k 0) by
      obtain rfl | rfl | rfl | rfl | rfl : k = 0 ∨ k = 1 ∨ k = 2 ∨ k = 3 ∨ k = 4 := by omega
      all_goals rfl] at this
  exact this

set_option maxRecDepth 100000 in
set_option maxHeartbeats 2000000 in
theorem F_narrow (s : List Nat) (w : World) (hs : s.length = 5) :
    Calls Tryd.prog 79 #[.agg (Ws (Ff.flat s))] w fun e w' => e = .returned (.agg (Ws (Ff.narrow s))) ∧ Below w.heap.size w w' := by
  have hlF : (Ff.flat s).length = 10 := by rw [Ff.flat_length, hs]
  have sF : (Ws (Ff.flat s)).size = 10 := by rw [Ws_size, hlF]
  have hb1 := Blk.alloc (Blk.alloc (Blk.new w (Ws (Ff.flat s)) 99) (.cells (Ws [0, 0, 0, 0, 0]) 58)) (.cells (Ws [0, 0, 0, 0, 0]) 58)
  have hb2 := Blk.alloc (Blk.new (w.alloc (.cells (Ws (Ff.flat s)) 99)) (Ws [0, 0, 0, 0, 0]) 58) (.cells (Ws [0, 0, 0, 0, 0]) 58)
  have hb3 := Blk.new ((w.alloc (.cells (Ws (Ff.flat s)) 99)).alloc (.cells (Ws [0, 0, 0, 0, 0]) 58)) (Ws [0, 0, 0, 0, 0]) 58
  have hbel : Below w.heap.size w (((w.alloc (.cells (Ws (Ff.flat s)) 99)).alloc (.cells (Ws [0, 0, 0, 0, 0]) 58)).alloc (.cells (Ws [0, 0, 0, 0, 0]) 58)) :=
    (((Below.refl _ _).alloc (Nat.le_refl _) _).alloc (by simp) _).alloc (by simp; omega) _
  rw [show (w.alloc (.cells (Ws (Ff.flat s)) 99)).heap.size = w.heap.size + 1 by simp] at hb2
  rw [show ((w.alloc (.cells (Ws (Ff.flat s)) 99)).alloc (.cells (Ws [0, 0, 0, 0, 0]) 58)).heap.size = w.heap.size + 1 + 1 by simp] at hb3
  have hix := F_indexW s hs
  generalize hF : Ff.flat s = F at hb1 hb2 hb3 hbel hix sF ⊢
  clear hF hlF
  have g1 := hb1
  unfold Blk at g1
  rw [← FZ5] at g1
  go_enter Tryd.func79, Tryd.ntmps79
  go_wp2_with (first
    | (refine wpList_load_row rfl 99 _ rfl w.heap.size rfl 99 _ (0, 0) _ g1 Tryd.underlying99 rfl (by rw [sF]; exact Tryd.infoW10) ?_))
  rw [FZ5]
  clear g1
  generalize ((w.alloc (.cells (Ws F) 99)).alloc (.cells (Ws [0, 0, 0, 0, 0]) 58)).alloc (.cells (Ws [0, 0, 0, 0, 0]) 58) = w1 at hb1 hb2 hb3 hbel ⊢
  go_loopw [4, 10] (fun o i wr => ∃ k : Nat, k ≤ 5 ∧ i = .int .i64 k ∧ o = .int .u64 (U (Ff.narTo s k).2) ∧ Blk wr (w.heap.size + 1 + 1) (Ws (Ff.narTo s k).1) 58 ∧ Blk wr (w.heap.size + 1) (Ws [0, 0, 0, 0, 0]) 58 ∧ Below w.heap.size w wr) (fun _ i _ => 5 - (intOf i).toNat)
  case atStart => exact ⟨0, by omega, rfl, rfl, hb3, hb2, hbel⟩
  case round =>
    clear hb1 hb2 hb3 hbel w1
    obtain ⟨k, hk, rfl, rfl, hb3, hb2, hbel⟩ := hrel
    have hlL : (Ff.narTo s k).1.length = 5 := Ff.narTo_length _ _
    by_cases hlt : k < 5
    · have HS : Hid (Ff.narTo s (k + 1) = ((Ff.narTo s k).1.set k ((Ff.lo (s.getD k 0) + (Ff.narTo s k).2) &&& Ff.M51), ((Ff.hi (s.getD k 0) + BitVec.ofNat 64 (((Ff.lo (s.getD k 0)).toNat + (Ff.narTo s k).2.toNat) / 18446744073709551616)) <<< 13) ||| ((Ff.lo (s.getD k 0) + (Ff.narTo s k).2) >>> 51))) := by
        have : Ff.narTo s (k + 1) = ((Ff.narTo s k).1.set k ((Ff.lo (s.getD k 0) + (Ff.narTo s k).2) &&& Ff.M51), ((Ff.hi (s.getD k 0) + BitVec.ofNat 64 (((Ff.lo (s.getD k 0)).toNat + (Ff.narTo s k).2.toNat) / 18446744073709551616)) <<< 13) ||| ((Ff.lo (s.getD k 0) + (Ff.narTo s k).2) >>> 51)) := rfl
        exact this
      replace hix := hix k hlt
      generalize (Ff.narTo s k).1 = L at hb3 HS hlL
      generalize (Ff.narTo s k).2 = o at HS ⊢
      have hA := F_add64 (Ff.lo (s.getD k 0)) o 0 (by decide)
      rw [show Ff.lo (s.getD k 0) + o + 0 = Ff.lo (s.getD k 0) + o by simp, show (0 : BitVec 64).toNat = 0 from rfl, Nat.add_zero, show U 0 = 0 from rfl] at hA
      generalize BitVec.ofNat 64 (((Ff.lo (s.getD k 0)).toNat + o.toNat) / 18446744073709551616) = mo at hA HS
      generalize Ff.lo (s.getD k 0) = sl at hA HS hix
      generalize Ff.hi (s.getD k 0) = sh at HS hix
      generalize sl + o = t at hA HS
      have f1 := (hb3.alloc (.cells #[.int .u64 (U sh), .int .u64 (U sl)] 98)).frozen k
      have c1 := (hb3.alloc (.cells #[.int .u64 (U sh), .int .u64 (U sl)] 98)).cell k
      rw [Ws_at _ _ (by omega)] at c1
      have i1 : (k : Int) < 5 := by omega
      have a1 := U_add sh mo
      generalize sh + mo = h at a1 HS
      have a2 := F_shl h 8192 13 rfl
      have a3 := F_shr t 2251799813685248 51 rfl
      have a4 := U_or (h <<< 13) (t >>> 51)
      have a5 := F_and51 t
      generalize h <<< 13 = h' at a2 a4 HS
      generalize t >>> 51 = t' at a3 a4 HS
      generalize h' ||| t' = o' at a4 HS
      generalize t &&& Ff.M51 = z at a5 HS
      have hlt2 : w.heap.size + 1 + 1 < wr.heap.size := hb3.lt
      go_wp2
      go_roundw
      case rel =>
        rw [hb3.set, Ws_set]
        refine ⟨k + 1, by omega, by go_num, ?_, ?_, (hb2.other (by omega) _).alloc _, (below_setRow hbel (by omega) _).alloc (by simp; omega) _⟩
        · rw [show Ff.narTo s (k + 1) = _ from HS.out]
        · rw [show Ff.narTo s (k + 1) = _ from HS.out]; exact (hb3.row _).alloc _
      case measure => simp [intOf]; omega
    · have hk8 : k = 5 := by omega
      subst hk8
      rw [show ((5 : Nat) : Int) = 5 from rfl]
      have HE : Hid (Ff.narrow s = Ff.carried ((Ff.narTo s 5).1.set 0 ((Ff.narTo s 5).1.getD 0 0 + 19 * (Ff.narTo s 5).2))) := by
        have : Ff.narrow s = Ff.carried ((Ff.narTo s 5).1.set 0 ((Ff.narTo s 5).1.getD 0 0 + 19 * (Ff.narTo s 5).2)) := rfl
        exact this
      generalize (Ff.narTo s 5).1 = L at hb3 HE hlL
      generalize (Ff.narTo s 5).2 = o at HE ⊢
      have c1 := hb3.cell 0
      rw [Ws_at _ _ (by omega)] at c1
      have f1 := hb3.frozen 0
      have a1 := F_mul19 o
      generalize L.getD 0 0 = x at c1 HE
      generalize 19 * o = p at a1 HE
      have a2 := U_add x p
      generalize x + p = y at a2 HE
      have hb4 : Blk (wr.setCell ⟨w.heap.size + 1 + 1, 0, none⟩ (.int .u64 (U y))) (w.heap.size + 1 + 1) (Ws (L.set 0 y)) 58 := by rw [hb3.set, Ws_set]; exact hb3.row _
      have hb5 : Blk (wr.setCell ⟨w.heap.size + 1 + 1, 0, none⟩ (.int .u64 (U y))) (w.heap.size + 1) (Ws [0, 0, 0, 0, 0]) 58 := by rw [hb3.set]; exact hb2.other (by omega) _
      have hbel5 : Below w.heap.size w (wr.setCell ⟨w.heap.size + 1 + 1, 0, none⟩ (.int .u64 (U y))) := hbel.setCell (show w.heap.size ≤ w.heap.size + 1 + 1 by omega) _
      have hlM : (L.set 0 y).length = 5 := by rw [List.length_set, hlL]
      generalize L.set 0 y = M at hb4 HE hlM
      have hlR : (Ff.carried M).length = 5 := by rw [Ff.carried_length, hlM]
      have H1 : Hid (∀ wx : World, Calls Tryd.prog 82 #[.agg (Ws M)] wx fun e w' => e = .returned (.agg (Ws (Ff.carried M))) ∧ Below wx.heap.size wx w') := fun wx => F_carried _ wx hlM
      generalize Ff.carried M = R at HE H1 hlR
      have g4 := hb4
      unfold Blk at g4
      have sM : (Ws M).size = 5 := by rw [Ws_size, hlM]
      have sR : (Ws R).size = 5 := by rw [Ws_size, hlR]
      go_wp2_with (first
        | (refine wpList_load_row rfl 58 _ rfl (w.heap.size + 1 + 1) rfl 58 _ (0, 0) _ g4 Tryd.underlying58 rfl (by rw [sM]; exact Tryd.infoF5) ?_))
      refine (H1.out _).mono ?_
      rintro e w2 ⟨rfl, k2⟩
      replace hb5 := hb5.keep k2
      replace hbel5 := hbel5.trans (k2.mono hbel5.size)
      have hst := storeRow (l := R) hb5 (by rw [hlR]; rfl)
      go_wp2
      refine bodyPost_ret (v := .agg (Ws R)) ?_ rfl ⟨by rw [show Ff.narrow s = _ from HE.out], below_setRow hbel5 (by omega) _⟩
      exact results_cell_row rfl _ _ (w.heap.size + 1) 58 _ (0, 0) _ rfl (hb5.row _) Tryd.underlying58 rfl (by rw [sR]; exact Tryd.infoF5)

end Go.Proofs.YtclpbaokadfhhaaDoor
