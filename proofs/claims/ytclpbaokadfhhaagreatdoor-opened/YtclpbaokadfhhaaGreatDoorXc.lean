/- Several texts as one: Fw, Fn. -/
import Derived.Test.YtclpbaokadfhhaaGreatDoorXb
import Derived.Laws.MathBits
namespace Go.Proofs.YtclpbaokadfhhaaGreatDoor
open Go.RowKit

set_option maxRecDepth 100000 in
set_option maxHeartbeats 1000000 in
theorem mul64_any (x y : Int) (hx0 : 0 ≤ x) (hx : x < 18446744073709551616) (hy0 : 0 ≤ y) (hy : y < 18446744073709551616) (w : World) :
    Calls Tryz.prog 204 #[.int .u64 x, .int .u64 y] w fun e w' => e = .returned (.tuple #[.int .u64 (x * y / 18446744073709551616), .int .u64 (IntKind.u64.wrap (x * y))]) ∧ w' = w := by
  rw [← mul64_arith x y hx0 hx hy0 hy]
  have a1 := and_low32 x hx0 hx
  have a2 := and_low32 y hy0 hy
  have a3 := and_low32 (IntKind.u64.wrap (IntKind.u64.wrap (x / 4294967296 * (y % 4294967296)) + IntKind.u64.wrap (x % 4294967296 * (y % 4294967296)) / 4294967296)) (by rw [IntKind.wrap_u64]; omega) (by rw [IntKind.wrap_u64]; omega)
  go_enter Tryz.func204, Tryz.ntmps204
  go_wp2
  go_ret2
  exact ⟨by simp only [IntKind.wrap_u64]; rfl, rfl⟩

theorem Tryz.infoW2 : (Tryz.prog.info? 162).map (·.size) = some 2 := by kernel_rfl

namespace Ff
theorem hi_def (n : Nat) (h : n < 340282366920938463463374607431768211456) : (hi n).toNat = n / 18446744073709551616 := by
  unfold hi; rw [BitVec.toNat_ofNat, Nat.mod_eq_of_lt (by omega)]
theorem lo_def (n : Nat) : (lo n).toNat = n % 18446744073709551616 := by unfold lo; rw [BitVec.toNat_ofNat]
theorem wplus_lt (n : Nat) (a b : W) : wplus n a b < 340282366920938463463374607431768211456 := Nat.mod_lt _ (by omega)
end Ff

theorem F_add64 (x y c : BitVec 64) (h : c.toNat ≤ 1) (w : World) :
    (callFunc 182 #[.int .u64 (U x), .int .u64 (U y), .int .u64 (U c)]).run Tryz.prog w = .ok (.value (.tuple #[.int .u64 (U (x + y + c)), .int .u64 (U (BitVec.ofNat 64 ((x.toNat + y.toNat + c.toNat) / 18446744073709551616)))])) w := by
  rw [run_callFunc_extern Tryz.func182 (by kernel_rfl) (by kernel_rfl) (by kernel_rfl) (e := add64Entry) (by kernel_rfl), run_add64 (U x) (U y) (U c) (U_lo _) (U_lo _) (U_lo _) (by unfold U; omega)]
  have hx := x.isLt; have hy := y.isLt
  simp only [Result.andThen]
  have e1 : (U x + U y + U c) % 18446744073709551616 = U (x + y + c) := by
    unfold U; rw [BitVec.toNat_add, BitVec.toNat_add]; omega
  have e2 : (U x + U y + U c) / 18446744073709551616 = U (BitVec.ofNat 64 ((x.toNat + y.toNat + c.toNat) / 18446744073709551616)) := by
    rw [← U_of _ (by omega)]; unfold U; omega
  rw [e1, e2]

set_option maxRecDepth 100000 in
set_option maxHeartbeats 1000000 in
theorem F_wplus (n : Nat) (a b : BitVec 64) (w : World) :
    Calls Tryz.prog 164 #[.agg #[.int .u64 (U (Ff.hi n)), .int .u64 (U (Ff.lo n))], .int .u64 (U a), .int .u64 (U b)] w fun e w' => e = .returned (.agg #[.int .u64 (U (Ff.hi (Ff.wplus n a b))), .int .u64 (U (Ff.lo (Ff.wplus n a b)))]) ∧ Below w.heap.size w w' := by
  have ha := a.isLt; have hb := b.isLt
  have hml : a.toNat * b.toNat ≤ 18446744073709551615 * 18446744073709551615 := Nat.mul_le_mul (by omega) (by omega)
  have HM : Hid (∀ wx : World, Calls Tryz.prog 204 #[.int .u64 (U a), .int .u64 (U b)] wx fun e w' => e = .returned (.tuple #[.int .u64 (U (Ff.hi (a.toNat * b.toNat))), .int .u64 (U (Ff.lo (a.toNat * b.toNat)))]) ∧ w' = wx) := fun wx => by
    have := mul64_any (U a) (U b) (U_lo _) (U_hi _) (U_lo _) (U_hi _) wx
    have e0 : U a * U b = ((a.toNat * b.toNat : Nat) : Int) := by unfold U; simp
    rw [e0, IntKind.wrap_u64, show ((a.toNat * b.toNat : Nat) : Int) / 18446744073709551616 = U (Ff.hi (a.toNat * b.toNat)) by unfold U; rw [Ff.hi_def _ (by omega)]; omega,
      show ((a.toNat * b.toNat : Nat) : Int) % 18446744073709551616 = U (Ff.lo (a.toNat * b.toNat)) by unfold U; rw [Ff.lo_def]; omega] at this
    exact this
  have hA := F_add64 (Ff.lo n) (Ff.lo (a.toNat * b.toNat)) 0 (by decide)
  have o1 : ((Ff.lo n).toNat + (Ff.lo (a.toNat * b.toNat)).toNat + (0 : BitVec 64).toNat) / 18446744073709551616 ≤ 1 := by
    have := (Ff.lo n).isLt; have := (Ff.lo (a.toNat * b.toNat)).isLt; simp; omega
  have hB := F_add64 (Ff.hi n) (Ff.hi (a.toNat * b.toNat)) (BitVec.ofNat 64 (((Ff.lo n).toNat + (Ff.lo (a.toNat * b.toNat)).toNat + (0 : BitVec 64).toNat) / 18446744073709551616)) (by rw [BitVec.toNat_ofNat]; omega)
  have ER : Hid (Ff.lo (Ff.wplus n a b) = Ff.lo n + Ff.lo (a.toNat * b.toNat) + 0 ∧ Ff.hi (Ff.wplus n a b) = Ff.hi n + Ff.hi (a.toNat * b.toNat) + BitVec.ofNat 64 (((Ff.lo n).toNat + (Ff.lo (a.toNat * b.toNat)).toNat + (0 : BitVec 64).toNat) / 18446744073709551616)) := by
    have hw : Ff.wplus n a b = (n + a.toNat * b.toNat) % 340282366920938463463374607431768211456 := rfl
    have h2 : (Ff.hi n).toNat = n / 18446744073709551616 % 18446744073709551616 := by unfold Ff.hi; rw [BitVec.toNat_ofNat]
    have : Ff.lo (Ff.wplus n a b) = Ff.lo n + Ff.lo (a.toNat * b.toNat) + 0 ∧ Ff.hi (Ff.wplus n a b) = Ff.hi n + Ff.hi (a.toNat * b.toNat) + BitVec.ofNat 64 (((Ff.lo n).toNat + (Ff.lo (a.toNat * b.toNat)).toNat + (0 : BitVec 64).toNat) / 18446744073709551616) := by
      constructor
      · apply BitVec.eq_of_toNat_eq
        rw [BitVec.toNat_add, BitVec.toNat_add, Ff.lo_def, Ff.lo_def, Ff.lo_def, hw]
        rw [show (0 : BitVec 64).toNat = 0 from rfl]
        omega
      · apply BitVec.eq_of_toNat_eq
        rw [Ff.hi_def _ (Ff.wplus_lt _ _ _), BitVec.toNat_add, BitVec.toNat_add, h2, Ff.hi_def _ (by omega), BitVec.toNat_ofNat, Ff.lo_def, Ff.lo_def, hw]
        rw [show (0 : BitVec 64).toNat = 0 from rfl]
        omega
    exact this
  generalize BitVec.ofNat 64 (((Ff.lo n).toNat + (Ff.lo (a.toNat * b.toNat)).toNat + (0 : BitVec 64).toNat) / 18446744073709551616) = ov at hA hB ER
  generalize Ff.lo (Ff.wplus n a b) = RL at ER ⊢
  generalize Ff.hi (Ff.wplus n a b) = RH at ER ⊢
  generalize Ff.lo n = nl at hA ER o1 ⊢
  generalize Ff.hi n = nh at hB ER ⊢
  clear o1 hml
  generalize Ff.lo (a.toNat * b.toNat) = ml at HM hA ER
  generalize Ff.hi (a.toNat * b.toNat) = mh at HM hB ER
  rw [show U 0 = 0 from rfl] at hA
  generalize nl + ml + 0 = sl at hA ER
  generalize nh + mh + ov = sh at hB ER
  have hbel : Below w.heap.size w ((w.alloc (.cells #[.int .u64 (U nh), .int .u64 (U nl)] 162)).alloc (.cells #[.int .u64 0, .int .u64 0] 162)) := ((Below.refl _ _).alloc (Nat.le_refl _) _).alloc (by simp) _
  go_enter Tryz.func164, Tryz.ntmps164
  go_wp2_with fail
  refine (HM.out _).mono ?_
  rintro e w' ⟨rfl, rfl⟩
  go_wp2
  refine bodyPost_ret (v := .agg #[.int .u64 (U sh), .int .u64 (U sl)]) ?_ rfl ⟨by rw [ER.out.1, ER.out.2], ((Below.refl _ _).alloc (Nat.le_refl _) _).alloc (by simp) _⟩
  exact results_cell_row rfl _ _ (w.heap.size + 1) 162 _ (0, 0) _ rfl (heap_alloc2_new w _ _) Tryz.underlying162 rfl Tryz.infoW2

end Go.Proofs.YtclpbaokadfhhaaGreatDoor

namespace Go.Proofs.YtclpbaokadfhhaaGreatDoor
open Go.RowKit

namespace Ff
theorem flat_hi (l : List Nat) (k : Nat) (h : k < l.length) : (flat l).getD (2 * k) 0 = hi (l.getD k 0) := by
  induction l generalizing k with
  | nil => simp at h
  | cons n l ih =>
    cases k with
    | zero => rfl
    | succ k => simp only [flat, show 2 * (k + 1) = 2 * k + 1 + 1 by omega, List.getD_cons_succ]; exact ih k (by simpa using h)
theorem flat_lo (l : List Nat) (k : Nat) (h : k < l.length) : (flat l).getD (2 * k + 1) 0 = lo (l.getD k 0) := by
  induction l generalizing k with
  | nil => simp at h
  | cons n l ih =>
    cases k with
    | zero => rfl
    | succ k => simp only [flat, show 2 * (k + 1) + 1 = 2 * k + 1 + 1 + 1 by omega, List.getD_cons_succ]; exact ih k (by simpa using h)
theorem flat_set (l : List Nat) (k n : Nat) : ((flat l).set (2 * k) (hi n)).set (2 * k + 1) (lo n) = flat (l.set k n) := by
  induction l generalizing k with
  | nil => rfl
  | cons m l ih =>
    cases k with
    | zero => rfl
    | succ k => simp only [flat, show 2 * (k + 1) = 2 * k + 1 + 1 by omega, List.set_cons_succ, ih k]
theorem five' (l : List Nat) (h : l.length = 5) : ∃ x0 x1 x2 x3 x4, l = [x0, x1, x2, x3, x4] := by
  match l, h with
  | [x0, x1, x2, x3, x4], _ => exact ⟨x0, x1, x2, x3, x4, rfl⟩
end Ff

theorem Tryz.infoW10 : (Tryz.prog.info? 163).map (·.size) = some 10 := by kernel_rfl
theorem F_indexW' (a0 a1 b0 b1 c0 c1 d0 d1 e0 e1 : BitVec 64) (k : Nat) (hk : k < 5) (w : World) :
    (Instr.index 163 (.agg (Ws [a0, a1, b0, b1, c0, c1, d0, d1, e0, e1])) (.int .i64 k)).run Tryz.prog w = .ok (.agg #[.int .u64 (U ([a0, b0, c0, d0, e0].getD k 0)), .int .u64 (U ([a1, b1, c1, d1, e1].getD k 0))]) w := by
  obtain rfl | rfl | rfl | rfl | rfl : k = 0 ∨ k = 1 ∨ k = 2 ∨ k = 3 ∨ k = 4 := by omega
  all_goals kernel_rfl
theorem F_indexW (s : List Nat) (hs : s.length = 5) (k : Nat) (hk : k < 5) (w : World) :
    (Instr.index 163 (.agg (Ws (Ff.flat s))) (.int .i64 k)).run Tryz.prog w = .ok (.agg #[.int .u64 (U (Ff.hi (s.getD k 0))), .int .u64 (U (Ff.lo (s.getD k 0)))]) w := by
  obtain ⟨x0, x1, x2, x3, x4, rfl⟩ := Ff.five' s hs
  have := F_indexW' (Ff.hi x0) (Ff.lo x0) (Ff.hi x1) (Ff.lo x1) (Ff.hi x2) (Ff.lo x2) (Ff.hi x3) (Ff.lo x3) (Ff.hi x4) (Ff.lo x4) k hk w
  rw [show [Ff.hi x0, Ff.hi x1, Ff.hi x2, Ff.hi x3, Ff.hi x4].getD k 0 = Ff.hi ([x0, x1, x2, x3, x4].getD k 0) by
      obtain rfl | rfl | rfl | rfl | rfl : k = 0 ∨ k = 1 ∨ k = 2 ∨ k = 3 ∨ k = 4 := by omega
      all_goals rfl,
    show [Ff.lo x0, Ff.lo x1, Ff.lo x2, Ff.lo x3, Ff.lo x4].getD k 0 = Ff.lo ([x0, x1, x2, x3, x4].getD k 0) by
      obtain rfl | rfl | rfl | rfl | rfl : k = 0 ∨ k = 1 ∨ k = 2 ∨ k = 3 ∨ k = 4 := by omega
      all_goals rfl] at this
  exact this

set_option maxRecDepth 100000 in
set_option maxHeartbeats 2000000 in
theorem F_narrow (s : List Nat) (w : World) (hs : s.length = 5) :
    Calls Tryz.prog 165 #[.agg (Ws (Ff.flat s))] w fun e w' => e = .returned (.agg (Ws (Ff.narrow s))) ∧ Below w.heap.size w w' := by
  have hlF : (Ff.flat s).length = 10 := by rw [Ff.flat_length, hs]
  have sF : (Ws (Ff.flat s)).size = 10 := by rw [Ws_size, hlF]
  have hb1 := Blk.alloc (Blk.alloc (Blk.new w (Ws (Ff.flat s)) 163) (.cells (Ws [0, 0, 0, 0, 0]) 69)) (.cells (Ws [0, 0, 0, 0, 0]) 69)
  have hb2 := Blk.alloc (Blk.new (w.alloc (.cells (Ws (Ff.flat s)) 163)) (Ws [0, 0, 0, 0, 0]) 69) (.cells (Ws [0, 0, 0, 0, 0]) 69)
  have hb3 := Blk.new ((w.alloc (.cells (Ws (Ff.flat s)) 163)).alloc (.cells (Ws [0, 0, 0, 0, 0]) 69)) (Ws [0, 0, 0, 0, 0]) 69
  have hbel : Below w.heap.size w (((w.alloc (.cells (Ws (Ff.flat s)) 163)).alloc (.cells (Ws [0, 0, 0, 0, 0]) 69)).alloc (.cells (Ws [0, 0, 0, 0, 0]) 69)) :=
    (((Below.refl _ _).alloc (Nat.le_refl _) _).alloc (by simp) _).alloc (by simp; omega) _
  rw [show (w.alloc (.cells (Ws (Ff.flat s)) 163)).heap.size = w.heap.size + 1 by simp] at hb2
  rw [show ((w.alloc (.cells (Ws (Ff.flat s)) 163)).alloc (.cells (Ws [0, 0, 0, 0, 0]) 69)).heap.size = w.heap.size + 1 + 1 by simp] at hb3
  have hix := F_indexW s hs
  generalize hF : Ff.flat s = F at hb1 hb2 hb3 hbel hix sF ⊢
  clear hF hlF
  have g1 := hb1
  unfold Blk at g1
  rw [← FZ5] at g1
  go_enter Tryz.func165, Tryz.ntmps165
  go_wp2_with (first
    | (refine wpList_load_row rfl 163 _ rfl w.heap.size rfl 163 _ (0, 0) _ g1 Tryz.underlying163 rfl (by rw [sF]; exact Tryz.infoW10) ?_))
  rw [FZ5]
  clear g1
  generalize ((w.alloc (.cells (Ws F) 163)).alloc (.cells (Ws [0, 0, 0, 0, 0]) 69)).alloc (.cells (Ws [0, 0, 0, 0, 0]) 69) = w1 at hb1 hb2 hb3 hbel ⊢
  go_loopw [4, 10] (fun o i wr => ∃ k : Nat, k ≤ 5 ∧ i = .int .i64 k ∧ o = .int .u64 (U (Ff.narTo s k).2) ∧ Blk wr (w.heap.size + 1 + 1) (Ws (Ff.narTo s k).1) 69 ∧ Blk wr (w.heap.size + 1) (Ws [0, 0, 0, 0, 0]) 69 ∧ Below w.heap.size w wr) (fun _ i _ => 5 - (intOf i).toNat)
  case atStart => exact ⟨0, by omega, rfl, rfl, hb3, hb2, hbel⟩
  case round =>
    clear hb1 hb2 hb3 hbel w1
    obtain ⟨k, hk, rfl, rfl, hb3, hb2, hbel⟩ := hrel
    have hlL : (Ff.narTo s k).1.length = 5 := Ff.narTo_length _ _
    by_cases hlt : k < 5
    · have HS : Hid (Ff.narTo s (k + 1) = ((Ff.narTo s k).1.set k ((Ff.lo (s.getD k 0) + (Ff.narTo s k).2) &&& Ff.M51), ((Ff.hi (s.getD k 0) + BitVec.ofNat 64 (((Ff.lo (s.getD k 0)).toNat + (Ff.narTo s k).2.toNat) / 18446744073709551616)) <<< 13) ||| ((Ff.lo (s.getD k 0) + (Ff.narTo s k).2) >>> 51))) := by
        have : Ff.narTo s (k + 1) = ((Ff.narTo s k).1.set k ((Ff.lo (s.getD k 0) + (Ff.narTo s k).2) &&& Ff.M51), ((Ff.hi (s.getD k 0) + BitVec.ofNat 64 (((Ff.lo (s.getD k 0)).toNat + (Ff.narTo s k).2.toNat) / 18446744073709551616)) <<< 13) ||| ((Ff.lo (s.getD k 0) + (Ff.narTo s k).2) >>> 51)) := rfl
        exact this
      replace hix := hix k hlt
      generalize (Ff.narTo s k).1 = L at hb3 HS hlL
      generalize (Ff.narTo s k).2 = o at HS ⊢
      have hA := F_add64 (Ff.lo (s.getD k 0)) o 0 (by decide)
      rw [show Ff.lo (s.getD k 0) + o + 0 = Ff.lo (s.getD k 0) + o by simp, show (0 : BitVec 64).toNat = 0 from rfl, Nat.add_zero, show U 0 = 0 from rfl] at hA
      generalize BitVec.ofNat 64 (((Ff.lo (s.getD k 0)).toNat + o.toNat) / 18446744073709551616) = mo at hA HS
      generalize Ff.lo (s.getD k 0) = sl at hA HS hix
      generalize Ff.hi (s.getD k 0) = sh at HS hix
      generalize sl + o = t at hA HS
      have f1 := (hb3.alloc (.cells #[.int .u64 (U sh), .int .u64 (U sl)] 162)).frozen k
      have c1 := (hb3.alloc (.cells #[.int .u64 (U sh), .int .u64 (U sl)] 162)).cell k
      rw [Ws_at _ _ (by omega)] at c1
      have i1 : (k : Int) < 5 := by omega
      have a1 := U_add sh mo
      generalize sh + mo = h at a1 HS
      have a2 := F_shl h 8192 13 rfl
      have a3 := F_shr t 2251799813685248 51 rfl
      have a4 := U_or (h <<< 13) (t >>> 51)
      have a5 := F_and51 t
      generalize h <<< 13 = h' at a2 a4 HS
      generalize t >>> 51 = t' at a3 a4 HS
      generalize h' ||| t' = o' at a4 HS
      generalize t &&& Ff.M51 = z at a5 HS
      have hlt2 : w.heap.size + 1 + 1 < wr.heap.size := hb3.lt
      go_wp2
      go_roundw
      case rel =>
        rw [hb3.set, Ws_set]
        refine ⟨k + 1, by omega, by go_num, ?_, ?_, (hb2.other (by omega) _).alloc _, (below_setRow hbel (by omega) _).alloc (by simp; omega) _⟩
        · rw [show Ff.narTo s (k + 1) = _ from HS.out]
        · rw [show Ff.narTo s (k + 1) = _ from HS.out]; exact (hb3.row _).alloc _
      case measure => simp [intOf]; omega
    · have hk8 : k = 5 := by omega
      subst hk8
      rw [show ((5 : Nat) : Int) = 5 from rfl]
      have HE : Hid (Ff.narrow s = Ff.carried ((Ff.narTo s 5).1.set 0 ((Ff.narTo s 5).1.getD 0 0 + 19 * (Ff.narTo s 5).2))) := by
        have : Ff.narrow s = Ff.carried ((Ff.narTo s 5).1.set 0 ((Ff.narTo s 5).1.getD 0 0 + 19 * (Ff.narTo s 5).2)) := rfl
        exact this
      generalize (Ff.narTo s 5).1 = L at hb3 HE hlL
      generalize (Ff.narTo s 5).2 = o at HE ⊢
      have c1 := hb3.cell 0
      rw [Ws_at _ _ (by omega)] at c1
      have f1 := hb3.frozen 0
      have a1 := F_mul19 o
      generalize L.getD 0 0 = x at c1 HE
      generalize 19 * o = p at a1 HE
      have a2 := U_add x p
      generalize x + p = y at a2 HE
      have hb4 : Blk (wr.setCell ⟨w.heap.size + 1 + 1, 0, none⟩ (.int .u64 (U y))) (w.heap.size + 1 + 1) (Ws (L.set 0 y)) 69 := by rw [hb3.set, Ws_set]; exact hb3.row _
      have hb5 : Blk (wr.setCell ⟨w.heap.size + 1 + 1, 0, none⟩ (.int .u64 (U y))) (w.heap.size + 1) (Ws [0, 0, 0, 0, 0]) 69 := by rw [hb3.set]; exact hb2.other (by omega) _
      have hbel5 : Below w.heap.size w (wr.setCell ⟨w.heap.size + 1 + 1, 0, none⟩ (.int .u64 (U y))) := hbel.setCell (show w.heap.size ≤ w.heap.size + 1 + 1 by omega) _
      have hlM : (L.set 0 y).length = 5 := by rw [List.length_set, hlL]
      generalize L.set 0 y = M at hb4 HE hlM
      have hlR : (Ff.carried M).length = 5 := by rw [Ff.carried_length, hlM]
      have H1 : Hid (∀ wx : World, Calls Tryz.prog 185 #[.agg (Ws M)] wx fun e w' => e = .returned (.agg (Ws (Ff.carried M))) ∧ Below wx.heap.size wx w') := fun wx => F_carried _ wx hlM
      generalize Ff.carried M = R at HE H1 hlR
      have g4 := hb4
      unfold Blk at g4
      have sM : (Ws M).size = 5 := by rw [Ws_size, hlM]
      have sR : (Ws R).size = 5 := by rw [Ws_size, hlR]
      go_wp2_with (first
        | (refine wpList_load_row rfl 69 _ rfl (w.heap.size + 1 + 1) rfl 69 _ (0, 0) _ g4 Tryz.underlying69 rfl (by rw [sM]; exact Tryz.infoF5) ?_))
      refine (H1.out _).mono ?_
      rintro e w2 ⟨rfl, k2⟩
      replace hb5 := hb5.keep k2
      replace hbel5 := hbel5.trans (k2.mono hbel5.size)
      have hst := storeRow (l := R) hb5 (by rw [hlR]; rfl)
      go_wp2
      refine bodyPost_ret (v := .agg (Ws R)) ?_ rfl ⟨by rw [show Ff.narrow s = _ from HE.out], below_setRow hbel5 (by omega) _⟩
      exact results_cell_row rfl _ _ (w.heap.size + 1) 69 _ (0, 0) _ rfl (hb5.row _) Tryz.underlying69 rfl (by rw [sR]; exact Tryz.infoF5)

end Go.Proofs.YtclpbaokadfhhaaGreatDoor
