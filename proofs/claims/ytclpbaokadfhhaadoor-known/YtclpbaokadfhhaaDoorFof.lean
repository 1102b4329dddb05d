/- Contract of field's Of. -/
import Derived.Test.YtclpbaokadfhhaaDoorMd
import Derived.Test.YtclpbaokadfhhaaDoorLast
namespace Go.Proofs.YtclpbaokadfhhaaDoor
open Go.RowKit

/-- a byte as a word -/
def bw (x : UInt8) : BitVec 64 := BitVec.ofNat 64 x.toNat
theorem U_bw (x : UInt8) : (x.toNat : Int) = U (bw x) := U_of x.toNat (by have := x.toNat_lt; omega)
namespace Ff
/-- four words, of k bytes -/
def wordsTo (f : Nat → UInt8) : Nat → List W
  | 0 => [0, 0, 0, 0]
  | k + 1 => (wordsTo f k).set (k / 8) ((wordsTo f k).getD (k / 8) 0 ||| (bw (f k) <<< (k % 8 * 8)))
theorem wordsTo_length (f : Nat → UInt8) (k : Nat) : (wordsTo f k).length = 4 := by
  induction k with
  | zero => rfl
  | succ k ih => rw [wordsTo, List.length_set, ih]
def five4 (l : List W) : List W :=
  [l.getD 0 0 &&& M51, ((l.getD 0 0 >>> 51) ||| (l.getD 1 0 <<< 13)) &&& M51, ((l.getD 1 0 >>> 38) ||| (l.getD 2 0 <<< 26)) &&& M51, ((l.getD 2 0 >>> 25) ||| (l.getD 3 0 <<< 39)) &&& M51, (l.getD 3 0 >>> 12) &&& M51]
def of (s : List UInt8) : List W := five4 (wordsTo (fun i => s.getD i 0) 32)
end Ff
theorem Tryd.infoW4 : (Tryd.prog.info? 51).map (·.size) = some 4 := by kernel_rfl
theorem four4 (l : List (BitVec 64)) (h : l.length = 4) : ∃ x0 x1 x2 x3, l = [x0, x1, x2, x3] := by
  match l, h with
  | [x0, x1, x2, x3], _ => exact ⟨x0, x1, x2, x3, rfl⟩
theorem byte_run (s : ByteArray) (i : Nat) (h : i < s.size) (w : World) : (Instr.index 9 (.string s) (.int .i64 (i : Int))).run Tryd.prog w = .ok (.int .u8 ((s.data.toList.getD i 0).toNat : Int)) w := by
  rw [run_index_string (h := Tryd.underlying9), dif_pos ⟨by omega, by omega⟩]
  have e : (s[(i : Int).toNat]'(by omega)) = s.data.toList.getD i 0 := by
    show s.data[i] = _
    rw [List.getD_eq_getElem?_getD, List.getElem?_eq_getElem (by simpa using h)]
    rfl
  rw [e]

set_option maxRecDepth 100000 in
set_option maxHeartbeats 4000000 in
theorem F_of (s : ByteArray) (w : World) (hs : s.size = 32) :
    Calls Tryd.prog 45 #[.string s] w fun e w' => e = .returned (.agg (Ws (Ff.of s.data.toList))) ∧ Below w.heap.size w w' := by
  have hb1 : Blk ((w.alloc (.cells (Ws [0, 0, 0, 0, 0]) 58)).alloc (.cells (Ws [0, 0, 0, 0]) 51)) w.heap.size (Ws [0, 0, 0, 0, 0]) 58 := heap_alloc2_old w _ _
  have hb2 : Blk ((w.alloc (.cells (Ws [0, 0, 0, 0, 0]) 58)).alloc (.cells (Ws [0, 0, 0, 0]) 51)) (w.heap.size + 1) (Ws [0, 0, 0, 0]) 51 := heap_alloc2_new w _ _
  have hbel : Below w.heap.size w ((w.alloc (.cells (Ws [0, 0, 0, 0, 0]) 58)).alloc (.cells (Ws [0, 0, 0, 0]) 51)) := ((Below.refl _ _).alloc (Nat.le_refl _) _).alloc (by simp) _
  have HR : Hid (Ff.of s.data.toList = Ff.five4 (Ff.wordsTo (fun i => s.data.toList.getD i 0) 32)) := by
    have : Ff.of s.data.toList = Ff.five4 (Ff.wordsTo (fun i => s.data.toList.getD i 0) 32) := rfl
    exact this
  generalize Ff.of s.data.toList = R at HR ⊢
  go_enter Tryd.func45, Tryd.ntmps45
  go_wp2_with fail
  go_loopw [5] (fun c wr => ∃ k : Nat, k ≤ 32 ∧ c = .int .i64 (k : Int) ∧ Blk wr w.heap.size (Ws [0, 0, 0, 0, 0]) 58 ∧ Blk wr (w.heap.size + 1) (Ws (Ff.wordsTo (fun i => s.data.toList.getD i 0) k)) 51 ∧ Below w.heap.size w wr) (fun c _ => 32 - (intOf c).toNat)
  case atStart => exact ⟨0, by omega, rfl, hb1, hb2, hbel⟩
  case round =>
    clear hb1 hb2 hbel
    obtain ⟨k, hk, rfl, hb1, hb2, hbel⟩ := hrel
    have hl := Ff.wordsTo_length (fun i => s.data.toList.getD i 0) k
    by_cases hlt : k < 32
    · have HW : Hid (Ff.wordsTo (fun i => s.data.toList.getD i 0) (k + 1) = (Ff.wordsTo (fun i => s.data.toList.getD i 0) k).set (k / 8) ((Ff.wordsTo (fun i => s.data.toList.getD i 0) k).getD (k / 8) 0 ||| (bw (s.data.toList.getD k 0) <<< (k % 8 * 8)))) := by
        have : Ff.wordsTo (fun i => s.data.toList.getD i 0) (k + 1) = (Ff.wordsTo (fun i => s.data.toList.getD i 0) k).set (k / 8) ((Ff.wordsTo (fun i => s.data.toList.getD i 0) k).getD (k / 8) 0 ||| (bw (s.data.toList.getD k 0) <<< (k % 8 * 8))) := by rw [Ff.wordsTo]
        exact this
      generalize Ff.wordsTo (fun i => s.data.toList.getD i 0) k = l at hb2 hl HW
      have hix := byte_run s k (by omega)
      generalize s.data.toList.getD k 0 = x at hix HW
      rw [U_bw] at hix
      have q1 : k / 8 < 4 := by omega
      have cw := hb2.cell (k / 8)
      rw [Ws_at _ _ (by omega)] at cw
      have hlt' : (k : Int) < 32 := by omega
      -- REGION
      have i1 : IntKind.i64.wrap ((k : Int) / 8) = ((k / 8 : Nat) : Int) := by rw [IntKind.wrap_i64]; omega
      have i2 : IntKind.i64.wrap ((k : Int).tmod 8 * 8) = ((k % 8 * 8 : Nat) : Int) := by rw [IntKind.wrap_i64, Int.tmod_eq_emod_of_nonneg (by omega)]; omega
      have uw := U_wrap (bw x)
      have i5 : k % 8 * 8 < 64 := by omega
      have sh : IntKind.u64.wrap (U (bw x) * 2 ^ (k % 8 * 8)) = U (bw x <<< (k % 8 * 8)) := U_shl _ _
      have hor := U_or (l.getD (k / 8) 0) (bw x <<< (k % 8 * 8))
      have fw := hb2.frozen (k / 8)
      generalize hq : k / 8 = q at *
      generalize hsh : k % 8 * 8 = sft at *
      generalize hr : k % 8 = r at *
      generalize hy : l.getD q 0 = y at *
      replace hy : Hid (l.getD q 0 = y) := hy
      have q2 : (q : Int) < 4 := by omega
      have s2 : (sft : Int) < 64 := by omega
      replace hq : Hid (k / 8 = q) := hq
      replace hsh : Hid (r * 8 = sft) := hsh
      replace hr : Hid (k % 8 = r) := hr
      go_wp2_with fail
      have hS0 : wr.drew.cell? ⟨w.heap.size + 1, q, none⟩ = some (.int .u64 (U y)) := cw
      have hz1 : Blk wr.drew w.heap.size (Ws [0, 0, 0, 0, 0]) 58 := hb1
      have hz2 : Blk wr.drew (w.heap.size + 1) (Ws l) 51 := hb2
      have bel1 : Below w.heap.size w wr.drew := hbel.drew
      refine wp_region_last (S := fun wx => wx.cell? ⟨w.heap.size + 1, q, none⟩ = some (.int .u64 (U y))) (l := 14) (by kernel_rfl) ?_
      clear hb1 hb2 hbel cw fw
      generalize World.drew wr = wd at hS0 hz1 hz2 bel1 ⊢
      refine wpAnyL_take (i := 0) (v := ?v0p) rfl (by kernel_rfl) (by kernel_rfl) (by kernel_rfl) (by kernel_rfl) (by kernel_rfl) (fun _ _ _ h => h) (Or.inl ⟨by rfl, ?hy0p⟩) hS0 ?rest0p
      case hy0p => (intro wx hSx; go_simp; try (with_reducible rfl))
      refine wpAnyL_take (i := 1) (v := ?v1p) rfl (by kernel_rfl) (by kernel_rfl) (by kernel_rfl) (by kernel_rfl) (by kernel_rfl) (fun _ _ _ h => h) (Or.inl ⟨by rfl, ?hy1p⟩) hS0 ?rest1p
      case hy1p => (intro wx hSx; go_simp; try (with_reducible rfl))
      refine wpAnyL_take (i := 2) (v := ?v2p) rfl (by kernel_rfl) (by kernel_rfl) (by kernel_rfl) (by kernel_rfl) (by kernel_rfl) (fun _ _ _ h => h) (Or.inl ⟨by rfl, ?hy2p⟩) hS0 ?rest2p
      case hy2p => (intro wx hSx; go_simp; try (with_reducible rfl))
      refine wpAnyL_take (i := 3) (v := ?v3p) rfl (by kernel_rfl) (by kernel_rfl) (by kernel_rfl) (by kernel_rfl) (by kernel_rfl) (fun _ _ _ h => h) (Or.inl ⟨by rfl, ?hy3p⟩) hS0 ?rest3p
      case hy3p => (intro wx hSx; go_simp; try (with_reducible rfl))
      refine wpAnyL_take (i := 4) (v := ?v4p) rfl (by kernel_rfl) (by kernel_rfl) (by kernel_rfl) (by kernel_rfl) (by kernel_rfl) (fun _ _ _ h => h) (Or.inl ⟨by rfl, ?hy4p⟩) hS0 ?rest4p
      case hy4p => (intro wx hSx; go_simp; try (with_reducible rfl))
      refine wpAnyL_take (i := 5) (v := ?v5p) rfl (by kernel_rfl) (by kernel_rfl) (by kernel_rfl) (by kernel_rfl) (by kernel_rfl) (fun _ _ _ h => h) (Or.inl ⟨by rfl, ?hy5p⟩) hS0 ?rest5p
      case hy5p => (intro wx hSx; go_simp; try (with_reducible rfl))
      refine wpAnyL_take (i := 6) (v := ?v6p) rfl (by kernel_rfl) (by kernel_rfl) (by kernel_rfl) (by kernel_rfl) (by kernel_rfl) (fun _ _ _ h => h) (Or.inl ⟨by rfl, ?hy6p⟩) hS0 ?rest6p
      case hy6p => (intro wx hSx; go_simp; try (with_reducible rfl))
      refine wpAnyL_take (i := 7) (v := ?v7p) rfl (by kernel_rfl) (by kernel_rfl) (by kernel_rfl) (by kernel_rfl) (by kernel_rfl) (fun _ _ _ h => h) (Or.inl ⟨by rfl, ?hy7p⟩) hS0 ?rest7p
      case hy7p => (intro wx hSx; go_simp; try (with_reducible rfl))
      refine wpAnyL_take (i := 8) (v := ?v8p) rfl (by kernel_rfl) (by kernel_rfl) (by kernel_rfl) (by kernel_rfl) (by kernel_rfl) (fun _ _ _ h => h) (Or.inl ⟨by rfl, ?hy8p⟩) hS0 ?rest8p
      case hy8p => (intro wx hSx; go_simp; try (with_reducible rfl))
      refine wpAnyL_take (i := 9) (v := ?v9p) rfl (by kernel_rfl) (by kernel_rfl) (by kernel_rfl) (by kernel_rfl) (by kernel_rfl) (fun _ _ _ h => h) (Or.inl ⟨by rfl, ?hy9p⟩) hS0 ?rest9p
      case hy9p => (intro wx hSx; go_simp; try (with_reducible rfl))
      refine wpAnyL_take (i := 10) (v := ?v10p) rfl (by kernel_rfl) (by kernel_rfl) (by kernel_rfl) (by kernel_rfl) (by kernel_rfl) (fun _ _ _ h => h) (Or.inl ⟨by rfl, ?hy10p⟩) hS0 ?rest10p
      case hy10p => (intro wx hSx; go_simp; try (with_reducible rfl))
      refine wpAnyL_take (i := 11) (v := ?v11p) rfl (by kernel_rfl) (by kernel_rfl) (by kernel_rfl) (by kernel_rfl) (by kernel_rfl) (fun _ _ _ h => h) (Or.inl ⟨by rfl, ?hy11p⟩) hS0 ?rest11p
      case hy11p => (intro wx hSx; go_simp; try (with_reducible rfl))
      refine wpAnyL_take (i := 12) (v := ?v12p) rfl (by kernel_rfl) (by kernel_rfl) (by kernel_rfl) (by kernel_rfl) (by kernel_rfl) (fun _ _ _ h => h) (Or.inl ⟨by rfl, ?hy12p⟩) hS0 ?rest12p
      case hy12p => (intro wx hSx; go_simp; try (with_reducible rfl))
      refine wpAnyL_take (i := 13) (v := ?v13p) rfl (by kernel_rfl) (by kernel_rfl) (by kernel_rfl) (by kernel_rfl) (by kernel_rfl) (fun _ _ _ h => h) (Or.inl ⟨by rfl, ?hy13p⟩) hS0 ?rest13p
      case hy13p => (intro wx hSx; go_simp; try (with_reducible rfl))
      refine wpAnyL_last (by kernel_rfl) rfl (by kernel_rfl) (fun K hK => ?_)
      have f0 := hz2.frozen q
      go_simp
      refine hK.out _ _ ?_
      clear hK K
      go_wp2
      go_roundw
      case rel =>
        rw [hz2.set, Ws_set]
        refine ⟨k + 1, by omega, by go_num, hz1.other (by omega) _, ?_, below_setRow bel1 (by omega) _⟩
        rw [HW.out]
        exact hz2.row _
      case measure => simp [intOf]; omega
    · have hk32 : k = 32 := by omega
      subst hk32
      have HR2 := HR.out
      generalize Ff.wordsTo (fun i => s.data.toList.getD i 0) 32 = l at hb2 hl HR2
      obtain ⟨x0, x1, x2, x3, rfl⟩ := four4 l hl
      have HR3 : R = [x0 &&& Ff.M51, ((x0 >>> 51) ||| (x1 <<< 13)) &&& Ff.M51, ((x1 >>> 38) ||| (x2 <<< 26)) &&& Ff.M51, ((x2 >>> 25) ||| (x3 <<< 39)) &&& Ff.M51, (x3 >>> 12) &&& Ff.M51] := HR2
      have c0 : wr.cell? ⟨w.heap.size + 1, 0, none⟩ = some (.int .u64 (U x0)) := hb2.cell 0
      have c1 : wr.cell? ⟨w.heap.size + 1, 1, none⟩ = some (.int .u64 (U x1)) := hb2.cell 1
      have c2 : wr.cell? ⟨w.heap.size + 1, 2, none⟩ = some (.int .u64 (U x2)) := hb2.cell 2
      have c3 : wr.cell? ⟨w.heap.size + 1, 3, none⟩ = some (.int .u64 (U x3)) := hb2.cell 3
      have p0 := F_and51 x0
      have p1 : bits BinOp.and IntKind.u64 (bits BinOp.or IntKind.u64 (U x0 / 2251799813685248) (IntKind.u64.wrap (U x1 * 8192))) 2251799813685247 = U (((x0 >>> 51) ||| (x1 <<< 13)) &&& Ff.M51) := by
        rw [F_shr x0 2251799813685248 51 rfl, F_shl x1 8192 13 rfl, U_or, F_and51]
      have p2 : bits BinOp.and IntKind.u64 (bits BinOp.or IntKind.u64 (U x1 / 274877906944) (IntKind.u64.wrap (U x2 * 67108864))) 2251799813685247 = U (((x1 >>> 38) ||| (x2 <<< 26)) &&& Ff.M51) := by
        rw [F_shr x1 274877906944 38 rfl, F_shl x2 67108864 26 rfl, U_or, F_and51]
      have p3 : bits BinOp.and IntKind.u64 (bits BinOp.or IntKind.u64 (U x2 / 33554432) (IntKind.u64.wrap (U x3 * 549755813888))) 2251799813685247 = U (((x2 >>> 25) ||| (x3 <<< 39)) &&& Ff.M51) := by
        rw [F_shr x2 33554432 25 rfl, F_shl x3 549755813888 39 rfl, U_or, F_and51]
      have p4 : bits BinOp.and IntKind.u64 (U x3 / 4096) 2251799813685247 = U ((x3 >>> 12) &&& Ff.M51) := by
        rw [F_shr x3 4096 12 rfl, F_and51]
      clear HR HR2
      generalize x0 &&& Ff.M51 = y0 at p0 HR3
      generalize ((x0 >>> 51) ||| (x1 <<< 13)) &&& Ff.M51 = y1 at p1 HR3
      generalize ((x1 >>> 38) ||| (x2 <<< 26)) &&& Ff.M51 = y2 at p2 HR3
      generalize ((x2 >>> 25) ||| (x3 <<< 39)) &&& Ff.M51 = y3 at p3 HR3
      generalize (x3 >>> 12) &&& Ff.M51 = y4 at p4 HR3
      replace HR3 : Hid (R = [y0, y1, y2, y3, y4]) := HR3
      obtain ⟨d0, d1, d2, d3, d4⟩ := Fcells hb1
      have f0 := hb1.frozen 0
      have f1 := hb1.frozen 1
      have f2 := hb1.frozen 2
      have f3 := hb1.frozen 3
      have f4 := hb1.frozen 4
      go_wp2
      rw [Fset5 hb1]
      refine bodyPost_ret (v := .agg (Ws [y0, y1, y2, y3, y4])) ?_ rfl ⟨by rw [HR3.out], below_setRow hbel (by omega) _⟩
      exact results_cell_row rfl _ _ w.heap.size 58 _ (0, 0) _ rfl (hb1.row _) Tryd.underlying58 rfl Tryd.infoF5

end Go.Proofs.YtclpbaokadfhhaaDoor
