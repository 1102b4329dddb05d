/- Several texts as one: Fof, Fby. -/
import Derived.Test.YtclpbaokadfhhaaGreatDoorXb
import Derived.Test.YtclpbaokadfhhaaGreatDoorZe
namespace Go.Proofs.YtclpbaokadfhhaaGreatDoor
open Go.RowKit

/-- a byte as a word -/
def bw (x : UInt8) : BitVec 64 := BitVec.ofNat 64 x.toNat
theorem U_bw (x : UInt8) : (x.toNat : Int) = U (bw x) := U_of x.toNat (by have := x.toNat_lt; omega)
namespace Ff
/-- four words, of k bytes -/
def wordsTo (f : Nat → UInt8) : Nat → List W
  | 0 => [0, 0, 0, 0]
  | k + 1 => (wordsTo f k).set (k / 8) ((wordsTo f k).getD (k / 8) 0 ||| (bw (f k) <<< (k % 8 * 8)))
theorem wordsTo_length (f : Nat → UInt8) (k : Nat) : (wordsTo f k).length = 4 := by
  induction k with
  | zero => rfl
  | succ k ih => rw [wordsTo, List.length_set, ih]
def five4 (l : List W) : List W :=
  [l.getD 0 0 &&& M51, ((l.getD 0 0 >>> 51) ||| (l.getD 1 0 <<< 13)) &&& M51, ((l.getD 1 0 >>> 38) ||| (l.getD 2 0 <<< 26)) &&& M51, ((l.getD 2 0 >>> 25) ||| (l.getD 3 0 <<< 39)) &&& M51, (l.getD 3 0 >>> 12) &&& M51]
def of (s : List UInt8) : List W := five4 (wordsTo (fun i => s.getD i 0) 32)
end Ff
theorem four4 (l : List (BitVec 64)) (h : l.length = 4) : ∃ x0 x1 x2 x3, l = [x0, x1, x2, x3] := by
  match l, h with
  | [x0, x1, x2, x3], _ => exact ⟨x0, x1, x2, x3, rfl⟩
theorem byte_run (s : ByteArray) (i : Nat) (h : i < s.size) (w : World) : (Instr.index 9 (.string s) (.int .i64 (i : Int))).run Tryz.prog w = .ok (.int .u8 ((s.data.toList.getD i 0).toNat : Int)) w := by
  rw [run_index_string (h := Tryz.underlying9), dif_pos ⟨by omega, by omega⟩]
  have e : (s[(i : Int).toNat]'(by omega)) = s.data.toList.getD i 0 := by
    show s.data[i] = _
    rw [List.getD_eq_getElem?_getD, List.getElem?_eq_getElem (by simpa using h)]
    rfl
  rw [e]

set_option maxRecDepth 100000 in
set_option maxHeartbeats 4000000 in
theorem F_of (s : ByteArray) (w : World) (hs : s.size = 32) :
    Calls Tryz.prog 57 #[.string s] w fun e w' => e = .returned (.agg (Ws (Ff.of s.data.toList))) ∧ Below w.heap.size w w' := by
  have hb1 : Blk ((w.alloc (.cells (Ws [0, 0, 0, 0, 0]) 69)).alloc (.cells (Ws [0, 0, 0, 0]) 70)) w.heap.size (Ws [0, 0, 0, 0, 0]) 69 := heap_alloc2_old w _ _
  have hb2 : Blk ((w.alloc (.cells (Ws [0, 0, 0, 0, 0]) 69)).alloc (.cells (Ws [0, 0, 0, 0]) 70)) (w.heap.size + 1) (Ws [0, 0, 0, 0]) 70 := heap_alloc2_new w _ _
  have hbel : Below w.heap.size w ((w.alloc (.cells (Ws [0, 0, 0, 0, 0]) 69)).alloc (.cells (Ws [0, 0, 0, 0]) 70)) := ((Below.refl _ _).alloc (Nat.le_refl _) _).alloc (by simp) _
  have HR : Hid (Ff.of s.data.toList = Ff.five4 (Ff.wordsTo (fun i => s.data.toList.getD i 0) 32)) := by
    have : Ff.of s.data.toList = Ff.five4 (Ff.wordsTo (fun i => s.data.toList.getD i 0) 32) := rfl
    exact this
  generalize Ff.of s.data.toList = R at HR ⊢
  go_enter Tryz.func57, Tryz.ntmps57
  go_wp2_with fail
  go_loopw [5] (fun c wr => ∃ k : Nat, k ≤ 32 ∧ c = .int .i64 (k : Int) ∧ Blk wr w.heap.size (Ws [0, 0, 0, 0, 0]) 69 ∧ Blk wr (w.heap.size + 1) (Ws (Ff.wordsTo (fun i => s.data.toList.getD i 0) k)) 70 ∧ Below w.heap.size w wr) (fun c _ => 32 - (intOf c).toNat)
  case atStart => exact ⟨0, by omega, rfl, hb1, hb2, hbel⟩
  case round =>
    clear hb1 hb2 hbel
    obtain ⟨k, hk, rfl, hb1, hb2, hbel⟩ := hrel
    have hl := Ff.wordsTo_length (fun i => s.data.toList.getD i 0) k
    by_cases hlt : k < 32
    · have HW : Hid (Ff.wordsTo (fun i => s.data.toList.getD i 0) (k + 1) = (Ff.wordsTo (fun i => s.data.toList.getD i 0) k).set (k / 8) ((Ff.wordsTo (fun i => s.data.toList.getD i 0) k).getD (k / 8) 0 ||| (bw (s.data.toList.getD k 0) <<< (k % 8 * 8)))) := by
        have : Ff.wordsTo (fun i => s.data.toList.getD i 0) (k + 1) = (Ff.wordsTo (fun i => s.data.toList.getD i 0) k).set (k / 8) ((Ff.wordsTo (fun i => s.data.toList.getD i 0) k).getD (k / 8) 0 ||| (bw (s.data.toList.getD k 0) <<< (k % 8 * 8))) := by rw [Ff.wordsTo]
        exact this
      generalize Ff.wordsTo (fun i => s.data.toList.getD i 0) k = l at hb2 hl HW
      have hix := byte_run s k (by omega)
      generalize s.data.toList.getD k 0 = x at hix HW
      rw [U_bw] at hix
      have q1 : k / 8 < 4 := by omega
      have cw := hb2.cell (k / 8)
      rw [Ws_at _ _ (by omega)] at cw
      have hlt' : (k : Int) < 32 := by omega
      -- REGION
      have i1 : IntKind.i64.wrap ((k : Int) / 8) = ((k / 8 : Nat) : Int) := by rw [IntKind.wrap_i64]; omega
      have i2 : IntKind.i64.wrap ((k : Int).tmod 8 * 8) = ((k % 8 * 8 : Nat) : Int) := by rw [IntKind.wrap_i64, Int.tmod_eq_emod_of_nonneg (by omega)]; omega
      have uw := U_wrap (bw x)
      have i5 : k % 8 * 8 < 64 := by omega
      have sh : IntKind.u64.wrap (U (bw x) * 2 ^ (k % 8 * 8)) = U (bw x <<< (k % 8 * 8)) := U_shl _ _
      have hor := U_or (l.getD (k / 8) 0) (bw x <<< (k % 8 * 8))
      have fw := hb2.frozen (k / 8)
      generalize hq : k / 8 = q at *
      generalize hsh : k % 8 * 8 = sft at *
      generalize hr : k % 8 = r at *
      generalize hy : l.getD q 0 = y at *
      replace hy : Hid (l.getD q 0 = y) := hy
      have q2 : (q : Int) < 4 := by omega
      have s2 : (sft : Int) < 64 := by omega
      replace hq : Hid (k / 8 = q) := hq
      replace hsh : Hid (r * 8 = sft) := hsh
      replace hr : Hid (k % 8 = r) := hr
      go_wp2_with fail
      have hS0 : wr.drew.cell? ⟨w.heap.size + 1, q, none⟩ = some (.int .u64 (U y)) := cw
      have hz1 : Blk wr.drew w.heap.size (Ws [0, 0, 0, 0, 0]) 69 := hb1
      have hz2 : Blk wr.drew (w.heap.size + 1) (Ws l) 70 := hb2
      have bel1 : Below w.heap.size w wr.drew := hbel.drew
      refine wp_region_last (S := fun wx => wx.cell? ⟨w.heap.size + 1, q, none⟩ = some (.int .u64 (U y))) (l := 14) (by kernel_rfl) ?_
      clear hb1 hb2 hbel cw fw
      generalize World.drew wr = wd at hS0 hz1 hz2 bel1 ⊢
      refine wpAnyL_take (i := 0) (v := ?v0p) rfl (by kernel_rfl) (by kernel_rfl) (by kernel_rfl) (by kernel_rfl) (by kernel_rfl) (fun _ _ _ h => h) (Or.inl ⟨by rfl, ?hy0p⟩) hS0 ?rest0p
      case hy0p => (intro wx hSx; go_simp; try (with_reducible rfl))
      refine wpAnyL_take (i := 1) (v := ?v1p) rfl (by kernel_rfl) (by kernel_rfl) (by kernel_rfl) (by kernel_rfl) (by kernel_rfl) (fun _ _ _ h => h) (Or.inl ⟨by rfl, ?hy1p⟩) hS0 ?rest1p
      case hy1p => (intro wx hSx; go_simp; try (with_reducible rfl))
      refine wpAnyL_take (i := 2) (v := ?v2p) rfl (by kernel_rfl) (by kernel_rfl) (by kernel_rfl) (by kernel_rfl) (by kernel_rfl) (fun _ _ _ h => h) (Or.inl ⟨by rfl, ?hy2p⟩) hS0 ?rest2p
      case hy2p => (intro wx hSx; go_simp; try (with_reducible rfl))
      refine wpAnyL_take (i := 3) (v := ?v3p) rfl (by kernel_rfl) (by kernel_rfl) (by kernel_rfl) (by kernel_rfl) (by kernel_rfl) (fun _ _ _ h => h) (Or.inl ⟨by rfl, ?hy3p⟩) hS0 ?rest3p
      case hy3p => (intro wx hSx; go_simp; try (with_reducible rfl))
      refine wpAnyL_take (i := 4) (v := ?v4p) rfl (by kernel_rfl) (by kernel_rfl) (by kernel_rfl) (by kernel_rfl) (by kernel_rfl) (fun _ _ _ h => h) (Or.inl ⟨by rfl, ?hy4p⟩) hS0 ?rest4p
      case hy4p => (intro wx hSx; go_simp; try (with_reducible rfl))
      refine wpAnyL_take (i := 5) (v := ?v5p) rfl (by kernel_rfl) (by kernel_rfl) (by kernel_rfl) (by kernel_rfl) (by kernel_rfl) (fun _ _ _ h => h) (Or.inl ⟨by rfl, ?hy5p⟩) hS0 ?rest5p
      case hy5p => (intro wx hSx; go_simp; try (with_reducible rfl))
      refine wpAnyL_take (i := 6) (v := ?v6p) rfl (by kernel_rfl) (by kernel_rfl) (by kernel_rfl) (by kernel_rfl) (by kernel_rfl) (fun _ _ _ h => h) (Or.inl ⟨by rfl, ?hy6p⟩) hS0 ?rest6p
      case hy6p => (intro wx hSx; go_simp; try (with_reducible rfl))
      refine wpAnyL_take (i := 7) (v := ?v7p) rfl (by kernel_rfl) (by kernel_rfl) (by kernel_rfl) (by kernel_rfl) (by kernel_rfl) (fun _ _ _ h => h) (Or.inl ⟨by rfl, ?hy7p⟩) hS0 ?rest7p
      case hy7p => (intro wx hSx; go_simp; try (with_reducible rfl))
      refine wpAnyL_take (i := 8) (v := ?v8p) rfl (by kernel_rfl) (by kernel_rfl) (by kernel_rfl) (by kernel_rfl) (by kernel_rfl) (fun _ _ _ h => h) (Or.inl ⟨by rfl, ?hy8p⟩) hS0 ?rest8p
      case hy8p => (intro wx hSx; go_simp; try (with_reducible rfl))
      refine wpAnyL_take (i := 9) (v := ?v9p) rfl (by kernel_rfl) (by kernel_rfl) (by kernel_rfl) (by kernel_rfl) (by kernel_rfl) (fun _ _ _ h => h) (Or.inl ⟨by rfl, ?hy9p⟩) hS0 ?rest9p
      case hy9p => (intro wx hSx; go_simp; try (with_reducible rfl))
      refine wpAnyL_take (i := 10) (v := ?v10p) rfl (by kernel_rfl) (by kernel_rfl) (by kernel_rfl) (by kernel_rfl) (by kernel_rfl) (fun _ _ _ h => h) (Or.inl ⟨by rfl, ?hy10p⟩) hS0 ?rest10p
      case hy10p => (intro wx hSx; go_simp; try (with_reducible rfl))
      refine wpAnyL_take (i := 11) (v := ?v11p) rfl (by kernel_rfl) (by kernel_rfl) (by kernel_rfl) (by kernel_rfl) (by kernel_rfl) (fun _ _ _ h => h) (Or.inl ⟨by rfl, ?hy11p⟩) hS0 ?rest11p
      case hy11p => (intro wx hSx; go_simp; try (with_reducible rfl))
      refine wpAnyL_take (i := 12) (v := ?v12p) rfl (by kernel_rfl) (by kernel_rfl) (by kernel_rfl) (by kernel_rfl) (by kernel_rfl) (fun _ _ _ h => h) (Or.inl ⟨by rfl, ?hy12p⟩) hS0 ?rest12p
      case hy12p => (intro wx hSx; go_simp; try (with_reducible rfl))
      refine wpAnyL_take (i := 13) (v := ?v13p) rfl (by kernel_rfl) (by kernel_rfl) (by kernel_rfl) (by kernel_rfl) (by kernel_rfl) (fun _ _ _ h => h) (Or.inl ⟨by rfl, ?hy13p⟩) hS0 ?rest13p
      case hy13p => (intro wx hSx; go_simp; try (with_reducible rfl))
      refine wpAnyL_last (by kernel_rfl) rfl (by kernel_rfl) (fun K hK => ?_)
      have f0 := hz2.frozen q
      go_simp
      refine hK.out _ _ ?_
      clear hK K
      go_wp2
      go_roundw
      case rel =>
        rw [hz2.set, Ws_set]
        refine ⟨k + 1, by omega, by go_num, hz1.other (by omega) _, ?_, below_setRow bel1 (by omega) _⟩
        rw [HW.out]
        exact hz2.row _
      case measure => simp [intOf]; omega
    · have hk32 : k = 32 := by omega
      subst hk32
      have HR2 := HR.out
      generalize Ff.wordsTo (fun i => s.data.toList.getD i 0) 32 = l at hb2 hl HR2
      obtain ⟨x0, x1, x2, x3, rfl⟩ := four4 l hl
      have HR3 : R = [x0 &&& Ff.M51, ((x0 >>> 51) ||| (x1 <<< 13)) &&& Ff.M51, ((x1 >>> 38) ||| (x2 <<< 26)) &&& Ff.M51, ((x2 >>> 25) ||| (x3 <<< 39)) &&& Ff.M51, (x3 >>> 12) &&& Ff.M51] := HR2
      have c0 : wr.cell? ⟨w.heap.size + 1, 0, none⟩ = some (.int .u64 (U x0)) := hb2.cell 0
      have c1 : wr.cell? ⟨w.heap.size + 1, 1, none⟩ = some (.int .u64 (U x1)) := hb2.cell 1
      have c2 : wr.cell? ⟨w.heap.size + 1, 2, none⟩ = some (.int .u64 (U x2)) := hb2.cell 2
      have c3 : wr.cell? ⟨w.heap.size + 1, 3, none⟩ = some (.int .u64 (U x3)) := hb2.cell 3
      have p0 := F_and51 x0
      have p1 : bits BinOp.and IntKind.u64 (bits BinOp.or IntKind.u64 (U x0 / 2251799813685248) (IntKind.u64.wrap (U x1 * 8192))) 2251799813685247 = U (((x0 >>> 51) ||| (x1 <<< 13)) &&& Ff.M51) := by
        rw [F_shr x0 2251799813685248 51 rfl, F_shl x1 8192 13 rfl, U_or, F_and51]
      have p2 : bits BinOp.and IntKind.u64 (bits BinOp.or IntKind.u64 (U x1 / 274877906944) (IntKind.u64.wrap (U x2 * 67108864))) 2251799813685247 = U (((x1 >>> 38) ||| (x2 <<< 26)) &&& Ff.M51) := by
        rw [F_shr x1 274877906944 38 rfl, F_shl x2 67108864 26 rfl, U_or, F_and51]
      have p3 : bits BinOp.and IntKind.u64 (bits BinOp.or IntKind.u64 (U x2 / 33554432) (IntKind.u64.wrap (U x3 * 549755813888))) 2251799813685247 = U (((x2 >>> 25) ||| (x3 <<< 39)) &&& Ff.M51) := by
        rw [F_shr x2 33554432 25 rfl, F_shl x3 549755813888 39 rfl, U_or, F_and51]
      have p4 : bits BinOp.and IntKind.u64 (U x3 / 4096) 2251799813685247 = U ((x3 >>> 12) &&& Ff.M51) := by
        rw [F_shr x3 4096 12 rfl, F_and51]
      clear HR HR2
      generalize x0 &&& Ff.M51 = y0 at p0 HR3
      generalize ((x0 >>> 51) ||| (x1 <<< 13)) &&& Ff.M51 = y1 at p1 HR3
      generalize ((x1 >>> 38) ||| (x2 <<< 26)) &&& Ff.M51 = y2 at p2 HR3
      generalize ((x2 >>> 25) ||| (x3 <<< 39)) &&& Ff.M51 = y3 at p3 HR3
      generalize (x3 >>> 12) &&& Ff.M51 = y4 at p4 HR3
      replace HR3 : Hid (R = [y0, y1, y2, y3, y4]) := HR3
      obtain ⟨d0, d1, d2, d3, d4⟩ := Fcells hb1
      have f0 := hb1.frozen 0
      have f1 := hb1.frozen 1
      have f2 := hb1.frozen 2
      have f3 := hb1.frozen 3
      have f4 := hb1.frozen 4
      go_wp2
      rw [Fset5 hb1]
      refine bodyPost_ret (v := .agg (Ws [y0, y1, y2, y3, y4])) ?_ rfl ⟨by rw [HR3.out], below_setRow hbel (by omega) _⟩
      exact results_cell_row rfl _ _ w.heap.size 69 _ (0, 0) _ rfl (hb1.row _) Tryz.underlying69 rfl Tryz.infoF5

end Go.Proofs.YtclpbaokadfhhaaGreatDoor

namespace Go.Proofs.YtclpbaokadfhhaaGreatDoor
open Go.RowKit

namespace Ff
/-- four words of five parts -/
def words4 (l : List W) : List W := [l.getD 0 0 ||| (l.getD 1 0 <<< 51), (l.getD 1 0 >>> 13) ||| (l.getD 2 0 <<< 38), (l.getD 2 0 >>> 26) ||| (l.getD 3 0 <<< 25), (l.getD 3 0 >>> 39) ||| (l.getD 4 0 <<< 12)]
/-- byte i of four words -/
def byteAt (l : List W) (i : Nat) : UInt8 := (l.getD (i / 8) 0 >>> (i % 8 * 8)).toNat.toUInt8
def bytesTo (l : List W) : Nat → List UInt8
  | 0 => zeros 32
  | k + 1 => (bytesTo l k).set k (byteAt l k)
theorem bytesTo_length (l : List W) (k : Nat) : (bytesTo l k).length = 32 := by
  induction k with
  | zero => rfl
  | succ k ih => rw [bytesTo, List.length_set, ih]
def bytes (a : List W) : List UInt8 := bytesTo (words4 (lowest a)) 32
theorem bytes_length (a : List W) : (bytes a).length = 32 := bytesTo_length _ _
end Ff
theorem low_byte (x : BitVec 64) : IntKind.u8.wrap (U x) = ((x.toNat.toUInt8).toNat : Int) := by
  rw [IntKind.wrap_u8]
  unfold U
  simp
theorem zero32 (w : World) : Sem.run Tryz.prog (zeroValue 130) w = .ok (.agg (Bs (zeros 32))) w := by kernel_rfl

set_option maxRecDepth 100000 in
set_option maxHeartbeats 4000000 in
theorem F_bytes (a : List (BitVec 64)) (w : World) (ha : a.length = 5) :
    Calls Tryz.prog 58 #[.agg (Ws a)] w fun e w' => e = .returned (.string ⟨(Ff.bytes a).toArray⟩) ∧ Below w.heap.size w w' := by
  have sa : (Ws a).size = 5 := by rw [Ws_size, ha]
  have hz := zero32
  have HR : Hid (Ff.bytes a = Ff.bytesTo (Ff.words4 (Ff.lowest a)) 32) := by
    have : Ff.bytes a = Ff.bytesTo (Ff.words4 (Ff.lowest a)) 32 := rfl
    exact this
  generalize Ff.bytes a = R at HR ⊢
  have hlo : (Ff.lowest a).length = 5 := by rw [Ff.lowest_length, ha]
  have H1 : Hid (∀ wx : World, Calls Tryz.prog 125 #[.agg (Ws a)] wx fun e w' => e = .returned (.agg (Ws (Ff.lowest a))) ∧ Below wx.heap.size wx w') := fun wx => F_lowest a wx ha
  generalize Ff.lowest a = b at H1 hlo HR
  obtain ⟨x0, x1, x2, x3, x4, rfl⟩ := Ff.five b hlo
  have HR2 : R = Ff.bytesTo [x0 ||| (x1 <<< 51), (x1 >>> 13) ||| (x2 <<< 38), (x2 >>> 26) ||| (x3 <<< 25), (x3 >>> 39) ||| (x4 <<< 12)] 32 := HR.out
  clear HR
  have p0 : bits BinOp.or IntKind.u64 (U x0) (IntKind.u64.wrap (U x1 * 2251799813685248)) = U (x0 ||| (x1 <<< 51)) := by rw [F_shl x1 2251799813685248 51 rfl, U_or]
  have p1 : bits BinOp.or IntKind.u64 (U x1 / 8192) (IntKind.u64.wrap (U x2 * 274877906944)) = U ((x1 >>> 13) ||| (x2 <<< 38)) := by rw [F_shr x1 8192 13 rfl, F_shl x2 274877906944 38 rfl, U_or]
  have p2 : bits BinOp.or IntKind.u64 (U x2 / 67108864) (IntKind.u64.wrap (U x3 * 33554432)) = U ((x2 >>> 26) ||| (x3 <<< 25)) := by rw [F_shr x2 67108864 26 rfl, F_shl x3 33554432 25 rfl, U_or]
  have p3 : bits BinOp.or IntKind.u64 (U x3 / 549755813888) (IntKind.u64.wrap (U x4 * 4096)) = U ((x3 >>> 39) ||| (x4 <<< 12)) := by rw [F_shr x3 549755813888 39 rfl, F_shl x4 4096 12 rfl, U_or]
  generalize x0 ||| (x1 <<< 51) = y0 at p0 HR2
  generalize (x1 >>> 13) ||| (x2 <<< 38) = y1 at p1 HR2
  generalize (x2 >>> 26) ||| (x3 <<< 25) = y2 at p2 HR2
  generalize (x3 >>> 39) ||| (x4 <<< 12) = y3 at p3 HR2
  replace HR2 : Hid (R = Ff.bytesTo [y0, y1, y2, y3] 32) := HR2
  have hb1 : Blk (w.alloc (.cells (Ws a) 69)) w.heap.size (Ws a) 69 := Blk.new w _ _
  have bel1 : Below w.heap.size w (w.alloc (.cells (Ws a) 69)) := (Below.refl _ _).alloc (Nat.le_refl _) _
  have g1 := hb1
  unfold Blk at g1
  go_enter Tryz.func58, Tryz.ntmps58
  go_wp2_with (refine wpList_load_row rfl 69 _ rfl w.heap.size rfl 69 _ (0, 0) _ g1 Tryz.underlying69 rfl (by rw [sa]; exact Tryz.infoF5) ?_)
  generalize w.alloc (.cells (Ws a) 69) = w1 at hb1 bel1 ⊢
  clear g1
  refine (H1.out _).mono ?_
  rintro e w2 ⟨rfl, k2⟩
  clear H1
  have hb2 := hb1.keep k2
  have bel2 := bel1.trans (k2.mono bel1.size)
  clear hb1 bel1 k2
  have g2 := hb2
  unfold Blk at g2
  have sb : (Ws [x0, x1, x2, x3, x4]).size = 5 := rfl
  have hb3 := hb2.row (Ws [x0, x1, x2, x3, x4])
  have bel3 := below_setRow bel2 (show w.heap.size ≤ w.heap.size by omega) (Ws [x0, x1, x2, x3, x4])
  obtain ⟨c0, c1, c2, c3, c4⟩ := Fcells hb3
  go_wp2_with (refine wpList_store_row rfl 69 _ _ rfl w.heap.size _ rfl rfl 69 _ g2 (by rw [sb]; exact Tryz.infoF5) (by rw [sb, sa]) (Ws_one _) ?_)
  have hsr : (w2.setRow w.heap.size (Ws [x0, x1, x2, x3, x4])).heap.size = w2.heap.size := by simp [World.setRow]
  clear c0 c1 c2 c3 c4 p0 p1 p2 p3 g2 hb2 bel2 hz
  generalize w2.setRow w.heap.size (Ws [x0, x1, x2, x3, x4]) = w3 at hb3 bel3 hsr ⊢
  have hlt3 : w.heap.size < w3.heap.size := hb3.lt
  have hW4 : Blk ((w3.alloc (.cells #[.int .u64 (U y0), .int .u64 (U y1), .int .u64 (U y2), .int .u64 (U y3)] 70)).alloc (.cells (Bs (zeros 32)) 130)) w3.heap.size (Ws [y0, y1, y2, y3]) 70 := heap_alloc2_old w3 _ _
  have hO4 : Blk ((w3.alloc (.cells #[.int .u64 (U y0), .int .u64 (U y1), .int .u64 (U y2), .int .u64 (U y3)] 70)).alloc (.cells (Bs (zeros 32)) 130)) (w3.heap.size + 1) (Bs (zeros 32)) 130 := heap_alloc2_new w3 _ _
  have bel4 : Below w.heap.size w ((w3.alloc (.cells #[.int .u64 (U y0), .int .u64 (U y1), .int .u64 (U y2), .int .u64 (U y3)] 70)).alloc (.cells (Bs (zeros 32)) 130)) := (bel3.alloc (by omega) _).alloc (by simp; omega) _
  clear hb3 bel3
  generalize (w3.alloc (.cells #[.int .u64 (U y0), .int .u64 (U y1), .int .u64 (U y2), .int .u64 (U y3)] 70)).alloc (.cells (Bs (zeros 32)) 130) = w4 at hW4 hO4 bel4 ⊢
  rw [← hsr] at *
  generalize w3.heap.size = g at *
  go_loopw [36] (fun c wr => ∃ k : Nat, k ≤ 32 ∧ c = .int .i64 (k : Int) ∧ Blk wr g (Ws [y0, y1, y2, y3]) 70 ∧ Blk wr (g + 1) (Bs (Ff.bytesTo [y0, y1, y2, y3] k)) 130 ∧ Below w.heap.size w wr) (fun c _ => 32 - (intOf c).toNat)
  case atStart => exact ⟨0, by omega, rfl, hW4, hO4, bel4⟩
  case round =>
    clear hW4 hO4 bel4
    obtain ⟨k, hk, rfl, hW4, hO4, bel4⟩ := hrel
    have hl := Ff.bytesTo_length [y0, y1, y2, y3] k
    by_cases hlt : k < 32
    · have HB : Hid (Ff.bytesTo [y0, y1, y2, y3] (k + 1) = (Ff.bytesTo [y0, y1, y2, y3] k).set k ((([y0, y1, y2, y3] : List (BitVec 64)).getD (k / 8) 0 >>> (k % 8 * 8)).toNat.toUInt8)) := by
        have : Ff.bytesTo [y0, y1, y2, y3] (k + 1) = (Ff.bytesTo [y0, y1, y2, y3] k).set k ((([y0, y1, y2, y3] : List (BitVec 64)).getD (k / 8) 0 >>> (k % 8 * 8)).toNat.toUInt8) := by rw [Ff.bytesTo]; rfl
        exact this
      have cw := hW4.cell (k / 8)
      rw [Ws_at _ _ (show k / 8 < 4 by omega)] at cw
      have co := hO4.cell k
      rw [Bs_at _ _ (by omega)] at co
      have fo := hO4.frozen k
      have i1 : IntKind.i64.wrap ((k : Int) / 8) = ((k / 8 : Nat) : Int) := by rw [IntKind.wrap_i64]; omega
      have i2 : IntKind.i64.wrap ((k : Int).tmod 8 * 8) = ((k % 8 * 8 : Nat) : Int) := by rw [IntKind.wrap_i64, Int.tmod_eq_emod_of_nonneg (by omega)]; omega
      have q2 : ((k / 8 : Nat) : Int) < 4 := by omega
      have s2 : ((k % 8 * 8 : Nat) : Int) < 64 := by omega
      generalize hq : k / 8 = q at *
      generalize hsf : k % 8 * 8 = sft at *
      replace hq : Hid (k / 8 = q) := hq
      replace hsf : Hid (k % 8 * 8 = sft) := hsf
      generalize ([y0, y1, y2, y3] : List (BitVec 64)).getD q 0 = y at cw HB
      generalize (Ff.bytesTo [y0, y1, y2, y3] k).getD k 0 = z at co
      have sh : U y / 2 ^ sft = U (y >>> sft) := U_shr y sft
      have lb := low_byte (y >>> sft)
      have lb2 : IntKind.u8.wrap (U y / 2 ^ sft) = ((y >>> sft).toNat.toUInt8.toNat : Int) := by rw [sh, lb]
      generalize (y >>> sft).toNat.toUInt8 = v at HB lb lb2
      clear lb sh
      have hlt' : (k : Int) < 32 := by omega
      go_wp2
      go_roundw
      case rel =>
        have e : U y / 2 ^ (k % 8 * 8) % 256 = (v.toNat : Int) := by rw [hsf.out, ← IntKind.wrap_u8, lb2]
        rw [e, hO4.set, Bs_set]
        refine ⟨k + 1, by omega, by go_num, hW4.other (by omega) _, ?_, below_setRow bel4 (by omega) _⟩
        rw [HB.out]
        exact hO4.row _
      case measure => simp [intOf]; omega
    · have hk32 : k = 32 := by omega
      subst hk32
      have hso := stringOf (cap := 32) hO4 32 hl.symm
      generalize hT : Ff.bytesTo [y0, y1, y2, y3] 32 = T at hso
      have HT : Hid (Ff.bytesTo [y0, y1, y2, y3] 32 = T) := hT
      clear hT
      go_wp2
      go_ret
      exact ⟨by rw [HR2.out, HT.out]; rfl, bel4⟩

end Go.Proofs.YtclpbaokadfhhaaGreatDoor
