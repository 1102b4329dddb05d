/- Contract of field's Bytes. -/
import Derived.Test.YtclpbaokadfhhaaDoorMd
import Derived.Test.YtclpbaokadfhhaaDoorFof
namespace Go.Proofs.YtclpbaokadfhhaaDoor
open Go.RowKit

namespace Ff
/-- four words of five parts -/
def words4 (l : List W) : List W := [l.getD 0 0 ||| (l.getD 1 0 <<< 51), (l.getD 1 0 >>> 13) ||| (l.getD 2 0 <<< 38), (l.getD 2 0 >>> 26) ||| (l.getD 3 0 <<< 25), (l.getD 3 0 >>> 39) ||| (l.getD 4 0 <<< 12)]
/-- byte i of four words -/
def byteAt (l : List W) (i : Nat) : UInt8 := (l.getD (i / 8) 0 >>> (i % 8 * 8)).toNat.toUInt8
def bytesTo (l : List W) : Nat → List UInt8
  | 0 => zeros 32
  | k + 1 => (bytesTo l k).set k (byteAt l k)
theorem bytesTo_length (l : List W) (k : Nat) : (bytesTo l k).length = 32 := by
  induction k with
  | zero => rfl
  | succ k ih => rw [bytesTo, List.length_set, ih]
def bytes (a : List W) : List UInt8 := bytesTo (words4 (lowest a)) 32
theorem bytes_length (a : List W) : (bytes a).length = 32 := bytesTo_length _ _
end Ff
theorem low_byte (x : BitVec 64) : IntKind.u8.wrap (U x) = ((x.toNat.toUInt8).toNat : Int) := by
  rw [IntKind.wrap_u8]
  unfold U
  simp
theorem zero32 (w : World) : Sem.run Tryd.prog (zeroValue 86) w = .ok (.agg (Bs (zeros 32))) w := by kernel_rfl

set_option maxRecDepth 100000 in
set_option maxHeartbeats 4000000 in
theorem F_bytes (a : List (BitVec 64)) (w : World) (ha : a.length = 5) :
    Calls Tryd.prog 46 #[.agg (Ws a)] w fun e w' => e = .returned (.string ⟨(Ff.bytes a).toArray⟩) ∧ Below w.heap.size w w' := by
  have sa : (Ws a).size = 5 := by rw [Ws_size, ha]
  have hz := zero32
  have HR : Hid (Ff.bytes a = Ff.bytesTo (Ff.words4 (Ff.lowest a)) 32) := by
    have : Ff.bytes a = Ff.bytesTo (Ff.words4 (Ff.lowest a)) 32 := rfl
    exact this
  generalize Ff.bytes a = R at HR ⊢
  have hlo : (Ff.lowest a).length = 5 := by rw [Ff.lowest_length, ha]
  have H1 : Hid (∀ wx : World, Calls Tryd.prog 73 #[.agg (Ws a)] wx fun e w' => e = .returned (.agg (Ws (Ff.lowest a))) ∧ Below wx.heap.size wx w') := fun wx => F_lowest a wx ha
  generalize Ff.lowest a = b at H1 hlo HR
  obtain ⟨x0, x1, x2, x3, x4, rfl⟩ := Ff.five b hlo
  have HR2 : R = Ff.bytesTo [x0 ||| (x1 <<< 51), (x1 >>> 13) ||| (x2 <<< 38), (x2 >>> 26) ||| (x3 <<< 25), (x3 >>> 39) ||| (x4 <<< 12)] 32 := HR.out
  clear HR
  have p0 : bits BinOp.or IntKind.u64 (U x0) (IntKind.u64.wrap (U x1 * 2251799813685248)) = U (x0 ||| (x1 <<< 51)) := by rw [F_shl x1 2251799813685248 51 rfl, U_or]
  have p1 : bits BinOp.or IntKind.u64 (U x1 / 8192) (IntKind.u64.wrap (U x2 * 274877906944)) = U ((x1 >>> 13) ||| (x2 <<< 38)) := by rw [F_shr x1 8192 13 rfl, F_shl x2 274877906944 38 rfl, U_or]
  have p2 : bits BinOp.or IntKind.u64 (U x2 / 67108864) (IntKind.u64.wrap (U x3 * 33554432)) = U ((x2 >>> 26) ||| (x3 <<< 25)) := by rw [F_shr x2 67108864 26 rfl, F_shl x3 33554432 25 rfl, U_or]
  have p3 : bits BinOp.or IntKind.u64 (U x3 / 549755813888) (IntKind.u64.wrap (U x4 * 4096)) = U ((x3 >>> 39) ||| (x4 <<< 12)) := by rw [F_shr x3 549755813888 39 rfl, F_shl x4 4096 12 rfl, U_or]
  generalize x0 ||| (x1 <<< 51) = y0 at p0 HR2
  generalize (x1 >>> 13) ||| (x2 <<< 38) = y1 at p1 HR2
  generalize (x2 >>> 26) ||| (x3 <<< 25) = y2 at p2 HR2
  generalize (x3 >>> 39) ||| (x4 <<< 12) = y3 at p3 HR2
  replace HR2 : Hid (R = Ff.bytesTo [y0, y1, y2, y3] 32) := HR2
  have hb1 : Blk (w.alloc (.cells (Ws a) 58)) w.heap.size (Ws a) 58 := Blk.new w _ _
  have bel1 : Below w.heap.size w (w.alloc (.cells (Ws a) 58)) := (Below.refl _ _).alloc (Nat.le_refl _) _
  have g1 := hb1
  unfold Blk at g1
  go_enter Tryd.func46, Tryd.ntmps46
  go_wp2_with (refine wpList_load_row rfl 58 _ rfl w.heap.size rfl 58 _ (0, 0) _ g1 Tryd.underlying58 rfl (by rw [sa]; exact Tryd.infoF5) ?_)
  generalize w.alloc (.cells (Ws a) 58) = w1 at hb1 bel1 ⊢
  clear g1
  refine (H1.out _).mono ?_
  rintro e w2 ⟨rfl, k2⟩
  clear H1
  have hb2 := hb1.keep k2
  have bel2 := bel1.trans (k2.mono bel1.size)
  clear hb1 bel1 k2
  have g2 := hb2
  unfold Blk at g2
  have sb : (Ws [x0, x1, x2, x3, x4]).size = 5 := rfl
  have hb3 := hb2.row (Ws [x0, x1, x2, x3, x4])
  have bel3 := below_setRow bel2 (show w.heap.size ≤ w.heap.size by omega) (Ws [x0, x1, x2, x3, x4])
  obtain ⟨c0, c1, c2, c3, c4⟩ := Fcells hb3
  go_wp2_with (refine wpList_store_row rfl 58 _ _ rfl w.heap.size _ rfl rfl 58 _ g2 (by rw [sb]; exact Tryd.infoF5) (by rw [sb, sa]) (Ws_one _) ?_)
  have hsr : (w2.setRow w.heap.size (Ws [x0, x1, x2, x3, x4])).heap.size = w2.heap.size := by simp [World.setRow]
  clear c0 c1 c2 c3 c4 p0 p1 p2 p3 g2 hb2 bel2 hz
  generalize w2.setRow w.heap.size (Ws [x0, x1, x2, x3, x4]) = w3 at hb3 bel3 hsr ⊢
  have hlt3 : w.heap.size < w3.heap.size := hb3.lt
  have hW4 : Blk ((w3.alloc (.cells #[.int .u64 (U y0), .int .u64 (U y1), .int .u64 (U y2), .int .u64 (U y3)] 51)).alloc (.cells (Bs (zeros 32)) 86)) w3.heap.size (Ws [y0, y1, y2, y3]) 51 := heap_alloc2_old w3 _ _
  have hO4 : Blk ((w3.alloc (.cells #[.int .u64 (U y0), .int .u64 (U y1), .int .u64 (U y2), .int .u64 (U y3)] 51)).alloc (.cells (Bs (zeros 32)) 86)) (w3.heap.size + 1) (Bs (zeros 32)) 86 := heap_alloc2_new w3 _ _
  have bel4 : Below w.heap.size w ((w3.alloc (.cells #[.int .u64 (U y0), .int .u64 (U y1), .int .u64 (U y2), .int .u64 (U y3)] 51)).alloc (.cells (Bs (zeros 32)) 86)) := (bel3.alloc (by omega) _).alloc (by simp; omega) _
  clear hb3 bel3
  generalize (w3.alloc (.cells #[.int .u64 (U y0), .int .u64 (U y1), .int .u64 (U y2), .int .u64 (U y3)] 51)).alloc (.cells (Bs (zeros 32)) 86) = w4 at hW4 hO4 bel4 ⊢
  rw [← hsr] at *
  generalize w3.heap.size = g at *
  go_loopw [36] (fun c wr => ∃ k : Nat, k ≤ 32 ∧ c = .int .i64 (k : Int) ∧ Blk wr g (Ws [y0, y1, y2, y3]) 51 ∧ Blk wr (g + 1) (Bs (Ff.bytesTo [y0, y1, y2, y3] k)) 86 ∧ Below w.heap.size w wr) (fun c _ => 32 - (intOf c).toNat)
  case atStart => exact ⟨0, by omega, rfl, hW4, hO4, bel4⟩
  case round =>
    clear hW4 hO4 bel4
    obtain ⟨k, hk, rfl, hW4, hO4, bel4⟩ := hrel
    have hl := Ff.bytesTo_length [y0, y1, y2, y3] k
    by_cases hlt : k < 32
    · have HB : Hid (Ff.bytesTo [y0, y1, y2, y3] (k + 1) = (Ff.bytesTo [y0, y1, y2, y3] k).set k ((([y0, y1, y2, y3] : List (BitVec 64)).getD (k / 8) 0 >>> (k % 8 * 8)).toNat.toUInt8)) := by
        have : Ff.bytesTo [y0, y1, y2, y3] (k + 1) = (Ff.bytesTo [y0, y1, y2, y3] k).set k ((([y0, y1, y2, y3] : List (BitVec 64)).getD (k / 8) 0 >>> (k % 8 * 8)).toNat.toUInt8) := by rw [Ff.bytesTo]; rfl
        exact this
      have cw := hW4.cell (k / 8)
      rw [Ws_at _ _ (show k / 8 < 4 by omega)] at cw
      have co := hO4.cell k
      rw [Bs_at _ _ (by omega)] at co
      have fo := hO4.frozen k
      have i1 : IntKind.i64.wrap ((k : Int) / 8) = ((k / 8 : Nat) : Int) := by rw [IntKind.wrap_i64]; omega
      have i2 : IntKind.i64.wrap ((k : Int).tmod 8 * 8) = ((k % 8 * 8 : Nat) : Int) := by rw [IntKind.wrap_i64, Int.tmod_eq_emod_of_nonneg (by omega)]; omega
      have q2 : ((k / 8 : Nat) : Int) < 4 := by omega
      have s2 : ((k % 8 * 8 : Nat) : Int) < 64 := by omega
      generalize hq : k / 8 = q at *
      generalize hsf : k % 8 * 8 = sft at *
      replace hq : Hid (k / 8 = q) := hq
      replace hsf : Hid (k % 8 * 8 = sft) := hsf
      generalize ([y0, y1, y2, y3] : List (BitVec 64)).getD q 0 = y at cw HB
      generalize (Ff.bytesTo [y0, y1, y2, y3] k).getD k 0 = z at co
      have sh : U y / 2 ^ sft = U (y >>> sft) := U_shr y sft
      have lb := low_byte (y >>> sft)
      have lb2 : IntKind.u8.wrap (U y / 2 ^ sft) = ((y >>> sft).toNat.toUInt8.toNat : Int) := by rw [sh, lb]
      generalize (y >>> sft).toNat.toUInt8 = v at HB lb lb2
      clear lb sh
      have hlt' : (k : Int) < 32 := by omega
      go_wp2
      go_roundw
      case rel =>
        have e : U y / 2 ^ (k % 8 * 8) % 256 = (v.toNat : Int) := by rw [hsf.out, ← IntKind.wrap_u8, lb2]
        rw [e, hO4.set, Bs_set]
        refine ⟨k + 1, by omega, by go_num, hW4.other (by omega) _, ?_, below_setRow bel4 (by omega) _⟩
        rw [HB.out]
        exact hO4.row _
      case measure => simp [intOf]; omega
    · have hk32 : k = 32 := by omega
      subst hk32
      have hso := stringOf (cap := 32) hO4 32 hl.symm
      generalize hT : Ff.bytesTo [y0, y1, y2, y3] 32 = T at hso
      have HT : Hid (Ff.bytesTo [y0, y1, y2, y3] 32 = T) := hT
      clear hT
      go_wp2
      go_ret
      exact ⟨by rw [HR2.out, HT.out]; rfl, bel4⟩

end Go.Proofs.YtclpbaokadfhhaaDoor
