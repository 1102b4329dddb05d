/- Contract of cipher.tag. -/
import Derived.Test.YtclpbaokadfhhaaCPiece
import Derived.Deep.RegionWith
import Derived.Test.YtclpbaokadfhhaaLast
namespace Go.Proofs.Ytclpbaokadfhhaa
open Go.RowKit

namespace Cc
/-- the number of the first 16 bytes, some bits left out -/
def rOf (f : Nat → UInt8) : List (BitVec 64) := numberOf (wdL f 8 &&& 1152921487695413247) (wdL (fun i => f (8 + i)) 8 &&& 1152921487695413244) 0
/-- the number behind j pieces -/
def tagTo (r : List (BitVec 64)) (s : ByteArray) : Nat → List (BitVec 64)
  | 0 => [0, 0, 0, 0, 0]
  | j + 1 => times (plus (tagTo r s j) (piece (s.extract (16 * j) (16 * j + 16)).data.toList)) r
theorem tagTo_length (r : List (BitVec 64)) (s : ByteArray) (j : Nat) : (tagTo r s j).length = 5 := by
  cases j with
  | zero => rfl
  | succ j => exact times_length _ _
def tag (f : Nat → UInt8) (s : ByteArray) : List UInt8 := tellSum (lowest (tagTo (rOf f) s (s.size / 16))) (wdL (fun i => f (16 + i)) 8) (wdL (fun i => f (24 + i)) 8)
theorem tag_length (f : Nat → UInt8) (s : ByteArray) : (tag f s).length = 16 := tellSum_length _ _ _
theorem plus_length (a b : List (BitVec 64)) : (plus a b).length = a.length := plusTo_length _ _ _
theorem piece_length (l : List UInt8) : (piece l).length = 5 := rfl
end Cc

theorem plus_lit (h0 h1 h2 h3 h4 : BitVec 64) (b : List (BitVec 64)) (hb : b.length = 5) (w : World) :
    Calls Try.prog 44 #[.agg #[.int .u64 (U h0), .int .u64 (U h1), .int .u64 (U h2), .int .u64 (U h3), .int .u64 (U h4)], .agg (Ws b)] w fun e w' => e = .returned (.agg (Ws (Cc.plus [h0, h1, h2, h3, h4] b))) ∧ Below w.heap.size w w' :=
  plus_any [h0, h1, h2, h3, h4] b w rfl hb
theorem times_lit (a : List (BitVec 64)) (ha : a.length = 5) (h0 h1 h2 h3 h4 : BitVec 64) (w : World) :
    Calls Try.prog 43 #[.agg (Ws a), .agg #[.int .u64 (U h0), .int .u64 (U h1), .int .u64 (U h2), .int .u64 (U h3), .int .u64 (U h4)]] w fun e w' => e = .returned (.agg (Ws (Cc.times a [h0, h1, h2, h3, h4]))) ∧ Below w.heap.size w w' :=
  times_any a [h0, h1, h2, h3, h4] w ha rfl
theorem lowest_lit (h0 h1 h2 h3 h4 : BitVec 64) (w : World) :
    Calls Try.prog 47 #[.agg #[.int .u64 (U h0), .int .u64 (U h1), .int .u64 (U h2), .int .u64 (U h3), .int .u64 (U h4)]] w fun e w' => e = .returned (.agg (Ws (Cc.lowest [h0, h1, h2, h3, h4]))) ∧ Below w.heap.size w w' :=
  lowest_any [h0, h1, h2, h3, h4] w rfl

/-- what the loop's numbers are -/
def TagS (p : Nat) (h r : List (BitVec 64)) (w : World) : Prop := Blk w (p + 1) (Ws h) 69 ∧ Blk w p (Ws r) 69

set_option maxRecDepth 100000 in
set_option maxHeartbeats 2000000 in
theorem tag_any (b off cap : Nat) (f : Nat → UInt8) (s : ByteArray) (w : World) (hcap : 32 ≤ cap) (hm : cap ≤ 1000000) (hs : s.size ≤ 1000000) (h16 : s.size % 16 = 0)
    (hc : ∀ i, i < 32 → w.cell? ⟨b, off + i, none⟩ = some (.int .u8 (f i).toNat)) :
    Calls Try.prog 28 #[.slice (some ⟨b, off, none⟩) 32 cap, .string s] w fun e w' => e = .returned (.agg (Bs (Cc.tag f s))) ∧ Below w.heap.size w w' := by
  have hblt : b < w.heap.size := block_lt_of_cell (hc 0 (by omega))
  have HC : Hid (∀ i, i < 32 → w.cell? ⟨b, off + i, none⟩ = some (.int .u8 (f i).toNat)) := hc
  clear hc
  have hz := zero16b
  have HG : Hid (Cc.tag f s = Cc.tellSum (Cc.lowest (Cc.tagTo (Cc.rOf f) s (s.size / 16))) (Cc.wdL (fun i => f (16 + i)) 8) (Cc.wdL (fun i => f (24 + i)) 8)) := by
    have : Cc.tag f s = Cc.tellSum (Cc.lowest (Cc.tagTo (Cc.rOf f) s (s.size / 16))) (Cc.wdL (fun i => f (16 + i)) 8) (Cc.wdL (fun i => f (24 + i)) 8) := rfl
    exact this
  have hlG : (Cc.tag f s).length = 16 := Cc.tag_length _ _
  generalize Cc.tag f s = G at HG hlG ⊢
  have HLO : Hid (∀ wx : World, Calls Try.prog 41 #[.agg (Ws [Cc.wdL f 8, Cc.wdL (fun i => f (8 + i)) 8])] wx fun e w' => e = .returned (.agg (Ws [Cc.wdL f 8 &&& 1152921487695413247, Cc.wdL (fun i => f (8 + i)) 8 &&& 1152921487695413244])) ∧ Below wx.heap.size wx w') := fun wx => leaveOut_any _ _ wx
  have HRO : Hid (∀ wx : World, Calls Try.prog 40 #[.agg (Ws [Cc.wdL f 8 &&& 1152921487695413247, Cc.wdL (fun i => f (8 + i)) 8 &&& 1152921487695413244]), .int .u64 0] wx fun e w' => e = .returned (.agg (Ws (Cc.rOf f))) ∧ Below wx.heap.size wx w') := fun wx => numberOf_any _ _ 0 wx
  have HHA : Hid (∀ (wx : World), (∀ i, i < 16 → wx.cell? ⟨b, off + i, none⟩ = some (.int .u8 (f i).toNat)) → Calls Try.prog 42 #[.slice (some ⟨b, off, none⟩) 32 cap] wx fun e w' => e = .returned (.agg (Ws [Cc.wdL f 8, Cc.wdL (fun i => f (8 + i)) 8])) ∧ Below wx.heap.size wx w') := fun wx h => halves_any b off 32 cap f wx (by omega) (by omega) h
  have HHB : Hid (∀ (wx : World), (∀ i, i < 16 → wx.cell? ⟨b, off + 16 + i, none⟩ = some (.int .u8 (f (16 + i)).toNat)) → Calls Try.prog 42 #[.slice (some ⟨b, off + 16, none⟩) 16 (cap - 16)] wx fun e w' => e = .returned (.agg (Ws [Cc.wdL (fun i => f (16 + i)) 8, Cc.wdL (fun i => f (24 + i)) 8])) ∧ Below wx.heap.size wx w') := fun wx h => by
    have := halves_any b (off + 16) 16 (cap - 16) (fun i => f (16 + i)) wx (by omega) (by omega) h
    rw [show Cc.words2 (fun i => f (16 + i)) = [Cc.wdL (fun i => f (16 + i)) 8, Cc.wdL (fun i => f (24 + i)) 8] by
      show [Cc.wdL (fun i => f (16 + i)) 8, Cc.wdL (fun i => f (16 + (8 + i))) 8] = _
      rw [show (fun i => f (16 + (8 + i))) = fun i => f (24 + i) from funext fun i => by rw [← Nat.add_assoc]]] at this
    exact this
  have hlr : (Cc.rOf f).length = 5 := rfl
  generalize Cc.rOf f = r at HG HRO hlr
  generalize Cc.wdL f 8 &&& 1152921487695413247 = y1 at HLO HRO
  generalize Cc.wdL (fun i => f (8 + i)) 8 &&& 1152921487695413244 = y2 at HLO HRO
  generalize Cc.wdL f 8 = y3 at HLO HHA
  generalize Cc.wdL (fun i => f (8 + i)) 8 = y4 at HLO HHA
  generalize Cc.wdL (fun i => f (16 + i)) 8 = s0 at HG HHB
  generalize Cc.wdL (fun i => f (24 + i)) 8 = s1 at HG HHB
  obtain ⟨r0, r1, r2, r3, r4, rfl⟩ := list5 r hlr
  have hb0 := Blk.new w (Bs (zeros 16)) 53
  have hbel0 : Below w.heap.size w (w.alloc (.cells (Bs (zeros 16)) 53)) := (Below.refl _ _).alloc (Nat.le_refl _) _
  go_enter Try.func28, Try.ntmps28
  go_wp2_with fail
  refine (HHA.out _ ?_).mono ?_
  · intro i hi
    rw [hbel0.cell (p := ⟨b, off + i, none⟩) hblt]; exact HC.out i (by omega)
  rintro e w1 ⟨rfl, hb1⟩
  have q1 := hb0.keep hb1
  have bel1 := hbel0.trans (hb1.mono hbel0.size)
  clear hb0 hbel0 hb1
  go_wp2_with fail
  refine (HLO.out _).mono ?_
  rintro e w2 ⟨rfl, hb2⟩
  have q2 := q1.keep hb2
  have bel2 := bel1.trans (hb2.mono bel1.size)
  clear q1 bel1 hb2
  go_wp2_with fail
  refine (HRO.out _).mono ?_
  rintro e w3 ⟨rfl, hb3⟩
  have q3 := q2.keep hb3
  have bel3 := bel2.trans (hb3.mono bel2.size)
  clear q2 bel2 hb3
  rw [show Ws [r0, r1, r2, r3, r4] = #[.int .u64 (U r0), .int .u64 (U r1), .int .u64 (U r2), .int .u64 (U r3), .int .u64 (U r4)] from rfl]
  go_wp2_with fail
  have hb5 : Blk ((w3.alloc (.cells #[.int .u64 (U r0), .int .u64 (U r1), .int .u64 (U r2), .int .u64 (U r3), .int .u64 (U r4)] 69)).alloc (.cells #[.int .u64 0, .int .u64 0, .int .u64 0, .int .u64 0, .int .u64 0] 69)) w3.heap.size (Ws [r0, r1, r2, r3, r4]) 69 := heap_alloc2_old w3 _ _
  have hb6 : Blk ((w3.alloc (.cells #[.int .u64 (U r0), .int .u64 (U r1), .int .u64 (U r2), .int .u64 (U r3), .int .u64 (U r4)] 69)).alloc (.cells #[.int .u64 0, .int .u64 0, .int .u64 0, .int .u64 0, .int .u64 0] 69)) (w3.heap.size + 1) (Ws [0, 0, 0, 0, 0]) 69 := heap_alloc2_new w3 _ _
  have hb4 := (q3.alloc (.cells #[.int .u64 (U r0), .int .u64 (U r1), .int .u64 (U r2), .int .u64 (U r3), .int .u64 (U r4)] 69)).alloc (.cells #[.int .u64 0, .int .u64 0, .int .u64 0, .int .u64 0, .int .u64 0] 69)
  have hlt4 : w.heap.size < w3.heap.size := q3.lt
  have hbel : Below w.heap.size w ((w3.alloc (.cells #[.int .u64 (U r0), .int .u64 (U r1), .int .u64 (U r2), .int .u64 (U r3), .int .u64 (U r4)] 69)).alloc (.cells #[.int .u64 0, .int .u64 0, .int .u64 0, .int .u64 0, .int .u64 0] 69)) := (bel3.alloc (by omega) _).alloc (by simp; omega) _
  generalize (w3.alloc (.cells #[.int .u64 (U r0), .int .u64 (U r1), .int .u64 (U r2), .int .u64 (U r3), .int .u64 (U r4)] 69)).alloc (.cells #[.int .u64 0, .int .u64 0, .int .u64 0, .int .u64 0, .int .u64 0] 69) = w4 at hb5 hb6 hb4 hbel ⊢
  generalize w3.heap.size = p at hb5 hb6 hlt4 ⊢
  clear q3 bel3 HLO HRO HHA
  go_loopw [7] (fun c wr => ∃ j : Nat, 16 * j ≤ s.size ∧ c = .int .i64 (16 * j : Nat) ∧ Blk wr p (Ws [r0, r1, r2, r3, r4]) 69 ∧ Blk wr (p + 1) (Ws (Cc.tagTo [r0, r1, r2, r3, r4] s j)) 69 ∧ Blk wr w.heap.size (Bs (zeros 16)) 53 ∧ Below w.heap.size w wr) (fun c _ => s.size - (intOf c).toNat)
  case atStart => exact ⟨0, by omega, rfl, hb5, hb6, hb4, hbel⟩
  case round =>
    clear hb5 hb6 hb4 hbel w4
    obtain ⟨j, hj, rfl, hb5, hb6, hb4, hbel⟩ := hrel
    by_cases hlt : 16 * j < s.size
    · have hle : 16 * j + 16 ≤ s.size := by omega
      have HT : Hid (Cc.tagTo [r0, r1, r2, r3, r4] s (j + 1) = Cc.times (Cc.plus (Cc.tagTo [r0, r1, r2, r3, r4] s j) (Cc.piece (s.extract (16 * j) (16 * j + 16)).data.toList)) [r0, r1, r2, r3, r4]) := by
        have : Cc.tagTo [r0, r1, r2, r3, r4] s (j + 1) = Cc.times (Cc.plus (Cc.tagTo [r0, r1, r2, r3, r4] s j) (Cc.piece (s.extract (16 * j) (16 * j + 16)).data.toList)) [r0, r1, r2, r3, r4] := rfl
        exact this
      have hlH : (Cc.tagTo [r0, r1, r2, r3, r4] s j).length = 5 := Cc.tagTo_length _ _ _
      generalize Cc.tagTo [r0, r1, r2, r3, r4] s j = H at hb6 HT hlH
      obtain ⟨h0, h1, h2, h3, h4, rfl⟩ := list5 H hlH
      generalize hat : 16 * j = at0 at hj hlt hle HT
      have HAT : Hid (16 * j = at0) := hat
      clear hat
      have HPc : Hid (∀ wx : World, Calls Try.prog 45 #[.string (s.extract at0 (at0 + 16))] wx fun e w' => e = .returned (.agg (Ws (Cc.piece (s.extract at0 (at0 + 16)).data.toList))) ∧ Below wx.heap.size wx w') := fun wx => piece_any _ wx (by simp; omega)
      have HPl : Hid (∀ wx : World, Calls Try.prog 44 #[.agg #[.int .u64 (U h0), .int .u64 (U h1), .int .u64 (U h2), .int .u64 (U h3), .int .u64 (U h4)], .agg (Ws (Cc.piece (s.extract at0 (at0 + 16)).data.toList))] wx fun e w' => e = .returned (.agg (Ws (Cc.plus [h0, h1, h2, h3, h4] (Cc.piece (s.extract at0 (at0 + 16)).data.toList)))) ∧ Below wx.heap.size wx w') := fun wx => plus_lit _ _ _ _ _ _ (Cc.piece_length _) wx
      have HTm : Hid (∀ wx : World, Calls Try.prog 43 #[.agg (Ws (Cc.plus [h0, h1, h2, h3, h4] (Cc.piece (s.extract at0 (at0 + 16)).data.toList))), .agg #[.int .u64 (U r0), .int .u64 (U r1), .int .u64 (U r2), .int .u64 (U r3), .int .u64 (U r4)]] wx fun e w' => e = .returned (.agg (Ws (Cc.times (Cc.plus [h0, h1, h2, h3, h4] (Cc.piece (s.extract at0 (at0 + 16)).data.toList)) [r0, r1, r2, r3, r4]))) ∧ Below wx.heap.size wx w') := fun wx => times_lit _ (by rw [Cc.plus_length]; rfl) _ _ _ _ _ wx
      have hlT : (Cc.times (Cc.plus [h0, h1, h2, h3, h4] (Cc.piece (s.extract at0 (at0 + 16)).data.toList)) [r0, r1, r2, r3, r4]).length = 5 := Cc.times_length _ _
      generalize Cc.times (Cc.plus [h0, h1, h2, h3, h4] (Cc.piece (s.extract at0 (at0 + 16)).data.toList)) [r0, r1, r2, r3, r4] = T at HT HTm hlT
      generalize Cc.plus [h0, h1, h2, h3, h4] (Cc.piece (s.extract at0 (at0 + 16)).data.toList) = Q at HPl HTm
      generalize Cc.piece (s.extract at0 (at0 + 16)).data.toList = P at HPc HPl
      obtain ⟨c0, c1, c2, c3, c4⟩ := cells5 hb6
      obtain ⟨d0, d1, d2, d3, d4⟩ := cells5 hb5
      have a0 : (at0 : Int) < s.size := by omega
      have a1 : (0 : Int) ≤ (at0 : Int) := by omega
      have a2 : (at0 : Int) + 16 ≤ s.size := by omega
      have a3 : IntKind.i64.wrap ((at0 : Int) + 16) = (at0 : Int) + 16 := by rw [IntKind.wrap_i64]; omega
      have a4 : min ((at0 : Int) + 16) (s.size : Int) = (at0 : Int) + 16 := by omega
      have a5 : (at0 : Int) ≤ (at0 : Int) + 16 := by omega
      have a6 : (0 : Int) ≤ (at0 : Int) + 16 := by omega
      have a7 : ((at0 : Int) + 16).toNat = at0 + 16 := by omega
      have a8 : at0 ≤ s.size := by omega
      have a9 : at0 + 16 ≤ s.size := by omega
      have hsT : (Ws T).size = 5 := by rw [Ws_size, hlT]
      go_wp2_with fail
      clear HG HHB HC hblt hz hlG hlr
      have hS0 : TagS p [h0, h1, h2, h3, h4] [r0, r1, r2, r3, r4] wr.drew := ⟨hb6, hb5⟩
      have hz1 : Blk wr.drew w.heap.size (Bs (zeros 16)) 53 := hb4
      have bel1 : Below w.heap.size w wr.drew := hbel.drew
      refine wp_region_last (S := TagS p [h0, h1, h2, h3, h4] [r0, r1, r2, r3, r4]) (l := 13) (by kernel_rfl) ?_
      clear c0 c1 c2 c3 c4 d0 d1 d2 d3 d4 hb4 hb5 hb6 hbel
      generalize World.drew wr = wd at hS0 hz1 bel1 ⊢
      refine wpAnyL_take (i := 1) (v := ?v1) rfl (by kernel_rfl) (by kernel_rfl) (by kernel_rfl) (by kernel_rfl) (by kernel_rfl) (fun _ _ _ h => h) (Or.inl ⟨by rfl, ?hy1⟩) hS0 ?rest1
      case hy1 => (intro wx hSx; clear hSx; go_simp; try (with_reducible rfl))
      refine wpAnyL_take (i := 2) (v := ?v2) rfl (by kernel_rfl) (by kernel_rfl) (by kernel_rfl) (by kernel_rfl) (by kernel_rfl) (fun _ _ _ h => h) (Or.inl ⟨by rfl, ?hy2⟩) hS0 ?rest2
      case hy2 => (intro wx hSx; clear hSx; go_simp; try (with_reducible rfl))
      refine wpAnyL_take (i := 3) (v := ?v3) rfl (by kernel_rfl) (by kernel_rfl) (by kernel_rfl) (by kernel_rfl) (by kernel_rfl) (fun _ _ _ h => h) (Or.inl ⟨by rfl, ?hy3⟩) hS0 ?rest3
      case hy3 => (intro wx hSx; clear hSx; go_simp; try (with_reducible rfl))
      refine wpAnyL_take (i := 4) (v := ?v4) rfl (by kernel_rfl) (by kernel_rfl) (by kernel_rfl) (by kernel_rfl) (by kernel_rfl) (fun _ _ _ h => h) (Or.inl ⟨by rfl, ?hy4⟩) hS0 ?rest4
      case hy4 => (intro wx hSx; clear hSx; go_simp; try (with_reducible rfl))
      refine wpAnyL_take (i := 5) (v := ?v5) rfl (by kernel_rfl) (by kernel_rfl) (by kernel_rfl) (by kernel_rfl) (by kernel_rfl) (fun _ _ _ h => h) (Or.inl ⟨by rfl, ?hy5⟩) hS0 ?rest5
      case hy5 => (intro wx hSx; clear hSx; go_simp; try (with_reducible rfl))
      refine wpAnyL_take (i := 6) (v := ?v6) rfl (by kernel_rfl) (by kernel_rfl) (by kernel_rfl) (by kernel_rfl) (by kernel_rfl) (fun _ _ _ h => h) (Or.inl ⟨by rfl, ?hy6⟩) hS0 ?rest6
      case hy6 => (intro wx hSx; clear hSx; go_simp; try (with_reducible rfl))
      refine wpAnyL_take (i := 7) (v := ?v7) rfl (by kernel_rfl) (by kernel_rfl) (by kernel_rfl) (by kernel_rfl) (by kernel_rfl) (fun _ _ _ h => h) (Or.inl ⟨by rfl, ?hy7⟩) hS0 ?rest7
      case hy7 => (intro wx hSx; clear hSx; go_simp; try (with_reducible rfl))
      refine wpAnyL_take (i := 8) (v := ?v8) rfl (by kernel_rfl) (by kernel_rfl) (by kernel_rfl) (by kernel_rfl) (by kernel_rfl) (fun _ _ _ h => h) (Or.inl ⟨by rfl, ?hy8⟩) hS0 ?rest8
      case hy8 => (intro wx hSx; clear hSx; go_simp; try (with_reducible rfl))
      refine wpAnyL_take (i := 0) (v := ?v0) rfl (by kernel_rfl) (by kernel_rfl) (by kernel_rfl) (by kernel_rfl) (by kernel_rfl) (fun _ _ _ h => h) (Or.inl ⟨by rfl, ?hy0⟩) hS0 ?rest0
      case hy0 => (intro wx hSx; obtain ⟨k1, k2⟩ := hSx; obtain ⟨c0, c1, c2, c3, c4⟩ := cells5 k1; obtain ⟨d0, d1, d2, d3, d4⟩ := cells5 k2; clear k1 k2; go_simp; try (with_reducible rfl))
      refine wpAnyL_take (i := 11) (v := ?v11) rfl (by kernel_rfl) (by kernel_rfl) (by kernel_rfl) (by kernel_rfl) (by kernel_rfl) (fun _ _ _ h => h) (Or.inl ⟨by rfl, ?hy11⟩) hS0 ?rest11
      case hy11 => (intro wx hSx; obtain ⟨k1, k2⟩ := hSx; obtain ⟨c0, c1, c2, c3, c4⟩ := cells5 k1; obtain ⟨d0, d1, d2, d3, d4⟩ := cells5 k2; clear k1 k2; go_simp; try (with_reducible rfl))
      refine wpAnyL_one (i := 9) (by kernel_rfl) rfl (fun K hK => ?_)
      go_simp
      go_wp2_with (go_at_call 45; refine (HPc.out _).mono ?_; rintro e x0 ⟨rfl, k0⟩)
      have hS1 : TagS p [h0, h1, h2, h3, h4] [r0, r1, r2, r3, r4] x0 := ⟨hS0.1.keep k0, hS0.2.keep k0⟩
      have hz2 := hz1.keep k0
      have bel2 := bel1.trans (k0.mono bel1.size)
      refine hK.out _ _ hS1 ?_
      clear hK K hS0 hz1 bel1 k0
      try simp only [Act.put, List.setIfInBounds_toArray, List.set_cons_zero, List.set_cons_succ]
      refine wpAnyL_one (i := 10) (by kernel_rfl) rfl (fun K hK => ?_)
      go_simp
      go_wp2_with (go_at_call 44; refine (HPl.out _).mono ?_; rintro e x1 ⟨rfl, k1⟩)
      have hS2 : TagS p [h0, h1, h2, h3, h4] [r0, r1, r2, r3, r4] x1 := ⟨hS1.1.keep k1, hS1.2.keep k1⟩
      have hz3 := hz2.keep k1
      have bel3 := bel2.trans (k1.mono bel2.size)
      refine hK.out _ _ hS2 ?_
      clear hK K hS1 hz2 bel2 k1
      try simp only [Act.put, List.setIfInBounds_toArray, List.set_cons_zero, List.set_cons_succ]
      refine wpAnyL_one (i := 12) (by kernel_rfl) rfl (fun K hK => ?_)
      go_simp
      go_wp2_with (go_at_call 43; refine (HTm.out _).mono ?_; rintro e x2 ⟨rfl, k2⟩)
      have hS3 : TagS p [h0, h1, h2, h3, h4] [r0, r1, r2, r3, r4] x2 := ⟨hS2.1.keep k2, hS2.2.keep k2⟩
      have hz4 := hz3.keep k2
      have bel4 := bel3.trans (k2.mono bel3.size)
      refine hK.out _ _ hS3 ?_
      clear hK K hS2 hz3 bel3 k2
      try simp only [Act.put, List.setIfInBounds_toArray, List.set_cons_zero, List.set_cons_succ]
      refine wpAnyL_last (by kernel_rfl) rfl (by kernel_rfl) (fun K hK => ?_)
      have hst := storeRow (l := T) hS3.1 (by rw [hlT]; rfl)
      go_simp
      refine hK.out _ _ ?_
      clear hK K
      go_wp2
      go_roundw
      case rel =>
        refine ⟨j + 1, by have := HAT.out; omega, int_eq (by have := HAT.out; omega), hS3.2.other (by omega) _, ?_, hz4.other (by omega) _, below_setRow bel4 (by omega) _⟩
        rw [show Cc.tagTo [r0, r1, r2, r3, r4] s (j + 1) = T from HT.out]; exact hS3.1.row _
      case measure => simp [intOf]; have := HAT.out; omega
    · have hj' : 16 * j = s.size := by omega
      have hj2 : s.size / 16 = j := by omega
      have hlH : (Cc.tagTo [r0, r1, r2, r3, r4] s j).length = 5 := Cc.tagTo_length _ _ _
      rw [hj2] at HG
      generalize Cc.tagTo [r0, r1, r2, r3, r4] s j = H at hb6 HG hlH
      obtain ⟨h0, h1, h2, h3, h4, rfl⟩ := list5 H hlH
      obtain ⟨c0, c1, c2, c3, c4⟩ := cells5 hb6
      have HLw : Hid (∀ wx : World, Calls Try.prog 47 #[.agg #[.int .u64 (U h0), .int .u64 (U h1), .int .u64 (U h2), .int .u64 (U h3), .int .u64 (U h4)]] wx fun e w' => e = .returned (.agg (Ws (Cc.lowest [h0, h1, h2, h3, h4]))) ∧ Below wx.heap.size wx w') := fun wx => lowest_lit _ _ _ _ _ wx
      have HTe : Hid (∀ wx : World, Calls Try.prog 46 #[.agg (Ws (Cc.lowest [h0, h1, h2, h3, h4])), .agg (Ws [s0, s1])] wx fun e w' => e = .returned (.agg (Bs (Cc.tellSum (Cc.lowest [h0, h1, h2, h3, h4]) s0 s1))) ∧ Below wx.heap.size wx w') := fun wx => tellSum_any _ s0 s1 wx (by rw [Cc.lowest_length]; rfl)
      rw [← show G = _ from HG.out] at HTe
      generalize Cc.lowest [h0, h1, h2, h3, h4] = L at HLw HTe
      clear HG
      have i32 : (16 : Int) ≤ cap := by omega
      have hsG : (Bs G).size = 16 := by rw [Bs_size, hlG]
      have i33 : ¬ cap = 16 := by omega
      have hcw : Hid (∀ wx : World, Below w.heap.size w wx → ∀ i, i < 16 → wx.cell? ⟨b, off + 16 + i, none⟩ = some (.int .u8 (f (16 + i)).toNat)) := fun wx hw i hi => by
        rw [hw.cell (p := ⟨b, off + 16 + i, none⟩) hblt, Nat.add_assoc]; exact HC.out (16 + i) (by omega)
      go_wp2_with fail
      go_region_with (first
        | (go_at_call 47; refine (HLw.out _).mono ?_; rintro e w2 ⟨rfl, k2⟩; have hz2 : Blk w2 _ _ _ := Blk.keep (w := wr.drew) hb4 k2; have b2 := Below.trans (Below.drew hbel) (Below.mono k2 hbel.size))
        | (go_at_call 42; refine (HHB.out _ ?_).mono ?_; exact hcw.out _ b2; rintro e w3 ⟨rfl, k3⟩; have hz3 : Blk w3 _ _ _ := Blk.keep hz2 k3; have b3 := Below.trans b2 (Below.mono k3 b2.size))
        | (go_at_call 46; refine (HTe.out _).mono ?_; rintro e w4 ⟨rfl, k4⟩; have hz4 : Blk w4 _ _ _ := Blk.keep hz3 k4; have b4 := Below.trans b3 (Below.mono k4 b3.size); have hst := storeRowB (l := G) hz4 (by rw [hlG]; rfl)))
      all_goals
        go_wp2
        refine bodyPost_ret (v := .agg (Bs G)) ?_ rfl ⟨rfl, below_setRow b4 (Nat.le_refl _) _⟩
        exact results_cell_row rfl _ _ w.heap.size 53 _ (0, 0) _ rfl (hz4.row _) Try.underlying53 rfl (by rw [hsG]; exact Try.info16b)

end Go.Proofs.Ytclpbaokadfhhaa
