/- Contract of cipher.piece. -/
import Derived.Test.YtclpbaokadfhhaaCSmall
namespace Go.Proofs.Ytclpbaokadfhhaa
open Go.RowKit

namespace Cc
def pieceL (l : List UInt8) : List UInt8 := if l.length = 16 then l else (l ++ zeros (16 - l.length)).set l.length 1
/-- the words of a row of 16 bytes, as a number -/
def numL (l : List UInt8) (above : BitVec 64) : List (BitVec 64) := numberOf (wdL (fun i => l.getD i 0) 8) (wdL (fun i => l.getD (8 + i) 0) 8) above
def piece (l : List UInt8) : List (BitVec 64) := numL (pieceL l) (if l.length = 16 then 1 else 0)
end Cc

theorem halves_row (b t : Nat) (l : List UInt8) (w : World) (hb : Blk w b (Bs l) t) (hl : l.length = 16) :
    Calls Try.prog 42 #[.slice (some ⟨b, 0, none⟩) 16 16] w fun e w' => e = .returned (.agg (Ws [Cc.wdL (fun i => l.getD i 0) 8, Cc.wdL (fun i => l.getD (8 + i) 0) 8])) ∧ Below w.heap.size w w' :=
  halves_any b 0 16 16 (fun i => l.getD i 0) w (by omega) (by omega) (fun i hi => by rw [Nat.zero_add, hb.cell, Bs_at _ _ (by omega)])

set_option maxRecDepth 100000 in
set_option maxHeartbeats 1000000 in
theorem piece_any (s : ByteArray) (w : World) (hs : s.size ≤ 16) :
    Calls Try.prog 45 #[.string s] w fun e w' => e = .returned (.agg (Ws (Cc.piece s.data.toList))) ∧ Below w.heap.size w w' := by
  have hlen : s.data.toList.length = s.size := by simp
  have hz := zero16b
  have hcp := Lib.run_copy_row_string (P := Try.prog) ((w.alloc (.cells (Ws [0, 0, 0, 0, 0]) 69)).alloc (.cells (Bs (zeros 16)) 53)) 26 9 3 5 (w.heap.size + 1) 0 16 16 s (Bs (zeros 16)) 53 Try.underlying26 Try.infoByte1 (heap_alloc2_new w _ _) (by omega) (by rw [Bs_size, zeros_length]; omega)
  have hra := World.setRow_alloc_new (w.alloc (.cells (Ws [0, 0, 0, 0, 0]) 69)) (Bs (zeros 16)) (Bs (s.data.toList ++ zeros (16 - s.size))) 53
  rw [show (w.alloc (.cells (Ws [0, 0, 0, 0, 0]) 69)).heap.size = w.heap.size + 1 by simp] at hra
  rw [copied s 16, hra, ← Z5] at hcp
  clear hra
  have hL : (s.data.toList ++ zeros (16 - s.size)).length = 16 := by simp [zeros_length]; omega
  by_cases h16 : s.size = 16
  · have HP : Hid (Cc.piece s.data.toList = Cc.numL (s.data.toList ++ zeros (16 - s.size)) 1) := by
      have : Cc.piece s.data.toList = Cc.numL (s.data.toList ++ zeros (16 - s.size)) 1 := by
        unfold Cc.piece Cc.pieceL; rw [if_pos (by omega), if_pos (by omega), h16]; simp [zeros]
      exact this
    generalize s.data.toList ++ zeros (16 - s.size) = L0 at hcp hL HP
    generalize Cc.piece s.data.toList = R at HP ⊢
    have hb0 : Blk ((w.alloc (.cells #[.int .u64 0, .int .u64 0, .int .u64 0, .int .u64 0, .int .u64 0] 69)).alloc (.cells (Bs L0) 53)) w.heap.size (Ws [0, 0, 0, 0, 0]) 69 := heap_alloc2_old w _ _
    have hb1 : Blk ((w.alloc (.cells #[.int .u64 0, .int .u64 0, .int .u64 0, .int .u64 0, .int .u64 0] 69)).alloc (.cells (Bs L0) 53)) (w.heap.size + 1) (Bs L0) 53 := heap_alloc2_new w _ _
    have hbel : Below w.heap.size w ((w.alloc (.cells #[.int .u64 0, .int .u64 0, .int .u64 0, .int .u64 0, .int .u64 0] 69)).alloc (.cells (Bs L0) 53)) := ((Below.refl _ _).alloc (Nat.le_refl _) _).alloc (by simp) _
    have HH := halves_row (w.heap.size + 1) 53 L0 _ hb1 hL
    have HH' : Hid (Calls Try.prog 42 #[.slice (some ⟨w.heap.size + 1, 0, none⟩) 16 16] ((w.alloc (.cells #[.int .u64 0, .int .u64 0, .int .u64 0, .int .u64 0, .int .u64 0] 69)).alloc (.cells (Bs L0) 53)) fun e w' => e = .returned (.agg (Ws [Cc.wdL (fun i => L0.getD i 0) 8, Cc.wdL (fun i => L0.getD (8 + i) 0) 8])) ∧ Below ((w.alloc (.cells #[.int .u64 0, .int .u64 0, .int .u64 0, .int .u64 0, .int .u64 0] 69)).alloc (.cells (Bs L0) 53)).heap.size ((w.alloc (.cells #[.int .u64 0, .int .u64 0, .int .u64 0, .int .u64 0, .int .u64 0] 69)).alloc (.cells (Bs L0) 53)) w') := HH
    clear HH
    have HN : Hid (∀ wx : World, Calls Try.prog 40 #[.agg (Ws [Cc.wdL (fun i => L0.getD i 0) 8, Cc.wdL (fun i => L0.getD (8 + i) 0) 8]), .int .u64 1] wx fun e w' => e = .returned (.agg (Ws (Cc.numL L0 1))) ∧ Below wx.heap.size wx w') := fun wx => numberOf_any _ _ 1 wx
    have hlR : (Cc.numL L0 1).length = 5 := rfl
    generalize Cc.numL L0 1 = R2 at HN HP hlR
    generalize Cc.wdL (fun i => L0.getD i 0) 8 = lo at HH' HN
    generalize Cc.wdL (fun i => L0.getD (8 + i) 0) 8 = hi at HH' HN
    have i16 : (s.size : Int) = 16 := by omega
    go_enter Try.func45, Try.ntmps45
    go_wp2_with fail
    generalize (w.alloc (.cells #[.int .u64 0, .int .u64 0, .int .u64 0, .int .u64 0, .int .u64 0] 69)).alloc (.cells (Bs L0) 53) = w1 at hb0 hb1 hbel HH' ⊢
    refine HH'.out.mono ?_
    rintro e w2 ⟨rfl, hb2⟩
    have hq2 := hb0.keep hb2
    have hbel2 := hbel.trans (hb2.mono hbel.size)
    go_wp2_with fail
    refine (HN.out w2).mono ?_
    rintro e w3 ⟨rfl, hb3⟩
    have hq3 := hq2.keep hb3
    have hbel3 := hbel2.trans (hb3.mono hbel2.size)
    have hst := storeRow (l := R2) hq3 (by rw [hlR, Ws_size]; rfl)
    have hs5 : (Ws R2).size = 5 := by rw [Ws_size, hlR]
    go_wp2
    refine bodyPost_ret (v := .agg (Ws R2)) ?_ rfl ⟨by rw [show R = R2 from HP.out], below_setRow hbel3 (Nat.le_refl _) _⟩
    exact results_cell_row rfl _ _ w.heap.size 69 _ (0, 0) _ rfl (hq3.row _) Try.underlying69 rfl (by rw [hs5]; exact Try.info5)
  · have HP : Hid (Cc.piece s.data.toList = Cc.numL ((s.data.toList ++ zeros (16 - s.size)).set s.size 1) 0) := by
      have : Cc.piece s.data.toList = Cc.numL ((s.data.toList ++ zeros (16 - s.size)).set s.size 1) 0 := by
        unfold Cc.piece Cc.pieceL; rw [if_neg (by omega), if_neg (by omega), hlen]
      exact this
    generalize s.data.toList ++ zeros (16 - s.size) = L0 at hcp hL HP
    generalize Cc.piece s.data.toList = R at HP ⊢
    have hb0 : Blk ((w.alloc (.cells #[.int .u64 0, .int .u64 0, .int .u64 0, .int .u64 0, .int .u64 0] 69)).alloc (.cells (Bs L0) 53)) w.heap.size (Ws [0, 0, 0, 0, 0]) 69 := heap_alloc2_old w _ _
    have hb1 : Blk ((w.alloc (.cells #[.int .u64 0, .int .u64 0, .int .u64 0, .int .u64 0, .int .u64 0] 69)).alloc (.cells (Bs L0) 53)) (w.heap.size + 1) (Bs L0) 53 := heap_alloc2_new w _ _
    have hbel : Below w.heap.size w ((w.alloc (.cells #[.int .u64 0, .int .u64 0, .int .u64 0, .int .u64 0, .int .u64 0] 69)).alloc (.cells (Bs L0) 53)) := ((Below.refl _ _).alloc (Nat.le_refl _) _).alloc (by simp) _
    have HN : Hid (∀ wx : World, Calls Try.prog 40 #[.agg (Ws [Cc.wdL (fun i => (L0.set s.size 1).getD i 0) 8, Cc.wdL (fun i => (L0.set s.size 1).getD (8 + i) 0) 8]), .int .u64 0] wx fun e w' => e = .returned (.agg (Ws (Cc.numL (L0.set s.size 1) 0))) ∧ Below wx.heap.size wx w') := fun wx => numberOf_any _ _ 0 wx
    have hlR : (Cc.numL (L0.set s.size 1) 0).length = 5 := rfl
    generalize Cc.numL (L0.set s.size 1) 0 = R2 at HN HP hlR
    have i16 : ¬ (s.size : Int) = 16 := by omega
    have i17 : (s.size : Int) < 16 := by omega
    go_enter Try.func45, Try.ntmps45
    have hc := hb1.cell s.size
    rw [Bs_at _ _ (by omega)] at hc
    have hf := hb1.frozen s.size
    go_wp2_with fail
    have hset := Bs_set L0 s.size 1
    rw [show (((1 : UInt8).toNat : Nat) : Int) = 1 from rfl] at hset
    rw [hset]
    clear hc hf hset hb0 hb1 hbel hcp
    have hL1 : (L0.set s.size 1).length = 16 := by rw [List.length_set, hL]
    generalize L0.set s.size 1 = L1 at HN HP hL1 ⊢
    have hb0 : Blk ((w.alloc (.cells #[.int .u64 0, .int .u64 0, .int .u64 0, .int .u64 0, .int .u64 0] 69)).alloc (.cells (Bs L1) 53)) w.heap.size (Ws [0, 0, 0, 0, 0]) 69 := heap_alloc2_old w _ _
    have hb1 : Blk ((w.alloc (.cells #[.int .u64 0, .int .u64 0, .int .u64 0, .int .u64 0, .int .u64 0] 69)).alloc (.cells (Bs L1) 53)) (w.heap.size + 1) (Bs L1) 53 := heap_alloc2_new w _ _
    have hbel : Below w.heap.size w ((w.alloc (.cells #[.int .u64 0, .int .u64 0, .int .u64 0, .int .u64 0, .int .u64 0] 69)).alloc (.cells (Bs L1) 53)) := ((Below.refl _ _).alloc (Nat.le_refl _) _).alloc (by simp) _
    generalize (w.alloc (.cells #[.int .u64 0, .int .u64 0, .int .u64 0, .int .u64 0, .int .u64 0] 69)).alloc (.cells (Bs L1) 53) = w1 at hb0 hb1 hbel ⊢
    refine (halves_row (w.heap.size + 1) 53 L1 _ hb1 hL1).mono ?_
    rintro e w2 ⟨rfl, hb2⟩
    generalize Cc.wdL (fun i => L1.getD i 0) 8 = lo at HN ⊢
    generalize Cc.wdL (fun i => L1.getD (8 + i) 0) 8 = hi at HN ⊢
    have hq2 := hb0.keep hb2
    have hbel2 := hbel.trans (hb2.mono hbel.size)
    go_wp2_with fail
    refine (HN.out w2).mono ?_
    rintro e w3 ⟨rfl, hb3⟩
    have hq3 := hq2.keep hb3
    have hbel3 := hbel2.trans (hb3.mono hbel2.size)
    have hst := storeRow (l := R2) hq3 (by rw [hlR, Ws_size]; rfl)
    have hs5 : (Ws R2).size = 5 := by rw [Ws_size, hlR]
    go_wp2
    refine bodyPost_ret (v := .agg (Ws R2)) ?_ rfl ⟨by rw [show R = R2 from HP.out], below_setRow hbel3 (Nat.le_refl _) _⟩
    exact results_cell_row rfl _ _ w.heap.size 69 _ (0, 0) _ rfl (hq3.row _) Try.underlying69 rfl (by rw [hs5]; exact Try.info5)

end Go.Proofs.Ytclpbaokadfhhaa
