/- Several texts as one: Lt1, Lt2, Lt6, Lt7. -/
import Derived.Test.YtclpbaokadfhhaaGreatDoorUd
import Derived.Test.YtclpbaokadfhhaaGreatDoorZm
import Derived.Test.YtclpbaokadfhhaaGreatDoorXm
import Derived.Test.YtclpbaokadfhhaaGreatDoorXl
namespace Go.Proofs.YtclpbaokadfhhaaGreatDoor
open Go.RowKit

set_option maxRecDepth 100000 in
theorem T_insist (x : Int) (w : World) :
    Calls Tryz.prog 128 #[.bool true, .int .i64 x] w fun e w' => e = .returned (.tuple #[]) ∧ w' = w := by
  go_enter Tryz.func128, Tryz.ntmps128
  go_wp2
  go_end0
  exact ⟨rfl, rfl⟩

theorem But.drewN {q : Nat} {a w : World} (h : But q a w) (n : Nat) : But q a (w.drewN n) := ⟨below_drewN h.below n, h.other⟩
def Rd (w : World) (q : Nat) (L : ByteArray) (k : Nat) : Prop := Blk w q #[.string L, .int .i64 (k : Int)] 138
theorem Rd.at {w : World} {q k : Nat} {L : ByteArray} (h : Rd w q L k) : w.cell? ⟨q, 0, none⟩ = some (.string L) ∧ w.cell? ⟨q, 1, none⟩ = some (.int .i64 (k : Int)) := ⟨Blk.cell h 0, Blk.cell h 1⟩

set_option maxRecDepth 100000 in
set_option maxHeartbeats 1000000 in
theorem T_next (q k n : Nat) (L : ByteArray) (w : World) (h : Rd w q L k) (hn : k + n ≤ L.size) (hL : L.size ≤ 1000000) :
    Calls Tryz.prog 129 #[.pointer (some ⟨q, 0, none⟩), .int .i64 (n : Int)] w fun e w' => e = .returned (.string (L.extract k (k + n))) ∧ Rd w' q L (k + n) ∧ But q w w' := by
  obtain ⟨c0, c1⟩ := h.at
  have HI : Hid (∀ wx : World, Calls Tryz.prog 128 #[.bool true, .int .i64 5] wx fun e w' => e = .returned (.tuple #[]) ∧ w' = wx) := fun wx => T_insist 5 wx
  have d1 : decide ((n : Int) ≤ (L.size : Int) - (k : Int)) = true := decide_eq_true (by omega)
  have w1 : IntKind.i64.wrap ((L.size : Int) - (k : Int)) = (L.size : Int) - (k : Int) := by rw [IntKind.wrap_i64]; omega
  have w2 : IntKind.i64.wrap ((k : Int) + (n : Int)) = (k : Int) + (n : Int) := by rw [IntKind.wrap_i64]; omega
  go_enter Tryz.func129, Tryz.ntmps129
  go_wp2_with fail
  have h1 : Rd w.drew q L k := Blk.drew h
  have hb : But q w w.drew := (But.refl q w).drew
  go_region_with (first | (go_at_call 128; refine (HI.out _).mono ?_; rintro e w' ⟨rfl, rfl⟩))
  all_goals
    clear c0 c1 HI d1 w1
    generalize w.drew = wd at h1 hb ⊢
    obtain ⟨c0, c1⟩ := h1.at
    have f1 := Blk.frozen h1 1
    have h2 : Rd (wd.setCell ⟨q, 1, none⟩ (.int .i64 ((k : Int) + (n : Int)))) q L (k + n) := Blk.setAt h1 1 _ (by rw [Int.natCast_add]; rfl)
    replace hb := hb.set 1 (.int .i64 ((k : Int) + (n : Int)))
    obtain ⟨e0, e1⟩ := h2.at
    rw [Int.natCast_add] at e1
    have d2 : (k : Int) ≤ (k : Int) + (n : Int) := by omega
    have d3 : (k : Int) + (n : Int) ≤ (L.size : Int) := by omega
    have t1 : ((k : Int) + (n : Int)).toNat = k + n := by omega
    go_wp2_with fail
    clear c0 c1 f1 h1
    generalize wd.setCell ⟨q, 1, none⟩ (.int .i64 ((k : Int) + (n : Int))) = we at h2 hb e0 e1 ⊢
    go_quiet (fail)
    go_wp2
    go_ret
    exact ⟨rfl, h2, hb.drewN _⟩

set_option maxRecDepth 100000 in
set_option maxHeartbeats 1000000 in
theorem T_soFar (q k : Nat) (L : ByteArray) (w : World) (h : Rd w q L k) (hn : k ≤ L.size) (_hL : L.size ≤ 1000000) :
    Calls Tryz.prog 132 #[.pointer (some ⟨q, 0, none⟩)] w fun e w' => e = .returned (.string (L.extract 0 k)) ∧ Below w.heap.size w w' := by
  obtain ⟨c0, c1⟩ := h.at
  have d2 : (0 : Int) ≤ (k : Int) := by omega
  have d3 : (k : Int) ≤ (L.size : Int) := by omega
  have t1 : (k : Int).toNat = k := by omega
  have hb : ∀ m, Below w.heap.size w (w.drewN m) := fun m => below_drewN (Below.refl _ _) m
  go_enter Tryz.func132, Tryz.ntmps132
  go_wp2_with fail
  go_quiet (fail)
  go_wp2
  go_ret
  exact ⟨rfl, by first | exact Below.refl _ _ | exact hb _⟩
end Go.Proofs.YtclpbaokadfhhaaGreatDoor

namespace Go.Proofs.YtclpbaokadfhhaaGreatDoor
open Go.RowKit

set_option maxRecDepth 100000 in
set_option maxHeartbeats 1000000 in
theorem T_count (q k m : Nat) (L : ByteArray) (f : Nat → UInt8) (w : World) (h : Rd w q L k) (hn : k + 4 ≤ L.size) (hL : L.size ≤ 1000000)
    (hf : ∀ i, i < 4 → (L.extract k (k + 4)).data.toList.getD i 0 = f i) (hV : V (Cc.wd f 4) = (m : Int)) (hm : m ≤ 10000) :
    Calls Tryz.prog 131 #[.pointer (some ⟨q, 0, none⟩)] w fun e w' => e = .returned (.int .i64 (m : Int)) ∧ Rd w' q L (k + 4) ∧ But q w w' := by
  have HN := T_next q k 4 L w h hn hL
  have hs4 : (L.extract k (k + 4)).size = 4 := by rw [ByteArray.size_extract]; omega
  replace hV : Hid (V (Cc.wd f 4) = (m : Int)) := hV
  generalize L.extract k (k + 4) = B at HN hf hs4
  replace HN : Hid (Calls Tryz.prog 129 #[.pointer (some ⟨q, 0, none⟩), .int .i64 4] w fun e w' => e = .returned (.string B) ∧ Rd w' q L (k + 4) ∧ But q w w') := HN
  have HI : Hid (∀ wx : World, Calls Tryz.prog 128 #[.bool true, .int .i64 5] wx fun e w' => e = .returned (.tuple #[]) ∧ w' = wx) := fun wx => T_insist 5 wx
  clear hn
  replace hs4 : Hid (B.size = 4) := hs4
  go_enter Tryz.func131, Tryz.ntmps131
  go_wp2_with fail
  refine HN.out.mono ?_
  rintro e w1 ⟨rfl, h1, hb1⟩
  obtain ⟨cap, w3, hcv, ho, b3⟩ := bytesOf B w1.heap.size w1 (Nat.le_refl _)
  replace ho := ho.at
  rw [hs4.out] at hcv
  have hlen : B.data.toList.length = 4 := by rw [← hs4.out]; simp
  have h3 : Rd w3 q L (k + 4) := Blk.keep h1 b3
  have hb3 := hb1.keep b3 (Nat.le_of_lt (Blk.lt h1))
  clear HN h
  go_wp2_with fail
  go_loop [3, 10] (fun x i => ∃ j : Nat, j ≤ 4 ∧ i = .int .i64 j ∧ x = .int .u32 (V (Cc.wd f j))) (fun _ i => 4 - (intOf i).toNat)
  case atStart => exact ⟨0, Nat.zero_le _, rfl, rfl⟩
  case round =>
    obtain ⟨j, hj, rfl, rfl⟩ := hrel
    by_cases hlt : j < 4
    · have hc := ho.cell j (by omega)
      rw [hf j hlt] at hc
      clear hf
      have HW : Hid _ := cwd_step (Cc.wd f j) (f j) j
      go_wp2_with fail
      go_round
      case rel => exact ⟨j + 1, by omega, by go_num, int_eq HW.out⟩
      case measure => simp [intOf]; omega
    · have : j = 4 := by omega
      subst this
      rw [hV.out]
      have d1 : (m : Int) ≤ 10000 := by omega
      go_wp2_with fail
      refine (HI.out _).mono ?_
      rintro e w' ⟨rfl, rfl⟩
      go_wp2
      go_ret
      exact ⟨rfl, h3, hb3⟩
end Go.Proofs.YtclpbaokadfhhaaGreatDoor

namespace Go.Proofs.YtclpbaokadfhhaaGreatDoor
open Go.RowKit
theorem But.setNew {q b : Nat} {a w : World} (h : But q a w) (hq : q < a.heap.size) (hb : a.heap.size ≤ b) (i : Nat) (v : Value) : But q a (w.setCell ⟨b, i, none⟩ v) :=
  ⟨h.below.setCell (p := ⟨b, i, none⟩) (by show q ≤ b; omega) _, fun j hj hne => by
    rw [← h.other j hj hne]
    exact ((Below.refl b w).setCell (p := ⟨b, i, none⟩) (Nat.le_refl _) v).block j (by omega)⟩
theorem Ss_set (l : List ByteArray) (i : Nat) (x : ByteArray) : (Ss l).setIfInBounds i (.string x) = Ss (l.set i x) := by
  unfold Ss
  rw [List.setIfInBounds_toArray, List.map_set]
namespace Le
def piece (L : ByteArray) (k i : Nat) : ByteArray := L.extract (k + 48 * i) (k + 48 * i + 48)
def pcs (L : ByteArray) (k n j : Nat) : List ByteArray := (List.range n).map fun i => if i < j then piece L k i else ⟨#[]⟩
theorem pcs_length (L : ByteArray) (k n j : Nat) : (pcs L k n j).length = n := by unfold pcs; rw [List.length_map, List.length_range]
theorem pcs_at (L : ByteArray) (k n j i : Nat) (h : i < n) : (pcs L k n j)[i]? = some (if i < j then piece L k i else ⟨#[]⟩) := by
  unfold pcs
  rw [List.getElem?_map, List.getElem?_range h]; rfl
theorem pcs_zero (L : ByteArray) (k n : Nat) : pcs L k n 0 = List.replicate n ⟨#[]⟩ := by
  apply List.ext_getElem?
  intro i
  by_cases h : i < n
  · rw [pcs_at _ _ _ _ _ h, List.getElem?_replicate, if_pos h, if_neg (by omega)]
  · rw [List.getElem?_eq_none (by rw [pcs_length]; omega), List.getElem?_eq_none (by rw [List.length_replicate]; omega)]
theorem pcs_set (L : ByteArray) (k n j : Nat) (h : j < n) : (pcs L k n j).set j (piece L k j) = pcs L k n (j + 1) := by
  apply List.ext_getElem?
  intro i
  by_cases hi : i < n
  · rw [pcs_at _ _ _ _ _ hi]
    by_cases e : j = i
    · subst e
      rw [List.getElem?_set_self (by rw [pcs_length]; exact h), if_pos (by omega)]
    · rw [List.getElem?_set_ne e, pcs_at _ _ _ _ _ hi]
      by_cases c : i < j
      · rw [if_pos c, if_pos (by omega)]
      · rw [if_neg c, if_neg (by omega)]
  · rw [List.getElem?_eq_none (by rw [List.length_set, pcs_length]; omega), List.getElem?_eq_none (by rw [pcs_length]; omega)]
end Le
theorem mkS1 (w : World) : (Instr.makeSlice 25 (.int .i64 1) (.int .i64 1)).run Tryz.prog w = .ok (.slice (some ⟨w.heap.size, 0, none⟩) 1 1) (w.alloc (.cells (Ss (List.replicate 1 ⟨#[]⟩)) 9)) := by kernel_rfl
theorem mkS2 (w : World) : (Instr.makeSlice 25 (.int .i64 2) (.int .i64 2)).run Tryz.prog w = .ok (.slice (some ⟨w.heap.size, 0, none⟩) 2 2) (w.alloc (.cells (Ss (List.replicate 2 ⟨#[]⟩)) 9)) := by kernel_rfl
theorem mkS3 (w : World) : (Instr.makeSlice 25 (.int .i64 3) (.int .i64 3)).run Tryz.prog w = .ok (.slice (some ⟨w.heap.size, 0, none⟩) 3 3) (w.alloc (.cells (Ss (List.replicate 3 ⟨#[]⟩)) 9)) := by kernel_rfl
theorem mkS4 (w : World) : (Instr.makeSlice 25 (.int .i64 4) (.int .i64 4)).run Tryz.prog w = .ok (.slice (some ⟨w.heap.size, 0, none⟩) 4 4) (w.alloc (.cells (Ss (List.replicate 4 ⟨#[]⟩)) 9)) := by kernel_rfl
theorem mkS5 (w : World) : (Instr.makeSlice 25 (.int .i64 5) (.int .i64 5)).run Tryz.prog w = .ok (.slice (some ⟨w.heap.size, 0, none⟩) 5 5) (w.alloc (.cells (Ss (List.replicate 5 ⟨#[]⟩)) 9)) := by kernel_rfl
theorem mkS6 (w : World) : (Instr.makeSlice 25 (.int .i64 6) (.int .i64 6)).run Tryz.prog w = .ok (.slice (some ⟨w.heap.size, 0, none⟩) 6 6) (w.alloc (.cells (Ss (List.replicate 6 ⟨#[]⟩)) 9)) := by kernel_rfl
theorem mkS7 (w : World) : (Instr.makeSlice 25 (.int .i64 7) (.int .i64 7)).run Tryz.prog w = .ok (.slice (some ⟨w.heap.size, 0, none⟩) 7 7) (w.alloc (.cells (Ss (List.replicate 7 ⟨#[]⟩)) 9)) := by kernel_rfl
theorem mkS8 (w : World) : (Instr.makeSlice 25 (.int .i64 8) (.int .i64 8)).run Tryz.prog w = .ok (.slice (some ⟨w.heap.size, 0, none⟩) 8 8) (w.alloc (.cells (Ss (List.replicate 8 ⟨#[]⟩)) 9)) := by kernel_rfl
theorem mkS (n : Nat) (h1 : 1 ≤ n) (h : n ≤ 8) (w : World) : (Instr.makeSlice 25 (.int .i64 (n : Int)) (.int .i64 (n : Int))).run Tryz.prog w = .ok (.slice (some ⟨w.heap.size, 0, none⟩) n n) (w.alloc (.cells (Ss (List.replicate n ⟨#[]⟩)) 9)) := by
  have : n = 1 ∨ n = 2 ∨ n = 3 ∨ n = 4 ∨ n = 5 ∨ n = 6 ∨ n = 7 ∨ n = 8 := by omega
  rcases this with rfl | rfl | rfl | rfl | rfl | rfl | rfl | rfl
  · exact mkS1 w
  · exact mkS2 w
  · exact mkS3 w
  · exact mkS4 w
  · exact mkS5 w
  · exact mkS6 w
  · exact mkS7 w
  · exact mkS8 w

set_option maxRecDepth 100000 in
set_option maxHeartbeats 2000000 in
theorem T_shares (q k n : Nat) (L : ByteArray) (w : World) (h : Rd w q L k) (h1 : 1 ≤ n) (h8 : n ≤ 8) (hL : L.size ≤ 1000000) (hn : k + 1 + 48 * n ≤ L.size) (hb : (L.extract k (k + 1)).data.toList.getD 0 0 = UInt8.ofNat n) :
    Calls Tryz.prog 130 #[.pointer (some ⟨q, 0, none⟩)] w fun e w' => ∃ b : Nat, e = .returned (.slice (some ⟨b, 0, none⟩) n n) ∧ w.heap.size ≤ b ∧ Blk w' b (Ss (Le.pcs L (k + 1) n n)) 9 ∧ Rd w' q L (k + 1 + 48 * n) ∧ But q w w' := by
  have HN1 : Hid (Calls Tryz.prog 129 #[.pointer (some ⟨q, 0, none⟩), .int .i64 1] w fun e w' => e = .returned (.string (L.extract k (k + 1))) ∧ Rd w' q L (k + 1) ∧ But q w w') := T_next q k 1 L w h (by omega) hL
  have hs1 : (L.extract k (k + 1)).size = 1 := by rw [ByteArray.size_extract]; omega
  generalize L.extract k (k + 1) = B at HN1 hs1 hb
  have hby := byte_at B 0 (by omega)
  rw [hb] at hby
  clear hb
  have HI : Hid (∀ wx : World, Calls Tryz.prog 128 #[.bool true, .int .i64 5] wx fun e w' => e = .returned (.tuple #[]) ∧ w' = wx) := fun wx => T_insist 5 wx
  have hu : ((UInt8.ofNat n).toNat : Int) = (n : Int) := by rw [show (UInt8.ofNat n).toNat = n by simp; omega]
  generalize UInt8.ofNat n = x at hby hu
  have d1 : (n : Int) ≥ 1 := by omega
  have d2 : (n : Int) ≤ 8 := by omega
  have wn : IntKind.i64.wrap (n : Int) = (n : Int) := by rw [IntKind.wrap_i64]; omega
  have hq := Blk.lt h
  go_enter Tryz.func130, Tryz.ntmps130
  go_wp2_with fail
  refine HN1.out.mono ?_
  rintro e w1 ⟨rfl, g1, hb1⟩
  have hb0 := hb1
  clear HN1
  go_wp2_with fail
  try rw [hu]
  refine (HI.out _).mono ?_
  rintro e w1' ⟨rfl, rfl⟩
  have hm := mkS n h1 h8 w1'
  clear HI hby hs1
  go_wp2_with fail
  clear hm
  have hN := Blk.new w1' (Ss (List.replicate n ⟨#[]⟩)) 9
  rw [← Le.pcs_zero L (k + 1) n] at hN ⊢
  replace hb1 := hb1.alloc (Nat.le_of_lt (Blk.lt g1)) (.cells (Ss (Le.pcs L (k + 1) n 0)) 9)
  replace g1 : Rd (w1'.alloc (.cells (Ss (Le.pcs L (k + 1) n 0)) 9)) q L (k + 1) := Blk.alloc g1 _
  have hB : w.heap.size ≤ w1'.heap.size := hb0.below.size
  generalize w1'.alloc (.cells (Ss (Le.pcs L (k + 1) n 0)) 9) = w2 at hN hb1 g1 ⊢
  generalize w1'.heap.size = b at hN hB ⊢
  have hI0 : Hid (Blk w2 b (Ss (Le.pcs L (k + 1) n 0)) 9 ∧ Rd w2 q L (k + 1 + 48 * 0) ∧ But q w w2) := ⟨hN, g1, hb1⟩
  clear hN g1 hb1 h hb0
  have hqb : q < w.heap.size ∧ w.heap.size ≤ b := ⟨hq, hB⟩
  replace hqb : Hid (q < w.heap.size ∧ w.heap.size ≤ b) := hqb
  go_loopw [21] (fun i wr => ∃ j : Nat, i = .int .i64 j ∧ j ≤ n ∧ Hid (Blk wr b (Ss (Le.pcs L (k + 1) n j)) 9 ∧ Rd wr q L (k + 1 + 48 * j) ∧ But q w wr)) (fun i _ => n - (intOf i).toNat)
  case atStart => exact ⟨0, rfl, by omega, hI0⟩
  case round =>
    clear hI0
    obtain ⟨j, rfl, hj, hI⟩ := hrel
    by_cases hlt : j < n
    · have d3 : (j : Int) < (n : Int) := by omega
      have HN : Hid (Calls Tryz.prog 129 #[.pointer (some ⟨q, 0, none⟩), .int .i64 48] wr fun e w' => e = .returned (.string (Le.piece L (k + 1) j)) ∧ Rd w' q L (k + 1 + 48 * (j + 1)) ∧ But q wr w') := T_next q (k + 1 + 48 * j) 48 L wr hI.out.2.1 (by omega) hL
      go_wp2_with fail
      refine HN.out.mono ?_
      rintro e w3 ⟨rfl, g3, hb3⟩
      have hne : b ≠ q := by have := hqb.out; omega
      have hx := hb3.blk hI.out.1 hne
      have hc := hx.cell j
      rw [Ss_at _ _ (by rw [Le.pcs_length]; exact hlt)] at hc
      have hf := hx.frozen j
      have hx2 : Blk (w3.setCell ⟨b, j, none⟩ (.string (Le.piece L (k + 1) j))) b (Ss (Le.pcs L (k + 1) n (j + 1))) 9 := hx.setAt j _ (by rw [Ss_set, Le.pcs_set _ _ _ _ hlt])
      have hy2 : Rd (w3.setCell ⟨b, j, none⟩ (.string (Le.piece L (k + 1) j))) q L (k + 1 + 48 * (j + 1)) := Blk.below g3 ((Below.refl b w3).setCell (p := ⟨b, j, none⟩) (Nat.le_refl _) _) (by have := hqb.out; omega)
      have hz2 := (hI.out.2.2.trans hb3).setNew hqb.out.1 hqb.out.2 j (.string (Le.piece L (k + 1) j))
      have hI2 : Hid (Blk (w3.setCell ⟨b, j, none⟩ (.string (Le.piece L (k + 1) j))) b (Ss (Le.pcs L (k + 1) n (j + 1))) 9 ∧ Rd (w3.setCell ⟨b, j, none⟩ (.string (Le.piece L (k + 1) j))) q L (k + 1 + 48 * (j + 1)) ∧ But q w (w3.setCell ⟨b, j, none⟩ (.string (Le.piece L (k + 1) j)))) := ⟨hx2, hy2, hz2⟩
      clear hI HN g3 hb3 hx hx2 hy2 hz2
      go_wp2_with fail
      go_roundw
      case rel => exact ⟨j + 1, by go_num, by omega, hI2⟩
      case measure => simp [intOf]; omega
    · have hjn : j = n := by omega
      subst hjn
      have d3 : decide ((j : Int) < (j : Int)) = false := decide_eq_false (by omega)
      go_wp2
      go_ret
      exact ⟨b, rfl, hqb.out.2, hI.out.1, hI.out.2.1, hI.out.2.2⟩
end Go.Proofs.YtclpbaokadfhhaaGreatDoor

namespace Go.Proofs.YtclpbaokadfhhaaGreatDoor
open Go.RowKit
theorem Tryz.info84 : (Tryz.prog.info? 84).map (·.size) = some 7 := by kernel_rfl
def none84 : Array Value := #[.string ⟨#[]⟩, .slice none 0 0, .string ⟨#[]⟩, .string ⟨#[]⟩, .string ⟨#[]⟩, .string ⟨#[]⟩, .string ⟨#[]⟩]
theorem zero84 (w : World) : Sem.run Tryz.prog (zeroValue 84) w = .ok (.agg none84) w := by kernel_rfl
def prt (p : ByteArray) (s : Value) (a b c d e : ByteArray) : Array Value := #[.string p, s, .string a, .string b, .string c, .string d, .string e]
/-- what is held while a letter is taken apart -/
def PI (w : World) (q pb : Nat) (L : ByteArray) (k : Nat) (cs : Array Value) (O : List (Nat × Array Value × Nat)) (wr : World) : Prop :=
  Rd wr q L k ∧ Blk wr pb cs 84 ∧ (∀ x ∈ O, Blk wr x.1 x.2.1 x.2.2 ∧ x.1 ≠ q ∧ x.1 ≠ pb) ∧ Below w.heap.size w wr ∧ w.heap.size ≤ q ∧ q ≠ pb ∧ w.heap.size ≤ pb
theorem PI.next {w : World} {q pb : Nat} {L : ByteArray} {k k' : Nat} {cs : Array Value} {O : List (Nat × Array Value × Nat)} {wr w' : World} (h : PI w q pb L k cs O wr) (hR : Rd w' q L k') (hb : But q wr w') : PI w q pb L k' cs O w' :=
  ⟨hR, hb.blk h.2.1 (Ne.symm h.2.2.2.2.2.1), fun x hx => ⟨hb.blk (h.2.2.1 x hx).1 (h.2.2.1 x hx).2.1, (h.2.2.1 x hx).2⟩, h.2.2.2.1.trans (hb.below.mono h.2.2.2.2.1), h.2.2.2.2⟩
theorem PI.keep {w : World} {q pb : Nat} {L : ByteArray} {k : Nat} {cs : Array Value} {O : List (Nat × Array Value × Nat)} {wr w' : World} (h : PI w q pb L k cs O wr) (hb : Below wr.heap.size wr w') : PI w q pb L k cs O w' :=
  ⟨Blk.keep h.1 hb, h.2.1.keep hb, fun x hx => ⟨(h.2.2.1 x hx).1.keep hb, (h.2.2.1 x hx).2⟩, h.2.2.2.1.trans (hb.mono h.2.2.2.1.size), h.2.2.2.2⟩
theorem PI.set {w : World} {q pb : Nat} {L : ByteArray} {k : Nat} {cs cs' : Array Value} {O : List (Nat × Array Value × Nat)} {wr : World} (h : PI w q pb L k cs O wr) (i : Nat) (v : Value) (e : cs.setIfInBounds i v = cs') : PI w q pb L k cs' O (wr.setCell ⟨pb, i, none⟩ v) := by
  have hB := Below.heap_setCell wr ⟨pb, i, none⟩ v
  have keep : ∀ {b t : Nat} {c : Array Value}, Blk wr b c t → b ≠ pb → Blk (wr.setCell ⟨pb, i, none⟩ v) b c t := fun hb hne => by
    unfold Blk at hb ⊢
    rw [hB _ hne]; exact hb
  exact ⟨keep h.1 h.2.2.2.2.2.1, h.2.1.setAt i v e, fun x hx => ⟨keep (h.2.2.1 x hx).1 (h.2.2.1 x hx).2.2, (h.2.2.1 x hx).2⟩, h.2.2.2.1.setCell (p := ⟨pb, i, none⟩) h.2.2.2.2.2.2 _, h.2.2.2.2⟩
theorem PI.add {w : World} {q pb : Nat} {L : ByteArray} {k : Nat} {cs : Array Value} {O : List (Nat × Array Value × Nat)} {wr : World} (h : PI w q pb L k cs O wr) (x : Nat × Array Value × Nat) (hx : Blk wr x.1 x.2.1 x.2.2) (h1 : x.1 ≠ q) (h2 : x.1 ≠ pb) : PI w q pb L k cs (x :: O) wr :=
  ⟨h.1, h.2.1, (fun y hy => by
    rcases List.mem_cons.1 hy with rfl | hy
    · exact ⟨hx, h1, h2⟩
    · exact h.2.2.1 y hy), h.2.2.2⟩
theorem PI.cast {w : World} {q pb : Nat} {L : ByteArray} {k : Nat} {cs cs' : Array Value} {O : List (Nat × Array Value × Nat)} {wr : World} (h : PI w q pb L k cs O wr) (e : cs = cs') : PI w q pb L k cs' O wr := e ▸ h
theorem prt_one (p : ByteArray) (b n : Nat) (a c d e f : ByteArray) : (prt p (.slice (some ⟨b, 0, none⟩) n n) a c d e f).all (·.oneCell') = true := by simp [prt, Value.oneCell']

set_option maxRecDepth 100000 in
set_option maxHeartbeats 4000000 in
theorem T_partsOf' (L PT SE TI CL SD SG : ByteArray) (n m K1 K2 K3 K4 K5 : Nat) (PS : List ByteArray) (w : World) (hL : L.size ≤ 12000) (h5 : K5 = L.size)
    (HN1 : Hid (∀ (wx : World) (q : Nat), Rd wx q L 0 → Calls Tryz.prog 129 #[.pointer (some ⟨q, 0, none⟩), .int .i64 3] wx fun e w' => e = .returned (.string ⟨#[77, 86, 49]⟩) ∧ Rd w' q L 3 ∧ But q wx w'))
    (HN2 : Hid (∀ (wx : World) (q : Nat), Rd wx q L 3 → Calls Tryz.prog 129 #[.pointer (some ⟨q, 0, none⟩), .int .i64 32] wx fun e w' => e = .returned (.string PT) ∧ Rd w' q L 35 ∧ But q wx w'))
    (HSH : Hid (∀ (wx : World) (q : Nat), Rd wx q L 35 → Calls Tryz.prog 130 #[.pointer (some ⟨q, 0, none⟩)] wx fun e w' => ∃ b : Nat, e = .returned (.slice (some ⟨b, 0, none⟩) n n) ∧ wx.heap.size ≤ b ∧ Blk w' b (Ss PS) 9 ∧ Rd w' q L K1 ∧ But q wx w'))
    (HN3 : Hid (∀ (wx : World) (q : Nat), Rd wx q L K1 → Calls Tryz.prog 129 #[.pointer (some ⟨q, 0, none⟩), .int .i64 32] wx fun e w' => e = .returned (.string SE) ∧ Rd w' q L K2 ∧ But q wx w'))
    (HCO : Hid (∀ (wx : World) (q : Nat), Rd wx q L K2 → Calls Tryz.prog 131 #[.pointer (some ⟨q, 0, none⟩)] wx fun e w' => e = .returned (.int .i64 (m : Int)) ∧ Rd w' q L K3 ∧ But q wx w'))
    (HF1 : Hid (∀ (wx : World) (q : Nat), Rd wx q L K3 → Calls Tryz.prog 132 #[.pointer (some ⟨q, 0, none⟩)] wx fun e w' => e = .returned (.string TI) ∧ Below wx.heap.size wx w'))
    (HN4 : Hid (∀ (wx : World) (q : Nat), Rd wx q L K3 → Calls Tryz.prog 129 #[.pointer (some ⟨q, 0, none⟩), .int .i64 ((m : Int) + 16)] wx fun e w' => e = .returned (.string CL) ∧ Rd w' q L K4 ∧ But q wx w'))
    (HF2 : Hid (∀ (wx : World) (q : Nat), Rd wx q L K4 → Calls Tryz.prog 132 #[.pointer (some ⟨q, 0, none⟩)] wx fun e w' => e = .returned (.string SD) ∧ Below wx.heap.size wx w'))
    (HN5 : Hid (∀ (wx : World) (q : Nat), Rd wx q L K4 → Calls Tryz.prog 129 #[.pointer (some ⟨q, 0, none⟩), .int .i64 64] wx fun e w' => e = .returned (.string SG) ∧ Rd w' q L K5 ∧ But q wx w'))
    (hm : m ≤ 10000) :
    Calls Tryz.prog 64 #[.string L] w fun e w' => ∃ b : Nat, e = .returned (.agg (prt PT (.slice (some ⟨b, 0, none⟩) n n) SE TI CL SD SG)) ∧ Blk w' b (Ss PS) 9 ∧ Below w.heap.size w w' := by
  have hz := zero84
  have HI : Hid (∀ wx : World, Calls Tryz.prog 128 #[.bool true, .int .i64 5] wx fun e w' => e = .returned (.tuple #[]) ∧ w' = wx) := fun wx => T_insist 5 wx
  have d1 : (L.size : Int) ≤ 12000 := by omega
  have wm : IntKind.i64.wrap ((m : Int) + 16) = (m : Int) + 16 := by rw [IntKind.wrap_i64]; omega
  generalize hn84 : none84 = Z at hz
  have sZ : Z.size = 7 := by rw [← hn84]; rfl
  have b0 := Blk.new w Z 84
  have bel0 : Below w.heap.size w (w.alloc (.cells Z 84)) := (Below.refl _ _).alloc (Nat.le_refl _) _
  go_enter Tryz.func64, Tryz.ntmps64
  go_wp2_with fail
  refine (HI.out _).mono ?_
  rintro e w0' ⟨rfl, rfl⟩
  have r1 : Rd ((w.alloc (.cells Z 84)).alloc (.cells #[.string L, .int .i64 0] 138)) (w.heap.size + 1) L 0 := by
    have := Blk.new (w.alloc (.cells Z 84)) #[.string L, .int .i64 0] 138
    rw [show (w.alloc (.cells Z 84)).heap.size = w.heap.size + 1 by simp] at this
    exact this
  have b1 := b0.alloc (.cells #[.string L, .int .i64 0] 138)
  have bel1 : Below w.heap.size w ((w.alloc (.cells Z 84)).alloc (.cells #[.string L, .int .i64 0] 138)) := bel0.alloc (by simp) _
  clear b0 bel0
  go_wp2_with fail
  generalize (w.alloc (.cells Z 84)).alloc (.cells #[.string L, .int .i64 0] 138) = w1 at r1 b1 bel1 ⊢
  refine (HN1.out _ _ r1).mono ?_
  rintro e w2 ⟨rfl, r2, hb2⟩
  have b2 := hb2.blk b1 (by omega)
  have bel2 := bel1.trans (hb2.below.mono (Nat.le_succ _))
  clear r1 b1 bel1 hb2 HN1
  go_wp2_with fail
  refine (HI.out _).mono ?_
  rintro e w2' ⟨rfl, rfl⟩
  have hpq : w.heap.size + 1 < w2'.heap.size := Blk.lt r2
  have hI : PI w (w.heap.size + 1) w2'.heap.size L 3 Z [(w.heap.size, Z, 84)] (w2'.alloc (.cells Z 84)) :=
    ⟨Blk.alloc r2 _, Blk.new _ _ _, (fun x hx => by
      rcases List.mem_cons.1 hx with rfl | hx
      · exact ⟨b2.alloc _, (by show w.heap.size ≠ _; omega), (by show w.heap.size ≠ _; omega)⟩
      · cases hx), bel2.alloc bel2.size _, by omega, by omega, by omega⟩
  clear r2 b2 bel2
  go_wp2_with fail
  generalize w2'.alloc (.cells Z 84) = w3 at hI ⊢
  generalize w2'.heap.size = pb at hI hpq ⊢
  generalize hqq : w.heap.size + 1 = q at hI hpq ⊢
  replace hqq : Hid (w.heap.size + 1 = q) := hqq
  replace hI : PI w q pb L 3 (prt ⟨#[]⟩ (.slice none 0 0) ⟨#[]⟩ ⟨#[]⟩ ⟨#[]⟩ ⟨#[]⟩ ⟨#[]⟩) [(w.heap.size, Z, 84)] w3 := hI.cast (by rw [← hn84]; rfl)
  refine (HN2.out _ _ hI.1).mono ?_
  rintro e w4 ⟨rfl, rr, hb⟩
  replace hI := hI.next rr hb
  clear rr hb HN2
  have cc := hI.2.1.cell 0
  rw [show (prt ⟨#[]⟩ (.slice none 0 0) ⟨#[]⟩ ⟨#[]⟩ ⟨#[]⟩ ⟨#[]⟩ ⟨#[]⟩)[0]? = some (.string ⟨#[]⟩) from rfl] at cc
  have ff := hI.2.1.frozen 0
  replace hI : PI w q pb L 35 (prt PT (.slice none 0 0) ⟨#[]⟩ ⟨#[]⟩ ⟨#[]⟩ ⟨#[]⟩ ⟨#[]⟩) [(w.heap.size, Z, 84)] (w4.setCell ⟨pb, 0, none⟩ (.string PT)) := hI.set 0 _ rfl
  go_wp2_with fail
  clear cc ff
  generalize w4.setCell ⟨pb, 0, none⟩ (.string PT) = w5 at hI ⊢
  have hlt := hI.2.1.lt
  have hlq := Blk.lt hI.1
  have hpw := hI.2.2.2.2.2.2
  refine (HSH.out _ _ hI.1).mono ?_
  rintro e w6 ⟨sb, rfl, hsb, bs, rr, hb⟩
  replace hI := (hI.next rr hb).add (sb, Ss PS, 9) bs (by show sb ≠ q; omega) (by show sb ≠ pb; omega)
  have hsw : sb ≠ w.heap.size := by omega
  clear rr hb HSH bs hsb hlt hlq hpw
  have cc := hI.2.1.cell 1
  rw [show (prt PT (.slice none 0 0) ⟨#[]⟩ ⟨#[]⟩ ⟨#[]⟩ ⟨#[]⟩ ⟨#[]⟩)[1]? = some ((.slice none 0 0)) from rfl] at cc
  have ff := hI.2.1.frozen 1
  replace hI : PI w q pb L K1 (prt PT (.slice (some ⟨sb, 0, none⟩) n n) ⟨#[]⟩ ⟨#[]⟩ ⟨#[]⟩ ⟨#[]⟩ ⟨#[]⟩) [(sb, Ss PS, 9), (w.heap.size, Z, 84)] (w6.setCell ⟨pb, 1, none⟩ (.slice (some ⟨sb, 0, none⟩) n n)) := hI.set 1 _ rfl
  go_wp2_with fail
  clear cc ff
  generalize w6.setCell ⟨pb, 1, none⟩ (.slice (some ⟨sb, 0, none⟩) n n) = w7 at hI ⊢
  refine (HN3.out _ _ hI.1).mono ?_
  rintro e w8 ⟨rfl, rr, hb⟩
  replace hI := hI.next rr hb
  clear rr hb HN3
  have cc := hI.2.1.cell 2
  rw [show (prt PT (.slice (some ⟨sb, 0, none⟩) n n) ⟨#[]⟩ ⟨#[]⟩ ⟨#[]⟩ ⟨#[]⟩ ⟨#[]⟩)[2]? = some (.string ⟨#[]⟩) from rfl] at cc
  have ff := hI.2.1.frozen 2
  replace hI : PI w q pb L K2 (prt PT (.slice (some ⟨sb, 0, none⟩) n n) SE ⟨#[]⟩ ⟨#[]⟩ ⟨#[]⟩ ⟨#[]⟩) [(sb, Ss PS, 9), (w.heap.size, Z, 84)] (w8.setCell ⟨pb, 2, none⟩ (.string SE)) := hI.set 2 _ rfl
  go_wp2_with fail
  clear cc ff
  generalize w8.setCell ⟨pb, 2, none⟩ (.string SE) = w9 at hI ⊢
  refine (HCO.out _ _ hI.1).mono ?_
  rintro e w10 ⟨rfl, rr, hb⟩
  replace hI := hI.next rr hb
  clear rr hb HCO
  go_wp2_with fail
  refine (HF1.out _ _ hI.1).mono ?_
  rintro e w11 ⟨rfl, hb⟩
  replace hI := hI.keep hb
  clear hb HF1
  have cc := hI.2.1.cell 3
  rw [show (prt PT (.slice (some ⟨sb, 0, none⟩) n n) SE ⟨#[]⟩ ⟨#[]⟩ ⟨#[]⟩ ⟨#[]⟩)[3]? = some (.string ⟨#[]⟩) from rfl] at cc
  have ff := hI.2.1.frozen 3
  replace hI : PI w q pb L K3 (prt PT (.slice (some ⟨sb, 0, none⟩) n n) SE TI ⟨#[]⟩ ⟨#[]⟩ ⟨#[]⟩) [(sb, Ss PS, 9), (w.heap.size, Z, 84)] (w11.setCell ⟨pb, 3, none⟩ (.string TI)) := hI.set 3 _ rfl
  go_wp2_with fail
  clear cc ff
  generalize w11.setCell ⟨pb, 3, none⟩ (.string TI) = w12 at hI ⊢
  refine (HN4.out _ _ hI.1).mono ?_
  rintro e w13 ⟨rfl, rr, hb⟩
  replace hI := hI.next rr hb
  clear rr hb HN4
  have cc := hI.2.1.cell 4
  rw [show (prt PT (.slice (some ⟨sb, 0, none⟩) n n) SE TI ⟨#[]⟩ ⟨#[]⟩ ⟨#[]⟩)[4]? = some (.string ⟨#[]⟩) from rfl] at cc
  have ff := hI.2.1.frozen 4
  replace hI : PI w q pb L K4 (prt PT (.slice (some ⟨sb, 0, none⟩) n n) SE TI CL ⟨#[]⟩ ⟨#[]⟩) [(sb, Ss PS, 9), (w.heap.size, Z, 84)] (w13.setCell ⟨pb, 4, none⟩ (.string CL)) := hI.set 4 _ rfl
  go_wp2_with fail
  clear cc ff
  generalize w13.setCell ⟨pb, 4, none⟩ (.string CL) = w14 at hI ⊢
  refine (HF2.out _ _ hI.1).mono ?_
  rintro e w15 ⟨rfl, hb⟩
  replace hI := hI.keep hb
  clear hb HF2
  have cc := hI.2.1.cell 5
  rw [show (prt PT (.slice (some ⟨sb, 0, none⟩) n n) SE TI CL ⟨#[]⟩ ⟨#[]⟩)[5]? = some (.string ⟨#[]⟩) from rfl] at cc
  have ff := hI.2.1.frozen 5
  replace hI : PI w q pb L K4 (prt PT (.slice (some ⟨sb, 0, none⟩) n n) SE TI CL SD ⟨#[]⟩) [(sb, Ss PS, 9), (w.heap.size, Z, 84)] (w15.setCell ⟨pb, 5, none⟩ (.string SD)) := hI.set 5 _ rfl
  go_wp2_with fail
  clear cc ff
  generalize w15.setCell ⟨pb, 5, none⟩ (.string SD) = w16 at hI ⊢
  refine (HN5.out _ _ hI.1).mono ?_
  rintro e w17 ⟨rfl, rr, hb⟩
  replace hI := hI.next rr hb
  clear rr hb HN5
  have cc := hI.2.1.cell 6
  rw [show (prt PT (.slice (some ⟨sb, 0, none⟩) n n) SE TI CL SD ⟨#[]⟩)[6]? = some (.string ⟨#[]⟩) from rfl] at cc
  have ff := hI.2.1.frozen 6
  replace hI : PI w q pb L K5 (prt PT (.slice (some ⟨sb, 0, none⟩) n n) SE TI CL SD SG) [(sb, Ss PS, 9), (w.heap.size, Z, 84)] (w17.setCell ⟨pb, 6, none⟩ (.string SG)) := hI.set 6 _ rfl
  obtain ⟨a0, a1⟩ := hI.1.at
  rw [h5] at a1
  go_wp2_with fail
  clear cc ff a0 a1
  generalize w17.setCell ⟨pb, 6, none⟩ (.string SG) = wz at hI ⊢
  try rw [decide_eq_true (rfl : (L.size : Int) = (L.size : Int))]
  refine (HI.out _).mono ?_
  rintro e wz' ⟨rfl, rfl⟩
  have g1 := hI.2.1
  have g2 := (hI.2.2.1 (w.heap.size, Z, 84) (by simp)).1
  have g3 := (hI.2.2.1 (sb, Ss PS, 9) (by simp)).1
  have gn : w.heap.size ≠ sb ∨ True := Or.inr trivial
  clear gn
  have bel := hI.2.2.2.1
  have sP : (prt PT (.slice (some ⟨sb, 0, none⟩) n n) SE TI CL SD SG).size = 7 := rfl
  have oP : (prt PT (.slice (some ⟨sb, 0, none⟩) n n) SE TI CL SD SG).all (·.oneCell') = true := prt_one _ _ _ _ _ _ _ _
  skip
  unfold Blk at g1
  dsimp only at g2
  have g2' := g2
  unfold Blk at g2
  go_wp2_with (first | (refine wpList_load_row rfl 84 _ rfl pb rfl 84 _ (0, 0) _ g1 Tryz.underlying84 rfl (by rw [sP]; exact Tryz.info84) ?_) | (refine wpList_store_row rfl 84 _ _ rfl w.heap.size _ rfl rfl 84 _ g2 (by rw [sP]; exact Tryz.info84) (by rw [sP, sZ]) oP ?_))
  refine bodyPost_ret (results_cell_row rfl _ _ w.heap.size 84 _ (0, 0) _ rfl (g2'.row _) Tryz.underlying84 rfl (by rw [sP]; exact Tryz.info84)) rfl ⟨sb, rfl, g3.other hsw _, below_setRow bel (Nat.le_refl _) _⟩
end Go.Proofs.YtclpbaokadfhhaaGreatDoor
