/- Several texts as one: Ln3, Ln4, Ln5, Ln6, Ln7. -/
import Derived.Test.YtclpbaokadfhhaaGreatDoorUa
import Derived.Deep.RegionHeld3
import Derived.Deep.QuietTactic
import Derived.OwnWalk
namespace Go.Proofs.YtclpbaokadfhhaaGreatDoor
open Go.RowKit

theorem index_alpha (x : UInt8) : ∃ n : Nat, n < 256 ∧ IntKind.u8.wrap (Lib.indexByte Tx.alpha x) = (n : Int) ∧ Tx.val x = n.toUInt8 := by
  refine ⟨(Lib.indexByte Tx.alpha x % 256).toNat, ?_, ?_, rfl⟩
  · omega
  · rw [IntKind.wrap_u8]; omega
theorem val_wrap (x : UInt8) : IntKind.u8.wrap (Lib.indexByte Tx.alpha x) = Y (Tx.val x) := by
  obtain ⟨n, h1, h2, h3⟩ := index_alpha x
  rw [h2, h3]
  unfold Y
  simp
  omega

set_option maxRecDepth 100000 in
set_option maxHeartbeats 1000000 in
theorem value_any (x : UInt8) (w : World) :
    Calls Tryz.prog 235 #[.int .u8 (Y x)] w fun e w' => e = .returned (.int .u8 (Y (Tx.val x))) ∧ w' = w := by
  have hv : IntKind.u8.wrap (Lib.indexByte alphaB.data.toList x) = Y (Tx.val x) := val_wrap x
  have hx : (Y x).toNat.toUInt8 = x := by unfold Y; simp
  go_enter Tryz.func235, Tryz.ntmps235
  go_wp2_with fail
  refine (Tryz.strings_IndexByte alphaB (Y x) w).mono ?_
  rintro e w' ⟨rfl, rfl⟩
  rw [hx]
  generalize Lib.indexByte alphaB.data.toList x = q at hv
  go_wp2
  go_ret
  exact ⟨rfl, rfl⟩

/-- string(b[:n]), b a row of bytes -/
theorem stringPart {w : World} {b t cap : Nat} {l : List UInt8} (hb : Blk w b (Bs l) t) (n : Nat) (hn : n ≤ l.length) :
    (convert 55 9 (.slice (some ⟨b, 0, none⟩) n cap)).run Tryz.prog w = .ok (.string ⟨(l.take n).toArray⟩) w := by
  have hl : (l.take n).length = n := by rw [List.length_take]; omega
  conv => lhs; rw [← hl]
  refine run_convert_bytes_back w _ _ 5 _ cap (l.take n) Tryz.underlying55 Tryz.underlying5 Tryz.underlying9 ?_
  intro j hj
  have : (⟨b, 0, none⟩ : Addr).add j = ⟨b, j, none⟩ := by unfold Addr.add; split <;> simp_all
  rw [this, hb.cell, Bs_get]
  rw [hl] at hj
  simp [List.getElem?_eq_getElem (show j < l.length by omega)]

set_option maxRecDepth 100000 in
set_option maxHeartbeats 2000000 in
theorem threeOf0 (s : ByteArray) (w : World) (hs : s.size ≤ 1000) (ht : Lib.trimRightB s.data.toList 61 = []) :
    Calls Tryz.prog 194 #[.string s] w fun e w' => e = .returned (.string ⟨(Tx.threeOf []).toArray⟩) ∧ Below w.heap.size w w' := by
  go_enter Tryz.func194, Tryz.ntmps194
  go_wp2_with fail
  refine (Tryz.strings_TrimRight_one s 61 (by decide) _ (by omega)).mono ?_
  rintro e w' ⟨rfl, rfl⟩
  rw [ht]
  go_wp2
  go_ret
  exact ⟨rfl, (Below.refl _ _).alloc (Nat.le_refl _) _⟩

set_option maxRecDepth 100000 in
set_option maxHeartbeats 2000000 in
theorem threeOf1 (s : ByteArray) (a : UInt8) (w : World) (hs : s.size ≤ 1000) (ht : Lib.trimRightB s.data.toList 61 = [a]) :
    Calls Tryz.prog 194 #[.string s] w fun e w' => e = .returned (.string ⟨(Tx.threeOf [a]).toArray⟩) ∧ Below w.heap.size w w' := by
  go_enter Tryz.func194, Tryz.ntmps194
  go_wp2_with fail
  refine (Tryz.strings_TrimRight_one s 61 (by decide) _ (by omega)).mono ?_
  rintro e w' ⟨rfl, rfl⟩
  rw [ht]
  go_wp2
  go_ret
  exact ⟨rfl, (Below.refl _ _).alloc (Nat.le_refl _) _⟩

set_option maxRecDepth 100000 in
set_option maxHeartbeats 2000000 in
theorem threeOf2 (s : ByteArray) (a b : UInt8) (w : World) (hs : s.size ≤ 1000) (ht : Lib.trimRightB s.data.toList 61 = [a, b]) :
    Calls Tryz.prog 194 #[.string s] w fun e w' => e = .returned (.string ⟨(Tx.threeOf [a, b]).toArray⟩) ∧ Below w.heap.size w w' := by
  have j0 : (((⟨#[a, b]⟩ : ByteArray)[0]'(by show 0 < 2; omega)).toNat : Int) = Y a := rfl
  have j1 : (((⟨#[a, b]⟩ : ByteArray)[1]'(by show 1 < 2; omega)).toNat : Int) = Y b := rfl
  have m0 : IntKind.u8.wrap (Y (Tx.val a) * 4) = Y (Tx.val a <<< 2) := (IntKind.wrap_u8 _).trans (Y_shl (Tx.val a) 2)
  have s0 : Y (Tx.val b) / (16 : Int) = Y (Tx.val b >>> 4) := Y_shr (Tx.val b) 4
  have o0 : bits BinOp.or IntKind.u8 (Y (Tx.val a <<< 2)) (Y (Tx.val b) / (16 : Int)) = Y (Tx.val a <<< 2 ||| Tx.val b >>> 4) := by rw [s0]; exact or8 _ _
  clear s0
  go_enter Tryz.func194, Tryz.ntmps194
  go_wp2_with fail
  refine (Tryz.strings_TrimRight_one s 61 (by decide) _ (by omega)).mono ?_
  rintro e w' ⟨rfl, rfl⟩
  rw [ht]
  go_wp2_with fail
  go_region_held3 (fun _ => True) (exact trivial) (first | (go_at_call 235; refine (value_any _ _).mono ?_; rintro e w' ⟨rfl, rfl⟩))
  all_goals go_wp2_with fail
  all_goals
    have hB : Blk (w.alloc (.cells #[.int .u8 (Y (Tx.val a <<< 2 ||| Tx.val b >>> 4)), .int .u8 0, .int .u8 0] 225)).drew w.heap.size (Bs [Tx.val a <<< 2 ||| Tx.val b >>> 4, 0, 0]) 225 := (Blk.new w (Bs [Tx.val a <<< 2 ||| Tx.val b >>> 4, 0, 0]) 225).drew
    have hc := stringPart (cap := 3) hB 1 (by show 1 ≤ 3; omega)
    rw [hc]
    simp only [Result.andThen]
    rw [Oper.upon_value]
    go_wp2
    go_ret
    exact ⟨rfl, ((Below.refl _ _).alloc (Nat.le_refl _) _).drew⟩

set_option maxRecDepth 100000 in
set_option maxHeartbeats 2000000 in
theorem threeOf3 (s : ByteArray) (a b c : UInt8) (w : World) (hs : s.size ≤ 1000) (ht : Lib.trimRightB s.data.toList 61 = [a, b, c]) :
    Calls Tryz.prog 194 #[.string s] w fun e w' => e = .returned (.string ⟨(Tx.threeOf [a, b, c]).toArray⟩) ∧ Below w.heap.size w w' := by
  have j0 : (((⟨#[a, b, c]⟩ : ByteArray)[0]'(by show 0 < 3; omega)).toNat : Int) = Y a := rfl
  have j1 : (((⟨#[a, b, c]⟩ : ByteArray)[1]'(by show 1 < 3; omega)).toNat : Int) = Y b := rfl
  have j2 : (((⟨#[a, b, c]⟩ : ByteArray)[2]'(by show 2 < 3; omega)).toNat : Int) = Y c := rfl
  have m0 : IntKind.u8.wrap (Y (Tx.val a) * 4) = Y (Tx.val a <<< 2) := (IntKind.wrap_u8 _).trans (Y_shl (Tx.val a) 2)
  have s0 : Y (Tx.val b) / (16 : Int) = Y (Tx.val b >>> 4) := Y_shr (Tx.val b) 4
  have o0 : bits BinOp.or IntKind.u8 (Y (Tx.val a <<< 2)) (Y (Tx.val b) / (16 : Int)) = Y (Tx.val a <<< 2 ||| Tx.val b >>> 4) := by rw [s0]; exact or8 _ _
  clear s0
  have m1 : IntKind.u8.wrap (Y (Tx.val b) * 16) = Y (Tx.val b <<< 4) := (IntKind.wrap_u8 _).trans (Y_shl (Tx.val b) 4)
  have s1 : Y (Tx.val c) / (4 : Int) = Y (Tx.val c >>> 2) := Y_shr (Tx.val c) 2
  have o1 : bits BinOp.or IntKind.u8 (Y (Tx.val b <<< 4)) (Y (Tx.val c) / (4 : Int)) = Y (Tx.val b <<< 4 ||| Tx.val c >>> 2) := by rw [s1]; exact or8 _ _
  clear s1
  go_enter Tryz.func194, Tryz.ntmps194
  go_wp2_with fail
  refine (Tryz.strings_TrimRight_one s 61 (by decide) _ (by omega)).mono ?_
  rintro e w' ⟨rfl, rfl⟩
  rw [ht]
  go_wp2_with fail
  go_region_held3 (fun _ => True) (exact trivial) (first | (go_at_call 235; refine (value_any _ _).mono ?_; rintro e w' ⟨rfl, rfl⟩))
  all_goals go_wp2_with fail
  all_goals go_region_held3 (fun _ => True) (exact trivial) (first | (go_at_call 235; refine (value_any _ _).mono ?_; rintro e w' ⟨rfl, rfl⟩))
  all_goals go_wp2_with fail
  all_goals
    have hB : Blk (w.alloc (.cells #[.int .u8 (Y (Tx.val a <<< 2 ||| Tx.val b >>> 4)), .int .u8 (Y (Tx.val b <<< 4 ||| Tx.val c >>> 2)), .int .u8 0] 225)).drew.drew w.heap.size (Bs [Tx.val a <<< 2 ||| Tx.val b >>> 4, Tx.val b <<< 4 ||| Tx.val c >>> 2, 0]) 225 := (Blk.new w (Bs [Tx.val a <<< 2 ||| Tx.val b >>> 4, Tx.val b <<< 4 ||| Tx.val c >>> 2, 0]) 225).drew.drew
    have hc := stringPart (cap := 3) hB 2 (by show 2 ≤ 3; omega)
    rw [hc]
    simp only [Result.andThen]
    rw [Oper.upon_value]
    go_wp2
    go_ret
    exact ⟨rfl, ((Below.refl _ _).alloc (Nat.le_refl _) _).drew.drew⟩

set_option maxRecDepth 100000 in
set_option maxHeartbeats 2000000 in
theorem threeOf4 (s : ByteArray) (a b c d : UInt8) (w : World) (hs : s.size ≤ 1000) (ht : Lib.trimRightB s.data.toList 61 = [a, b, c, d]) :
    Calls Tryz.prog 194 #[.string s] w fun e w' => e = .returned (.string ⟨(Tx.threeOf [a, b, c, d]).toArray⟩) ∧ Below w.heap.size w w' := by
  have j0 : (((⟨#[a, b, c, d]⟩ : ByteArray)[0]'(by show 0 < 4; omega)).toNat : Int) = Y a := rfl
  have j1 : (((⟨#[a, b, c, d]⟩ : ByteArray)[1]'(by show 1 < 4; omega)).toNat : Int) = Y b := rfl
  have j2 : (((⟨#[a, b, c, d]⟩ : ByteArray)[2]'(by show 2 < 4; omega)).toNat : Int) = Y c := rfl
  have j3 : (((⟨#[a, b, c, d]⟩ : ByteArray)[3]'(by show 3 < 4; omega)).toNat : Int) = Y d := rfl
  have m0 : IntKind.u8.wrap (Y (Tx.val a) * 4) = Y (Tx.val a <<< 2) := (IntKind.wrap_u8 _).trans (Y_shl (Tx.val a) 2)
  have s0 : Y (Tx.val b) / (16 : Int) = Y (Tx.val b >>> 4) := Y_shr (Tx.val b) 4
  have o0 : bits BinOp.or IntKind.u8 (Y (Tx.val a <<< 2)) (Y (Tx.val b) / (16 : Int)) = Y (Tx.val a <<< 2 ||| Tx.val b >>> 4) := by rw [s0]; exact or8 _ _
  clear s0
  have m1 : IntKind.u8.wrap (Y (Tx.val b) * 16) = Y (Tx.val b <<< 4) := (IntKind.wrap_u8 _).trans (Y_shl (Tx.val b) 4)
  have s1 : Y (Tx.val c) / (4 : Int) = Y (Tx.val c >>> 2) := Y_shr (Tx.val c) 2
  have o1 : bits BinOp.or IntKind.u8 (Y (Tx.val b <<< 4)) (Y (Tx.val c) / (4 : Int)) = Y (Tx.val b <<< 4 ||| Tx.val c >>> 2) := by rw [s1]; exact or8 _ _
  clear s1
  have m2 : IntKind.u8.wrap (Y (Tx.val c) * 64) = Y (Tx.val c <<< 6) := (IntKind.wrap_u8 _).trans (Y_shl (Tx.val c) 6)
  have o2 : bits BinOp.or IntKind.u8 (Y (Tx.val c <<< 6)) (Y (Tx.val d)) = Y (Tx.val c <<< 6 ||| Tx.val d) := or8 _ _
  go_enter Tryz.func194, Tryz.ntmps194
  go_wp2_with fail
  refine (Tryz.strings_TrimRight_one s 61 (by decide) _ (by omega)).mono ?_
  rintro e w' ⟨rfl, rfl⟩
  rw [ht]
  go_wp2_with fail
  go_region_held3 (fun _ => True) (exact trivial) (first | (go_at_call 235; refine (value_any _ _).mono ?_; rintro e w' ⟨rfl, rfl⟩))
  all_goals go_wp2_with fail
  all_goals go_region_held3 (fun _ => True) (exact trivial) (first | (go_at_call 235; refine (value_any _ _).mono ?_; rintro e w' ⟨rfl, rfl⟩))
  all_goals go_wp2_with fail
  all_goals go_region_held3 (fun _ => True) (exact trivial) (first | (go_at_call 235; refine (value_any _ _).mono ?_; rintro e w' ⟨rfl, rfl⟩))
  all_goals go_wp2_with fail
  all_goals
    have hB : Blk (w.alloc (.cells #[.int .u8 (Y (Tx.val a <<< 2 ||| Tx.val b >>> 4)), .int .u8 (Y (Tx.val b <<< 4 ||| Tx.val c >>> 2)), .int .u8 (Y (Tx.val c <<< 6 ||| Tx.val d))] 225)).drew.drew.drew w.heap.size (Bs [Tx.val a <<< 2 ||| Tx.val b >>> 4, Tx.val b <<< 4 ||| Tx.val c >>> 2, Tx.val c <<< 6 ||| Tx.val d]) 225 := (Blk.new w (Bs [Tx.val a <<< 2 ||| Tx.val b >>> 4, Tx.val b <<< 4 ||| Tx.val c >>> 2, Tx.val c <<< 6 ||| Tx.val d]) 225).drew.drew.drew
    have hc := stringPart (cap := 3) hB 3 (by show 3 ≤ 3; omega)
    rw [hc]
    simp only [Result.andThen]
    rw [Oper.upon_value]
    go_wp2
    go_ret
    exact ⟨rfl, ((Below.refl _ _).alloc (Nat.le_refl _) _).drew.drew.drew⟩

/-- threeOf of four bytes -/
theorem threeOf_any (s : ByteArray) (w : World) (hs : s.size = 4) :
    Calls Tryz.prog 194 #[.string s] w fun e w' => e = .returned (.string ⟨(Tx.three s.data.toList).toArray⟩) ∧ Below w.heap.size w w' := by
  have hl : (Lib.trimRightB s.data.toList 61).length ≤ 4 := by
    unfold Lib.trimRightB
    rw [List.length_reverse]
    refine Nat.le_trans (List.dropWhile_suffix _).length_le ?_
    rw [List.length_reverse, size_list]; omega
  unfold Tx.three
  generalize ht : Lib.trimRightB s.data.toList 61 = L at hl
  match L, hl with
  | [], _ => exact threeOf0 s w (by omega) ht
  | [a], _ => exact threeOf1 s a w (by omega) ht
  | [a, b], _ => exact threeOf2 s a b w (by omega) ht
  | [a, b, c], _ => exact threeOf3 s a b c w (by omega) ht
  | [a, b, c, d], _ => exact threeOf4 s a b c d w (by omega) ht
  | a :: b :: c :: d :: x :: r, h => simp only [List.length_cons] at h; omega

end Go.Proofs.YtclpbaokadfhhaaGreatDoor

namespace Go.Proofs.YtclpbaokadfhhaaGreatDoor
open Go.RowKit

theorem three_le (f : List UInt8) : (Tx.three f).length ≤ 3 := by
  unfold Tx.three Tx.threeOf
  split <;> simp
set_option maxRecDepth 100000 in
set_option maxHeartbeats 2000000 in
theorem bytesOf_any (s : ByteArray) (w : World) (hs : s.size ≤ 1000000) :
    Calls Tryz.prog 138 #[.string s] w fun e w' => e = .returned (.tuple #[.string ⟨(Tx.lineOf s.data.toList).1.toArray⟩, .bool (Tx.lineOf s.data.toList).2]) ∧ Below w.heap.size w w' := by
  have hsl := size_list s
  by_cases h0 : s.size = 0
  · have hemp := emp_true h0
    have e0 : Tx.lineOf s.data.toList = ([], false) := by
      unfold Tx.lineOf
      rw [if_pos (.inl (List.eq_nil_of_length_eq_zero (by rw [hsl]; exact h0)))]
    rw [e0]
    go_enter Tryz.func138, Tryz.ntmps138
    go_wp2
    go_ret2
    exact ⟨rfl, Below.refl _ _⟩
  · have hemp := emp_false (r := s) (by omega)
    have hne : s.data.toList ≠ [] := fun e => by rw [e] at hsl; simp at hsl; omega
    by_cases h64 : 64 < s.size
    · have e0 : Tx.lineOf s.data.toList = ([], false) := by
        unfold Tx.lineOf
        rw [if_pos (.inr (by rw [hsl]; exact h64))]
      rw [e0]
      have h64' : (64 : Int) < (s.size : Int) := by omega
      go_enter Tryz.func138, Tryz.ntmps138
      go_wp2
      go_ret2
      exact ⟨rfl, Below.refl _ _⟩
    · have e0 : Tx.lineOf s.data.toList = (Tx.dec s.data.toList, Tx.enc (Tx.dec s.data.toList) == s.data.toList) := by
        unfold Tx.lineOf
        rw [if_neg (by rintro (h | h); exact hne h; rw [hsl] at h; omega)]
      rw [e0]
      have hb0 := bd_new w
      have hbel0 : Below w.heap.size w (w.alloc (.cells #[.pointer none, .slice none 0 0] 90)) := (Below.refl _ _).alloc (Nat.le_refl _) _
      have h64' : (s.size : Int) ≤ 64 := by omega
      go_enter Tryz.func138, Tryz.ntmps138
      go_wp2
      go_loopw [5] (fun v wr => ∃ (k : Nat) (l : List UInt8), v = .int .i64 (k : Int) ∧ k ≤ s.size ∧ l.length ≤ 4 * k ∧ l ++ Tx.dec (s.data.toList.drop k) = Tx.dec s.data.toList ∧ Bld w.heap.size w.heap.size l wr ∧ Below w.heap.size w wr) (fun v _ => 70 - (intOf v).toNat)
      case atStart => exact ⟨0, [], rfl, by omega, by simp, rfl, hb0, hbel0⟩
      case round =>
        clear hb0 hbel0
        obtain ⟨k, l, rfl, hk, hl, he, hb, hbel⟩ := hrel
        have hsz : w.heap.size ≤ wr.heap.size := hbel.size
        by_cases hlt : k + 4 ≤ s.size
        · have hd := Tx.dec_step (s.data.toList.drop k) (by rw [List.length_drop, hsl]; omega)
          rw [List.drop_drop] at hd
          have hx : (s.extract k (k + 4)).size = 4 := by rw [ByteArray.size_extract]; omega
          have hxl : (s.extract k (k + 4)).data.toList = (s.data.toList.drop k).take 4 := by
            rw [ByteArray.data_extract, Array.toList_extract]; simp [List.extract_eq_take_drop]
          have hlt' : (k : Int) + 4 ≤ (s.size : Int) := by omega
          go_wp2_with fail
          refine (threeOf_any (s.extract k (k + 4)) wr hx).mono ?_
          rintro e w1 ⟨rfl, hb1⟩
          rw [hxl]
          generalize hT : Tx.three ((s.data.toList.drop k).take 4) = T at hd
          have hT3 : T.length ≤ 3 := by rw [← hT]; exact three_le _
          have hts : (⟨T.toArray⟩ : ByteArray).size = T.length := rfl
          have hk1 := hb.keep hb1
          have hs1 : w.heap.size ≤ w1.heap.size := by have := hb1.size; omega
          go_wp2_with fail
          refine (bd_write w.heap.size w.heap.size l ⟨T.toArray⟩ w1 hk1 (by rw [hts]; omega) hs1).mono ?_
          rintro e w2 ⟨rfl, hk2, hb2⟩
          go_wp2
          go_roundw
          case rel =>
            refine ⟨k + 4, l ++ T, by go_num, by omega, by rw [List.length_append]; omega, ?_, hk2, ?_⟩
            · rw [← he, hd, List.append_assoc]
            · exact (hbel.trans (hb1.mono (by omega))).trans hb2
          case measure => simp [intOf]; omega
        · have hd := Tx.dec_short (s.data.toList.drop k) (by rw [List.length_drop, hsl]; omega)
          rw [hd, List.append_nil] at he
          rw [he] at hb
          have hlen : (Tx.dec s.data.toList).length ≤ 1000 := by rw [← he]; omega
          have hlt' : (s.size : Int) < (k : Int) + 4 := by omega
          generalize hD : Tx.dec s.data.toList = D at hb hlen
          have hds : (⟨D.toArray⟩ : ByteArray).size = D.length := rfl
          go_wp2_with fail
          refine (bd_string w.heap.size w.heap.size D wr hb hsz).mono ?_
          rintro e w1 ⟨rfl, hk1, hb1⟩
          have hs1 : w.heap.size ≤ w1.heap.size := by have := hb1.size; omega
          go_wp2_with fail
          refine (bd_string w.heap.size w.heap.size D w1 hk1 hs1).mono ?_
          rintro e w2 ⟨rfl, hk2, hb2⟩
          have hs2 : w.heap.size ≤ w2.heap.size := by have := hb2.size; omega
          go_wp2_with fail
          refine (lettersOf_any ⟨D.toArray⟩ w2 (by rw [hds]; omega)).mono ?_
          rintro e w3 ⟨rfl, hb3⟩
          go_wp2
          go_ret2
          refine ⟨?_, ((hbel.trans hb1).trans hb2).trans (hb3.mono hs2)⟩
          subst hD
          show Ending.returned (.tuple #[.string ⟨(Tx.dec s.data.toList).toArray⟩, .bool (Tx.enc (Tx.dec s.data.toList) == s.toList)]) = _
          rw [ByteArray.toList_eq]

end Go.Proofs.YtclpbaokadfhhaaGreatDoor

namespace Go.Proofs.YtclpbaokadfhhaaGreatDoor
open Go.RowKit

set_option maxRecDepth 100000 in
set_option maxHeartbeats 2000000 in
theorem linesWrite_any (s : ByteArray) (w : World) (hs : s.size ≤ 1000000) :
    Calls Tryz.prog 33 #[.string s] w fun e w' => e = .returned (.string ⟨(Tx.text s.data.toList).toArray⟩) ∧ Below w.heap.size w w' := by
  have hb0 := bd_new w
  have hbel0 : Below w.heap.size w (w.alloc (.cells #[.pointer none, .slice none 0 0] 90)) := (Below.refl _ _).alloc (Nat.le_refl _) _
  have htx : Tx.text s.data.toList = Tx.firstL ++ [10] ++ Tx.unlines ((Tx.chunk s.data.toList).map Tx.enc) ++ (Tx.lastL ++ [10]) := by
    show Tx.firstL ++ 10 :: Tx.unlines ((Tx.chunk s.data.toList).map Tx.enc ++ [Tx.lastL]) = _
    rw [Tx.unlines_append]
    simp [Tx.unlines]
  rw [htx]
  generalize hU : Tx.unlines ((Tx.chunk s.data.toList).map Tx.enc) = U
  go_enter Tryz.func33, Tryz.ntmps33
  go_wp2_with fail
  refine (bd_write w.heap.size w.heap.size [] ⟨#[45, 45, 45, 45, 45, 66, 69, 71, 73, 78, 32, 77, 73, 83, 83, 73, 86, 69, 45, 45, 45, 45, 45, 10]⟩ _ hb0 (by show 0 + 24 ≤ _; omega) (by simp)).mono ?_
  rintro e w1 ⟨rfl, hk1, hb1⟩
  have hk1 : Bld w.heap.size w.heap.size (Tx.firstL ++ [10]) w1 := hk1
  have hbel1 := hbel0.trans hb1
  go_wp2
  go_loopw [0] (fun v wr => ∃ (r : ByteArray) (l : List UInt8), v = .string r ∧ r.size ≤ s.size ∧ l.length + 70 * r.size ≤ 70 * s.size + 24 ∧ l ++ Tx.unlines ((Tx.chunk r.data.toList).map Tx.enc) = Tx.firstL ++ [10] ++ U ∧ Bld w.heap.size w.heap.size l wr ∧ Below w.heap.size w wr) (fun v _ => (strOf v).size)
  case atStart => exact ⟨s, _, rfl, Nat.le_refl _, by show 0 + 24 + _ ≤ _; omega, by rw [hU], hk1, hbel1⟩
  case round =>
    clear hb0 hbel0 hk1 hb1 hbel1
    obtain ⟨r, l, rfl, hr, hl, he, hb, hbel⟩ := hrel
    have hsz : w.heap.size ≤ wr.heap.size := hbel.size
    by_cases h0 : r.size = 0
    · have hemp := emp_true h0
      have e0 : r.data.toList = [] := List.eq_nil_of_length_eq_zero (by rw [size_list]; exact h0)
      rw [e0, Tx.chunk_nil] at he
      have he : l = Tx.firstL ++ [10] ++ U := by rw [← he]; simp [Tx.unlines]
      go_wp2_with fail
      refine (bd_write w.heap.size w.heap.size l ⟨#[45, 45, 45, 45, 45, 69, 78, 68, 32, 77, 73, 83, 83, 73, 86, 69, 45, 45, 45, 45, 45, 10]⟩ _ hb (by show l.length + 22 ≤ _; omega) hsz).mono ?_
      rintro e w2 ⟨rfl, hk2, hb2⟩
      have hk2 : Bld w.heap.size w.heap.size (l ++ (Tx.lastL ++ [10])) w2 := hk2
      have hs2 : w.heap.size ≤ w2.heap.size := by have := hb2.size; omega
      go_wp2_with fail
      refine (bd_string w.heap.size w.heap.size _ w2 hk2 hs2).mono ?_
      rintro e w3 ⟨rfl, hk3, hb3⟩
      go_wp2
      go_ret
      exact ⟨by show Ending.returned (.string _) = _; simp, (hbel.trans hb2).trans hb3⟩
    · have h1 : 1 ≤ r.size := by omega
      have hemp := emp_false h1
      have e0 : r.data.toList ≠ [] := fun e => by have := size_list r; rw [e] at this; simp at this; omega
      obtain ⟨n, hnm⟩ : ∃ n : Nat, n = min 48 r.size := ⟨_, rfl⟩
      have hst : Tx.chunk r.data.toList = r.data.toList.take n :: Tx.chunk (r.data.toList.drop n) := by
        rw [Tx.chunk_cons _ e0]
        by_cases h48 : r.size ≤ 48
        · have : n = r.size := by omega
          subst this
          rw [← size_list r, List.take_length, List.drop_length, List.take_of_length_le (by rw [size_list]; omega), List.drop_of_length_le (by rw [size_list]; omega)]
        · have : n = 48 := by omega
          subst this; rfl
      have hx1 : (r.extract 0 n).size = n := by rw [ByteArray.size_extract]; omega
      have hx2 : (r.extract n r.size).size = r.size - n := by rw [ByteArray.size_extract]; omega
      have hmi : min 48 (r.size : Int) = (n : Int) := by omega
      have hn0 : (0 : Int) ≤ (n : Int) := by omega
      have hn9 : (n : Int) ≤ (r.size : Int) := by omega
      have hn8 : n ≤ r.size := by omega
      have hn7 : 1 ≤ n ∧ n ≤ 48 := by omega
      have hn7 : Hid (1 ≤ n ∧ n ≤ 48) := hn7
      clear hnm
      go_wp2_with fail
      refine (lettersOf_any (r.extract 0 n) wr (by omega)).mono ?_
      rintro e w1 ⟨rfl, hb1⟩
      rw [data_extract0]
      have hk1 := hb.keep hb1
      have hs1 : w.heap.size ≤ w1.heap.size := by have := hb1.size; omega
      have hE : (Tx.enc (r.data.toList.take n)).length ≤ 64 := by
        rw [Tx.enc_length, List.length_take]
        have := hn7.out
        omega
      generalize hEE : Tx.enc (r.data.toList.take n) = E at hE
      go_wp2_with fail
      have hEs : ((⟨E.toArray⟩ : ByteArray) ++ ⟨#[10]⟩).size = E.length + 1 := by rw [ByteArray.size_append]; rfl
      have hEd : ((⟨E.toArray⟩ : ByteArray) ++ ⟨#[10]⟩).data.toList = E ++ [10] := by rw [ByteArray.data_append, Array.toList_append]
      refine (bd_write w.heap.size w.heap.size l _ w1 hk1 ?hA hs1).mono ?_
      case hA => rw [hEs]; omega
      rw [hEd]
      rintro e w2 ⟨rfl, hk2, hb2⟩
      go_wp2
      go_roundw
      case rel =>
        have hn7 := hn7.out
        refine ⟨r.extract n r.size, _, rfl, by omega, ?_, ?_, hk2, ?_⟩
        · rw [List.length_append, hx2]
          show l.length + (E ++ [10]).length + _ ≤ _
          rw [List.length_append]
          simp only [List.length_singleton]
          omega
        · rw [data_extract _ _ _ rfl, ← he, hst]
          simp [Tx.unlines, hEE]
        · exact (hbel.trans (hb1.mono (by omega))).trans hb2
      case measure =>
        show (r.extract n r.size).size < r.size
        have := hn7.out
        omega

end Go.Proofs.YtclpbaokadfhhaaGreatDoor

namespace Go.Proofs.YtclpbaokadfhhaaGreatDoor
open Go.RowKit

theorem dec_len (n : Nat) : ∀ l : List UInt8, l.length ≤ n → (Tx.dec l).length ≤ l.length := by
  induction n with
  | zero =>
    intro l h
    have : l = [] := by simpa using h
    subst this; simp [Tx.dec]
  | succ n ih =>
    intro l h
    by_cases h4 : 4 ≤ l.length
    · rw [Tx.dec_step l h4, List.length_append]
      have h1 := three_le (l.take 4)
      have h2 := ih (l.drop 4) (by rw [List.length_drop]; omega)
      rw [List.length_drop] at h2
      omega
    · rw [Tx.dec_short l (by omega)]; simp
theorem lineOf_len (l : List UInt8) : (Tx.lineOf l).1.length ≤ 64 := by
  unfold Tx.lineOf
  split
  · simp
  · rename_i h
    have := dec_len l.length l (Nat.le_refl _)
    have h2 : ¬ 64 < l.length := fun e => h (.inr e)
    simp only
    omega

set_option maxRecDepth 100000 in
set_option maxHeartbeats 2000000 in
theorem inner_any (ls : List (List UInt8)) (b n cap : Nat) (w : World) (hn : n = ls.length) (h1 : 1 ≤ n) (hn9 : n ≤ 100000) (hbk : b < w.heap.size)
    (hsz : ∀ l ∈ ls, l.length ≤ 1000000)
    (hc : ∀ j, j < n → w.cell? ⟨b, j, none⟩ = some (.string ⟨(ls.getD j []).toArray⟩)) :
    Calls Tryz.prog 73 #[.slice (some ⟨b, 0, none⟩) n cap] w fun e w' => e = .returned (.tuple #[.string ⟨(Tx.innR (ls.drop 1)).1.toArray⟩, .int .i64 (((Tx.innR (ls.drop 1)).2 + 1 : Nat) : Int)]) ∧ Below w.heap.size w w' := by
  have hb0 := bd_new w
  have hbel0 : Below w.heap.size w (w.alloc (.cells #[.pointer none, .slice none 0 0] 90)) := (Below.refl _ _).alloc (Nat.le_refl _) _
  generalize hI : Tx.innR (ls.drop 1) = I
  go_enter Tryz.func73, Tryz.ntmps73
  go_wp2
  go_loopw [5] (fun v wr => ∃ (k : Nat) (l : List UInt8), v = .int .i64 (k : Int) ∧ 1 ≤ k ∧ k ≤ n ∧ l.length ≤ 64 * k ∧ I.1 = l ++ (Tx.innR (ls.drop k)).1 ∧ I.2 + 1 = k + (Tx.innR (ls.drop k)).2 ∧ Bld w.heap.size w.heap.size l wr ∧ Below w.heap.size w wr) (fun v _ => n - (intOf v).toNat)
  case atStart => exact ⟨1, [], rfl, by omega, by omega, by simp, by rw [hI]; rfl, by rw [hI]; omega, hb0, hbel0⟩
  case round =>
    clear hb0 hbel0
    obtain ⟨k, l, rfl, hk1, hk, hl, he1, he2, hb, hbel⟩ := hrel
    have hsw : w.heap.size ≤ wr.heap.size := hbel.size
    by_cases hlt : k < n
    · have hck := hc k hlt
      rw [← hbel.cell (p := ⟨b, k, none⟩) hbk] at hck
      have hdr : ls.drop k = ls.getD k [] :: ls.drop (k + 1) := by
        rw [List.drop_eq_getElem_cons (by omega), List.getD_eq_getElem?_getD, List.getElem?_eq_getElem (by omega)]; rfl
      have hmem : ls.getD k [] ∈ ls := by
        rw [List.getD_eq_getElem?_getD, List.getElem?_eq_getElem (by omega)]; exact List.getElem_mem _
      have hline := hsz _ hmem
      rw [hdr] at he1 he2
      generalize ls.getD k [] = line at hck hline he1 he2 hdr
      have hlt' : (k : Int) < (n : Int) := by omega
      replace hn : Hid (n = ls.length) := hn
      replace hI : Hid (Tx.innR (ls.drop 1) = I) := hI
      have hlen := lineOf_len line
      go_wp2_with fail
      refine (bytesOf_any ⟨line.toArray⟩ wr (by show line.length ≤ _; omega)).mono ?_
      rintro e w1 ⟨rfl, hb1⟩
      have hk1' := hb.keep hb1
      have hs1 : w.heap.size ≤ w1.heap.size := by have := hb1.size; omega
      have hbel1 := hbel.trans (hb1.mono hsw)
      show _
      change (fun _ _ => _) _ _
      generalize hLL : Tx.lineOf (⟨line.toArray⟩ : ByteArray).data.toList = LL
      have hLL : Tx.lineOf line = LL := hLL
      rw [hLL] at hlen
      by_cases hr : LL.2 = false
      · have hst := Tx.innR_stop (l := line) (ls.drop (k + 1)) (by rw [hLL]; exact hr)
        rw [hst] at he1 he2
        go_wp2_with fail
        refine (bd_string w.heap.size w.heap.size l w1 hk1' hs1).mono ?_
        rintro e w2 ⟨rfl, hk2, hb2⟩
        go_wp2
        go_ret2
        refine ⟨?_, hbel1.trans hb2⟩
        have a1 : I.1 = l := by rw [he1]; simp
        have a2 : ((I.2 + 1 : Nat) : Int) = (k : Int) := by rw [he2]; simp
        rw [a1, a2]
        rfl
      · have hr : LL.2 = true := by simpa using hr
        have hts : (⟨LL.1.toArray⟩ : ByteArray).size = LL.1.length := rfl
        go_wp2_with fail
        refine (bd_write w.heap.size w.heap.size l _ w1 hk1' ?hA hs1).mono ?_
        case hA => rw [hts]; omega
        rintro e w2 ⟨rfl, hk2, hb2⟩
        have hk2 : Bld w.heap.size w.heap.size (l ++ LL.1) w2 := hk2
        have hs2 : w.heap.size ≤ w2.heap.size := by have := hb2.size; omega
        by_cases h48 : LL.1.length < 48
        · have hst := Tx.innR_short (l := line) (ls.drop (k + 1)) (by rw [hLL]; exact hr) (by rw [hLL]; exact h48)
          rw [hst, hLL] at he1 he2
          have h48' : (LL.1.length : Int) < 48 := by omega
          go_wp2_with fail
          refine (bd_string w.heap.size w.heap.size _ w2 hk2 hs2).mono ?_
          rintro e w3 ⟨rfl, hk3, hb3⟩
          go_wp2
          go_ret2
          refine ⟨?_, (hbel1.trans hb2).trans hb3⟩
          have a2 : ((I.2 + 1 : Nat) : Int) = (k : Int) + 1 := by rw [he2]; simp
          rw [he1, a2]
          rfl
        · have hst := Tx.innR_full (l := line) (ls.drop (k + 1)) (by rw [hLL]; exact hr) (by rw [hLL]; exact h48)
          rw [hst, hLL] at he1 he2
          have h48' : (48 : Int) ≤ (LL.1.length : Int) := by omega
          go_wp2
          go_roundw
          case rel =>
            refine ⟨k + 1, l ++ LL.1, by go_num, by omega, by omega, by rw [List.length_append]; omega, ?_, ?_, hk2, hbel1.trans hb2⟩
            · rw [he1, List.append_assoc]
            · rw [he2]; omega
          case measure => simp [intOf]; omega
    · have hkn : k = n := by omega
      have hdr : ls.drop k = [] := List.drop_of_length_le (by omega)
      rw [hdr] at he1 he2
      have hlt' : (n : Int) ≤ (k : Int) := by omega
      replace hn : Hid (n = ls.length) := hn
      replace hI : Hid (Tx.innR (ls.drop 1) = I) := hI
      replace hkn : Hid (k = n) := hkn
      go_wp2_with fail
      refine (bd_string w.heap.size w.heap.size l wr hb hsw).mono ?_
      rintro e w2 ⟨rfl, hk2, hb2⟩
      go_wp2
      go_ret2
      refine ⟨?_, hbel.trans hb2⟩
      have a1 : I.1 = l := by rw [he1]; simp [Tx.innR]
      have a2 : ((I.2 + 1 : Nat) : Int) = (n : Int) := by rw [he2, hkn.out]; simp [Tx.innR]
      rw [a1, a2]
      rfl

end Go.Proofs.YtclpbaokadfhhaaGreatDoor

namespace Go.Proofs.YtclpbaokadfhhaaGreatDoor
open Go.RowKit

/-- the cells of a row of texts -/
def Ts (l : List (List UInt8)) : Array Value := (l.map fun x => Value.string ⟨x.toArray⟩).toArray
theorem Ts_at (l : List (List UInt8)) (j : Nat) (h : j < l.length) : (Ts l)[j]? = some (.string ⟨(l.getD j []).toArray⟩) := by
  simp [Ts, List.getElem?_eq_getElem h]
/-- the answer of Read, as three values -/
def rdV (x : List UInt8 × Nat × Bool) : Value := .tuple #[.string ⟨x.1.toArray⟩, .int .i64 (x.2.1 : Int), .bool x.2.2]

theorem innR_le : ∀ r : List (List UInt8), (Tx.innR r).2 ≤ r.length
  | [] => Nat.le_refl _
  | l :: r => by
    by_cases h1 : (Tx.lineOf l).2 = false
    · rw [Tx.innR_stop r h1]; simp
    · have h1 : (Tx.lineOf l).2 = true := by simpa using h1
      by_cases h2 : (Tx.lineOf l).1.length < 48
      · rw [Tx.innR_short r h1 h2]; simp
      · rw [Tx.innR_full r h1 h2]
        have := innR_le r
        simp only [List.length_cons]; omega
theorem mem_size {ls : List (List UInt8)} {b : List UInt8} : ∀ l ∈ ls, l.length ≤ (Tx.unlines ls ++ b).length := by
  induction ls with
  | nil => intro l h; cases h
  | cons x r ih =>
    intro l h
    simp only [List.mem_cons] at h
    simp only [Tx.unlines, List.length_append, List.length_cons] at ih ⊢
    rcases h with rfl | h
    · omega
    · have := ih l h; omega

set_option maxRecDepth 100000 in
set_option maxHeartbeats 4000000 in
theorem linesRead_any (s : ByteArray) (ls : List (List UInt8)) (b : List UInt8) (m : Int) (w : World) (hs : s.data.toList = Tx.unlines ls ++ b)
    (h1 : ∀ l ∈ ls, (10 : UInt8) ∉ l) (h2 : (10 : UInt8) ∉ b) (hsz : s.size ≤ 100000 - 1) (hm : w.cell? ⟨1, 0, none⟩ = some (.int .i64 m)) :
    Calls Tryz.prog 34 #[.string s] w fun e w' => e = .returned (rdV (Tx.rd ls b)) ∧ Below w.heap.size w w' := by
  obtain ⟨hcnt, hspl⟩ := Tx.splitB_lines s ls b hs h1 h2
  have hlen : ls.length ≤ s.size := by
    rw [← hcnt]
    exact Lib.countB_le ⟨#[10]⟩ (by decide) s.size s (Nat.le_refl _)
  have hmem : ∀ l ∈ ls, l.length ≤ 1000000 := by
    intro l hl
    have := mem_size (b := b) l hl
    rw [← hs, size_list] at this
    omega
  generalize hR : Tx.rd ls b = R
  go_enter Tryz.func34, Tryz.ntmps34
  go_wp2_with fail
  refine (Tryz.strings_Split s ⟨#[10]⟩ m w (by omega) hm (by decide)).mono ?_
  rintro e w1 ⟨rfl, rfl⟩
  rw [hspl, hcnt]
  have hcells : (((ls ++ [b]).map fun l => (⟨l.toArray⟩ : ByteArray)).map Value.string).toArray = Ts (ls ++ [b]) := by simp [Ts]
  rw [hcells]
  have hB : Blk (w.alloc (.cells (Ts (ls ++ [b])) 9)) w.heap.size (Ts (ls ++ [b])) 9 := Blk.new w _ _
  generalize hw1 : w.alloc (.cells (Ts (ls ++ [b])) 9) = w1 at hB
  have hbel1 : Below w.heap.size w w1 := by rw [← hw1]; exact (Below.refl _ _).alloc (Nat.le_refl _) _
  have hlt1 : w.heap.size < w1.heap.size := hB.lt
  have hcb : w1.cell? ⟨w.heap.size, ls.length, none⟩ = some (.string ⟨b.toArray⟩) := by
    rw [hB.cell, Ts_at _ _ (by simp)]; simp
  have hcell : ∀ j, j < ls.length → w1.cell? ⟨w.heap.size, j, none⟩ = some (.string ⟨(ls.getD j []).toArray⟩) := by
    intro j hj
    rw [hB.cell, Ts_at _ _ (by simp; omega)]
    simp [List.getElem?_append_left hj]
  generalize hn : ls.length = n at *
  have hwr : IntKind.i64.wrap (n : Int) = (n : Int) := by rw [IntKind.wrap_i64]; omega
  have hsl : ∀ wx, (Instr.sliceAt 25 (.slice (some ⟨w.heap.size, 0, none⟩) (n + 1) (n + 1)) none (some (.int .i64 (n : Int))) none).run Tryz.prog wx = .ok (.slice (some ⟨w.heap.size, 0, none⟩) n (n + 1)) wx := by
    intro wx
    rw [run_sliceAt_slice (h := Tryz.underlying25), run_slice_h (ht := Tryz.underlying25) (h0 := by omega) (h2 := by omega)]
    have hz : (Go.sizeOf (Tryz.prog.elem 25)).run Tryz.prog wx = .ok 1 wx := Tryz.sizeOf9 wx
    rw [hz]
    have e0 : (⟨w.heap.size, 0, none⟩ : Addr).add 0 = ⟨w.heap.size, 0, none⟩ := by unfold Addr.add; split <;> simp_all
    simp [Result.andThen, sliced, e0]
  have hia : ∀ wx, (Instr.indexAt 25 (.slice (some ⟨w.heap.size, 0, none⟩) (n + 1) (n + 1)) (.int .i64 (n : Int))).run Tryz.prog wx = .ok (.pointer (some ⟨w.heap.size, n, none⟩)) wx := by
    intro wx
    have e0 : (⟨w.heap.size, 0, none⟩ : Addr).add n = ⟨w.heap.size, n, none⟩ := by unfold Addr.add; split <;> simp_all
    have hz : (Go.sizeOf (Tryz.prog.elem 25)).run Tryz.prog wx = .ok 1 wx := Tryz.sizeOf9 wx
    rw [run_indexAt_slice (h := Tryz.underlying25), if_pos ⟨by omega, by omega⟩]
    simp [Result.andThen, hz, e0]
  go_wp2_with fail
  go_quiet (fail)
  clear hsl hia hwr hcb
  have hB2 := hB.drewN nq
  have hbel2 := below_drewN hbel1 nq
  have hcell2 : ∀ j, j < n → (w1.drewN nq).cell? ⟨w.heap.size, j, none⟩ = some (.string ⟨(ls.getD j []).toArray⟩) := hcell
  have hlt2 : w.heap.size < (w1.drewN nq).heap.size := hlt1
  clear hB hbel1 hcell hlt1 hw1
  generalize w1.drewN nq = w2 at hB2 hbel2 hcell2 hlt2 ⊢
  replace hn : Hid (ls.length = n) := hn
  replace hR : Hid (Tx.rd ls b = R) := hR
  by_cases h0 : n = 0
  · subst h0
    have e0 : ls = [] := List.eq_nil_of_length_eq_zero hn.out
    go_wp2
    go_ret3
    refine ⟨?_, hbel2⟩
    rw [← hR.out, e0]
    rfl
  · obtain ⟨l0, r, rfl⟩ : ∃ l0 r, ls = l0 :: r := by
      cases ls with
      | nil => exact absurd hn.out.symm h0
      | cons x y => exact ⟨x, y, rfl⟩
    have hnr : r.length + 1 = n := hn.out
    have hc0 : w2.cell? ⟨w.heap.size, 0, none⟩ = some (.string ⟨l0.toArray⟩) := hcell2 0 (by omega)
    have hn0 : (0 : Int) < (n : Int) := by omega
    have hn00 : ((n : Int) == 0) = false := by simp; omega
    replace hnr : Hid (r.length + 1 = n) := hnr
    by_cases hf : l0 = Tx.firstL
    · have hfb : (l0 == [45, 45, 45, 45, 45, 66, 69, 71, 73, 78, 32, 77, 73, 83, 83, 73, 86, 69, 45, 45, 45, 45, 45]) = true := by rw [hf]; rfl
      replace hf : Hid (l0 = Tx.firstL) := hf
      go_wp2_with fail
      refine (inner_any (l0 :: r) w.heap.size n (n + 1) w2 hn.out.symm (by omega) (by omega) hlt2 hmem hcell2).mono ?_
      rintro e w3 ⟨rfl, hb3⟩
      have hbel3 := hbel2.trans (hb3.mono (by omega))
      have hcell3 : ∀ j, j < n → w3.cell? ⟨w.heap.size, j, none⟩ = some (.string ⟨((l0 :: r).getD j []).toArray⟩) := by
        intro j hj
        rw [hb3.cell (p := ⟨w.heap.size, j, none⟩) hlt2]
        exact hcell2 j hj
      have hle := innR_le r
      have hR2 := hR.out
      simp only [Tx.rd, hf.out, ne_eq, not_true_eq_false, if_false] at hR2
      have hdr : (l0 :: r).drop 1 = r := rfl
      rw [hdr]
      generalize Tx.innR r = I at hle hR2
      obtain ⟨X, k⟩ := I
      simp only at hle hR2
      have hk1 : ((k + 1 : Nat) : Int) = (k : Int) + 1 := by omega
      rw [hk1]
      replace hle : Hid (k ≤ r.length) := hle
      clear hk1 hdr
      by_cases hke : k + 1 = n
      · have hnone : r[k]? = none := List.getElem?_eq_none (by have := hnr.out; omega)
        rw [hnone] at hR2
        replace hR2 : Hid (([], k + 1, false) = R) := hR2
        have hke' : ((k : Int) + 1 == (n : Int)) = true := by simp; omega
        go_wp2
        go_ret3
        refine ⟨?_, hbel3⟩
        rw [← hR2.out]
        rfl
      · have hklt : k < r.length := by have := hnr.out; have := hle.out; omega
        obtain ⟨z, hz⟩ : ∃ z, r[k]? = some z := ⟨_, List.getElem?_eq_getElem hklt⟩
        rw [hz] at hR2
        simp only at hR2
        have hkn : k + 1 < n := by have := hnr.out; omega
        have hcz : w3.cell? ⟨w.heap.size, k + 1, none⟩ = some (.string ⟨z.toArray⟩) := by
          rw [hcell3 (k + 1) hkn]
          simp [hz]
        clear hcell3 hcell2
        have hke' : ((k : Int) + 1 == (n : Int)) = false := by simp; omega
        have hkn' : (k : Int) + 1 < (n : Int) := by omega
        replace hz : Hid (r[k]? = some z) := hz
        by_cases hl : z = Tx.lastL
        · have hlb : (z == [45, 45, 45, 45, 45, 69, 78, 68, 32, 77, 73, 83, 83, 73, 86, 69, 45, 45, 45, 45, 45]) = true := by rw [hl]; rfl
          rw [if_neg (by simpa using hl)] at hR2
          replace hl : Hid (z = Tx.lastL) := hl
          by_cases hmore : k + 2 < n
          · rw [if_pos (.inl (by have := hnr.out; omega))] at hR2
            replace hR2 : Hid (([], k + 2, false) = R) := hR2
            have hmore' : (k : Int) + 1 + 1 < (n : Int) := by omega
            go_wp2
            go_ret3
            refine ⟨?_, hbel3⟩
            rw [← hR2.out]
            show _ = Ending.returned (.tuple #[.string ⟨#[]⟩, .int .i64 ((k + 2 : Nat) : Int), .bool false])
            rw [show ((k + 2 : Nat) : Int) = (k : Int) + 1 + 1 by omega]
            rfl
          · have hmore' : (n : Int) ≤ (k : Int) + 1 + 1 := by omega
            by_cases hb0 : b = []
            · rw [if_neg (by rintro (h | h); have := hnr.out; omega; exact h hb0)] at hR2
              replace hR2 : Hid ((X, 0, true) = R) := hR2
              subst hb0
              go_wp2
              go_ret3
              refine ⟨?_, hbel3⟩
              rw [← hR2.out]
              rfl
            · rw [if_pos (.inr hb0)] at hR2
              replace hR2 : Hid (([], k + 2, false) = R) := hR2
              have hbe : b.isEmpty = false := by cases b; exact absurd rfl hb0; rfl
              go_wp2
              go_ret3
              refine ⟨?_, hbel3⟩
              rw [← hR2.out]
              show _ = Ending.returned (.tuple #[.string ⟨#[]⟩, .int .i64 ((k + 2 : Nat) : Int), .bool false])
              rw [show ((k + 2 : Nat) : Int) = (k : Int) + 1 + 1 by omega]
              rfl
        · have hlb : (z == [45, 45, 45, 45, 45, 69, 78, 68, 32, 77, 73, 83, 83, 73, 86, 69, 45, 45, 45, 45, 45]) = false := by
            rw [beq_eq_false_iff_ne]; exact hl
          rw [if_pos (by simpa using hl)] at hR2
          clear hl
          replace hR2 : Hid (([], k + 1, false) = R) := hR2
          go_wp2
          go_ret3
          refine ⟨?_, hbel3⟩
          rw [← hR2.out]
          rfl
    · have hfb : (l0 == [45, 45, 45, 45, 45, 66, 69, 71, 73, 78, 32, 77, 73, 83, 83, 73, 86, 69, 45, 45, 45, 45, 45]) = false := by
        rw [beq_eq_false_iff_ne]; exact hf
      go_wp2
      go_ret3
      refine ⟨?_, hbel2⟩
      have e1 : Tx.rd (l0 :: r) b = ([], 0, false) := by simp [Tx.rd, hf]
      rw [← hR.out, e1]
      rfl

end Go.Proofs.YtclpbaokadfhhaaGreatDoor
