/- Package lines: value, threeOf. -/
import Derived.Test.YtclpbaokadfhhabDoorLn2
import Derived.Deep.RegionHeld3
namespace Go.Proofs.YtclpbaokadfhhabDoor
open Go.RowKit

theorem index_alpha (x : UInt8) : ∃ n : Nat, n < 256 ∧ IntKind.u8.wrap (Lib.indexByte Tx.alpha x) = (n : Int) ∧ Tx.val x = n.toUInt8 := by
  refine ⟨(Lib.indexByte Tx.alpha x % 256).toNat, ?_, ?_, rfl⟩
  · omega
  · rw [IntKind.wrap_u8]; omega
theorem val_wrap (x : UInt8) : IntKind.u8.wrap (Lib.indexByte Tx.alpha x) = Y (Tx.val x) := by
  obtain ⟨n, h1, h2, h3⟩ := index_alpha x
  rw [h2, h3]
  unfold Y
  simp
  omega

set_option maxRecDepth 100000 in
set_option maxHeartbeats 1000000 in
theorem value_any (x : UInt8) (w : World) :
    Calls Tryd.prog 30 #[.int .u8 (Y x)] w fun e w' => e = .returned (.int .u8 (Y (Tx.val x))) ∧ w' = w := by
  have hv : IntKind.u8.wrap (Lib.indexByte alphaB.data.toList x) = Y (Tx.val x) := val_wrap x
  have hx : (Y x).toNat.toUInt8 = x := by unfold Y; simp
  go_enter Tryd.func30, Tryd.ntmps30
  go_wp2_with fail
  refine (Tryd.strings_IndexByte alphaB (Y x) w).mono ?_
  rintro e w' ⟨rfl, rfl⟩
  rw [hx]
  generalize Lib.indexByte alphaB.data.toList x = q at hv
  go_wp2
  go_ret
  exact ⟨rfl, rfl⟩

/-- string(b[:n]), b a row of bytes -/
theorem stringPart {w : World} {b t cap : Nat} {l : List UInt8} (hb : Blk w b (Bs l) t) (n : Nat) (hn : n ≤ l.length) :
    (convert 36 9 (.slice (some ⟨b, 0, none⟩) n cap)).run Tryd.prog w = .ok (.string ⟨(l.take n).toArray⟩) w := by
  have hl : (l.take n).length = n := by rw [List.length_take]; omega
  conv => lhs; rw [← hl]
  refine run_convert_bytes_back w _ _ 5 _ cap (l.take n) Tryd.underlying36 Tryd.underlying5 Tryd.underlying9 ?_
  intro j hj
  have : (⟨b, 0, none⟩ : Addr).add j = ⟨b, j, none⟩ := by unfold Addr.add; split <;> simp_all
  rw [this, hb.cell, Bs_get]
  rw [hl] at hj
  simp [List.getElem?_eq_getElem (show j < l.length by omega)]

set_option maxRecDepth 100000 in
set_option maxHeartbeats 2000000 in
theorem threeOf0 (s : ByteArray) (w : World) (hs : s.size ≤ 1000) (ht : Lib.trimRightB s.data.toList 61 = []) :
    Calls Tryd.prog 24 #[.string s] w fun e w' => e = .returned (.string ⟨(Tx.threeOf []).toArray⟩) ∧ Below w.heap.size w w' := by
  go_enter Tryd.func24, Tryd.ntmps24
  go_wp2_with fail
  refine (Tryd.strings_TrimRight_one s 61 (by decide) _ (by omega)).mono ?_
  rintro e w' ⟨rfl, rfl⟩
  rw [ht]
  go_wp2
  go_ret
  exact ⟨rfl, (Below.refl _ _).alloc (Nat.le_refl _) _⟩

set_option maxRecDepth 100000 in
set_option maxHeartbeats 2000000 in
theorem threeOf1 (s : ByteArray) (a : UInt8) (w : World) (hs : s.size ≤ 1000) (ht : Lib.trimRightB s.data.toList 61 = [a]) :
    Calls Tryd.prog 24 #[.string s] w fun e w' => e = .returned (.string ⟨(Tx.threeOf [a]).toArray⟩) ∧ Below w.heap.size w w' := by
  go_enter Tryd.func24, Tryd.ntmps24
  go_wp2_with fail
  refine (Tryd.strings_TrimRight_one s 61 (by decide) _ (by omega)).mono ?_
  rintro e w' ⟨rfl, rfl⟩
  rw [ht]
  go_wp2
  go_ret
  exact ⟨rfl, (Below.refl _ _).alloc (Nat.le_refl _) _⟩

set_option maxRecDepth 100000 in
set_option maxHeartbeats 2000000 in
theorem threeOf2 (s : ByteArray) (a b : UInt8) (w : World) (hs : s.size ≤ 1000) (ht : Lib.trimRightB s.data.toList 61 = [a, b]) :
    Calls Tryd.prog 24 #[.string s] w fun e w' => e = .returned (.string ⟨(Tx.threeOf [a, b]).toArray⟩) ∧ Below w.heap.size w w' := by
  have j0 : (((⟨#[a, b]⟩ : ByteArray)[0]'(by show 0 < 2; omega)).toNat : Int) = Y a := rfl
  have j1 : (((⟨#[a, b]⟩ : ByteArray)[1]'(by show 1 < 2; omega)).toNat : Int) = Y b := rfl
  have m0 : IntKind.u8.wrap (Y (Tx.val a) * 4) = Y (Tx.val a <<< 2) := (IntKind.wrap_u8 _).trans (Y_shl (Tx.val a) 2)
  have s0 : Y (Tx.val b) / (16 : Int) = Y (Tx.val b >>> 4) := Y_shr (Tx.val b) 4
  have o0 : bits BinOp.or IntKind.u8 (Y (Tx.val a <<< 2)) (Y (Tx.val b) / (16 : Int)) = Y (Tx.val a <<< 2 ||| Tx.val b >>> 4) := by rw [s0]; exact or8 _ _
  clear s0
  go_enter Tryd.func24, Tryd.ntmps24
  go_wp2_with fail
  refine (Tryd.strings_TrimRight_one s 61 (by decide) _ (by omega)).mono ?_
  rintro e w' ⟨rfl, rfl⟩
  rw [ht]
  go_wp2_with fail
  go_region_held3 (fun _ => True) (exact trivial) (first | (go_at_call 30; refine (value_any _ _).mono ?_; rintro e w' ⟨rfl, rfl⟩))
  all_goals go_wp2_with fail
  all_goals
    have hB : Blk (w.alloc (.cells #[.int .u8 (Y (Tx.val a <<< 2 ||| Tx.val b >>> 4)), .int .u8 0, .int .u8 0] 61)).drew w.heap.size (Bs [Tx.val a <<< 2 ||| Tx.val b >>> 4, 0, 0]) 61 := (Blk.new w (Bs [Tx.val a <<< 2 ||| Tx.val b >>> 4, 0, 0]) 61).drew
    have hc := stringPart (cap := 3) hB 1 (by show 1 ≤ 3; omega)
    rw [hc]
    simp only [Result.andThen]
    rw [Oper.upon_value]
    go_wp2
    go_ret
    exact ⟨rfl, ((Below.refl _ _).alloc (Nat.le_refl _) _).drew⟩

set_option maxRecDepth 100000 in
set_option maxHeartbeats 2000000 in
theorem threeOf3 (s : ByteArray) (a b c : UInt8) (w : World) (hs : s.size ≤ 1000) (ht : Lib.trimRightB s.data.toList 61 = [a, b, c]) :
    Calls Tryd.prog 24 #[.string s] w fun e w' => e = .returned (.string ⟨(Tx.threeOf [a, b, c]).toArray⟩) ∧ Below w.heap.size w w' := by
  have j0 : (((⟨#[a, b, c]⟩ : ByteArray)[0]'(by show 0 < 3; omega)).toNat : Int) = Y a := rfl
  have j1 : (((⟨#[a, b, c]⟩ : ByteArray)[1]'(by show 1 < 3; omega)).toNat : Int) = Y b := rfl
  have j2 : (((⟨#[a, b, c]⟩ : ByteArray)[2]'(by show 2 < 3; omega)).toNat : Int) = Y c := rfl
  have m0 : IntKind.u8.wrap (Y (Tx.val a) * 4) = Y (Tx.val a <<< 2) := (IntKind.wrap_u8 _).trans (Y_shl (Tx.val a) 2)
  have s0 : Y (Tx.val b) / (16 : Int) = Y (Tx.val b >>> 4) := Y_shr (Tx.val b) 4
  have o0 : bits BinOp.or IntKind.u8 (Y (Tx.val a <<< 2)) (Y (Tx.val b) / (16 : Int)) = Y (Tx.val a <<< 2 ||| Tx.val b >>> 4) := by rw [s0]; exact or8 _ _
  clear s0
  have m1 : IntKind.u8.wrap (Y (Tx.val b) * 16) = Y (Tx.val b <<< 4) := (IntKind.wrap_u8 _).trans (Y_shl (Tx.val b) 4)
  have s1 : Y (Tx.val c) / (4 : Int) = Y (Tx.val c >>> 2) := Y_shr (Tx.val c) 2
  have o1 : bits BinOp.or IntKind.u8 (Y (Tx.val b <<< 4)) (Y (Tx.val c) / (4 : Int)) = Y (Tx.val b <<< 4 ||| Tx.val c >>> 2) := by rw [s1]; exact or8 _ _
  clear s1
  go_enter Tryd.func24, Tryd.ntmps24
  go_wp2_with fail
  refine (Tryd.strings_TrimRight_one s 61 (by decide) _ (by omega)).mono ?_
  rintro e w' ⟨rfl, rfl⟩
  rw [ht]
  go_wp2_with fail
  go_region_held3 (fun _ => True) (exact trivial) (first | (go_at_call 30; refine (value_any _ _).mono ?_; rintro e w' ⟨rfl, rfl⟩))
  all_goals go_wp2_with fail
  all_goals go_region_held3 (fun _ => True) (exact trivial) (first | (go_at_call 30; refine (value_any _ _).mono ?_; rintro e w' ⟨rfl, rfl⟩))
  all_goals go_wp2_with fail
  all_goals
    have hB : Blk (w.alloc (.cells #[.int .u8 (Y (Tx.val a <<< 2 ||| Tx.val b >>> 4)), .int .u8 (Y (Tx.val b <<< 4 ||| Tx.val c >>> 2)), .int .u8 0] 61)).drew.drew w.heap.size (Bs [Tx.val a <<< 2 ||| Tx.val b >>> 4, Tx.val b <<< 4 ||| Tx.val c >>> 2, 0]) 61 := (Blk.new w (Bs [Tx.val a <<< 2 ||| Tx.val b >>> 4, Tx.val b <<< 4 ||| Tx.val c >>> 2, 0]) 61).drew.drew
    have hc := stringPart (cap := 3) hB 2 (by show 2 ≤ 3; omega)
    rw [hc]
    simp only [Result.andThen]
    rw [Oper.upon_value]
    go_wp2
    go_ret
    exact ⟨rfl, ((Below.refl _ _).alloc (Nat.le_refl _) _).drew.drew⟩

set_option maxRecDepth 100000 in
set_option maxHeartbeats 2000000 in
theorem threeOf4 (s : ByteArray) (a b c d : UInt8) (w : World) (hs : s.size ≤ 1000) (ht : Lib.trimRightB s.data.toList 61 = [a, b, c, d]) :
    Calls Tryd.prog 24 #[.string s] w fun e w' => e = .returned (.string ⟨(Tx.threeOf [a, b, c, d]).toArray⟩) ∧ Below w.heap.size w w' := by
  have j0 : (((⟨#[a, b, c, d]⟩ : ByteArray)[0]'(by show 0 < 4; omega)).toNat : Int) = Y a := rfl
  have j1 : (((⟨#[a, b, c, d]⟩ : ByteArray)[1]'(by show 1 < 4; omega)).toNat : Int) = Y b := rfl
  have j2 : (((⟨#[a, b, c, d]⟩ : ByteArray)[2]'(by show 2 < 4; omega)).toNat : Int) = Y c := rfl
  have j3 : (((⟨#[a, b, c, d]⟩ : ByteArray)[3]'(by show 3 < 4; omega)).toNat : Int) = Y d := rfl
  have m0 : IntKind.u8.wrap (Y (Tx.val a) * 4) = Y (Tx.val a <<< 2) := (IntKind.wrap_u8 _).trans (Y_shl (Tx.val a) 2)
  have s0 : Y (Tx.val b) / (16 : Int) = Y (Tx.val b >>> 4) := Y_shr (Tx.val b) 4
  have o0 : bits BinOp.or IntKind.u8 (Y (Tx.val a <<< 2)) (Y (Tx.val b) / (16 : Int)) = Y (Tx.val a <<< 2 ||| Tx.val b >>> 4) := by rw [s0]; exact or8 _ _
  clear s0
  have m1 : IntKind.u8.wrap (Y (Tx.val b) * 16) = Y (Tx.val b <<< 4) := (IntKind.wrap_u8 _).trans (Y_shl (Tx.val b) 4)
  have s1 : Y (Tx.val c) / (4 : Int) = Y (Tx.val c >>> 2) := Y_shr (Tx.val c) 2
  have o1 : bits BinOp.or IntKind.u8 (Y (Tx.val b <<< 4)) (Y (Tx.val c) / (4 : Int)) = Y (Tx.val b <<< 4 ||| Tx.val c >>> 2) := by rw [s1]; exact or8 _ _
  clear s1
  have m2 : IntKind.u8.wrap (Y (Tx.val c) * 64) = Y (Tx.val c <<< 6) := (IntKind.wrap_u8 _).trans (Y_shl (Tx.val c) 6)
  have o2 : bits BinOp.or IntKind.u8 (Y (Tx.val c <<< 6)) (Y (Tx.val d)) = Y (Tx.val c <<< 6 ||| Tx.val d) := or8 _ _
  go_enter Tryd.func24, Tryd.ntmps24
  go_wp2_with fail
  refine (Tryd.strings_TrimRight_one s 61 (by decide) _ (by omega)).mono ?_
  rintro e w' ⟨rfl, rfl⟩
  rw [ht]
  go_wp2_with fail
  go_region_held3 (fun _ => True) (exact trivial) (first | (go_at_call 30; refine (value_any _ _).mono ?_; rintro e w' ⟨rfl, rfl⟩))
  all_goals go_wp2_with fail
  all_goals go_region_held3 (fun _ => True) (exact trivial) (first | (go_at_call 30; refine (value_any _ _).mono ?_; rintro e w' ⟨rfl, rfl⟩))
  all_goals go_wp2_with fail
  all_goals go_region_held3 (fun _ => True) (exact trivial) (first | (go_at_call 30; refine (value_any _ _).mono ?_; rintro e w' ⟨rfl, rfl⟩))
  all_goals go_wp2_with fail
  all_goals
    have hB : Blk (w.alloc (.cells #[.int .u8 (Y (Tx.val a <<< 2 ||| Tx.val b >>> 4)), .int .u8 (Y (Tx.val b <<< 4 ||| Tx.val c >>> 2)), .int .u8 (Y (Tx.val c <<< 6 ||| Tx.val d))] 61)).drew.drew.drew w.heap.size (Bs [Tx.val a <<< 2 ||| Tx.val b >>> 4, Tx.val b <<< 4 ||| Tx.val c >>> 2, Tx.val c <<< 6 ||| Tx.val d]) 61 := (Blk.new w (Bs [Tx.val a <<< 2 ||| Tx.val b >>> 4, Tx.val b <<< 4 ||| Tx.val c >>> 2, Tx.val c <<< 6 ||| Tx.val d]) 61).drew.drew.drew
    have hc := stringPart (cap := 3) hB 3 (by show 3 ≤ 3; omega)
    rw [hc]
    simp only [Result.andThen]
    rw [Oper.upon_value]
    go_wp2
    go_ret
    exact ⟨rfl, ((Below.refl _ _).alloc (Nat.le_refl _) _).drew.drew.drew⟩

/-- threeOf of four bytes -/
theorem threeOf_any (s : ByteArray) (w : World) (hs : s.size = 4) :
    Calls Tryd.prog 24 #[.string s] w fun e w' => e = .returned (.string ⟨(Tx.three s.data.toList).toArray⟩) ∧ Below w.heap.size w w' := by
  have hl : (Lib.trimRightB s.data.toList 61).length ≤ 4 := by
    unfold Lib.trimRightB
    rw [List.length_reverse]
    refine Nat.le_trans (List.dropWhile_suffix _).length_le ?_
    rw [List.length_reverse, size_list]; omega
  unfold Tx.three
  generalize ht : Lib.trimRightB s.data.toList 61 = L at hl
  match L, hl with
  | [], _ => exact threeOf0 s w (by omega) ht
  | [a], _ => exact threeOf1 s a w (by omega) ht
  | [a, b], _ => exact threeOf2 s a b w (by omega) ht
  | [a, b, c], _ => exact threeOf3 s a b c w (by omega) ht
  | [a, b, c, d], _ => exact threeOf4 s a b c d w (by omega) ht
  | a :: b :: c :: d :: x :: r, h => simp only [List.length_cons] at h; omega

end Go.Proofs.YtclpbaokadfhhabDoor
