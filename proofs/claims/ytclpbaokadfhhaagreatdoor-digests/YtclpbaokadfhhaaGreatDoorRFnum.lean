/- Contracts of the document's number, odd, same, bit. -/
import Derived.Test.YtclpbaokadfhhaaGreatDoorRFtold2
namespace Go.Proofs.YtclpbaokadfhhaaGreatDoor
open Go.RowKit

/-- byte i of a text -/
def byt (s : ByteArray) (i : Nat) : Int := ((s.data.toList.getD i 0).toNat : Int)
theorem byt_bd (s : ByteArray) (i : Nat) : 0 ≤ byt s i ∧ byt s i ≤ 255 := by
  unfold byt; have := (s.data.toList.getD i 0).toNat_lt; omega
theorem byt_at (s : ByteArray) (i : Nat) (h : i < s.size) : ((s[i]).toNat : Int) = byt s i := by
  unfold byt
  have h2 : i < s.data.toList.length := by simpa using h
  simp [List.getD, List.getElem?_eq_getElem h2]
  rfl

theorem index_str (s : ByteArray) (i : Int) (n : Nat) (h0 : 0 ≤ i) (hi : i.toNat = n) (h : n < s.size) (w : World) :
    (Instr.index 9 (.string s) (.int .i64 i)).run Tryz.prog w = .ok (.int .u8 (byt s n)) w := by
  have h2 : s[n]? = some s[n] := by rw [getElem?_pos s n h]
  rw [← byt_at s n h]
  simp [Instr.index, asIntOf, run_underlying Tryz.underlying9, h0, hi, h2]

namespace Fd
def numTo (s : ByteArray) : Nat → List Int
  | 0 => none16
  | k + 1 => (numTo s k).set k (byt s (2 * k) + 256 * byt s (2 * k + 1))
theorem numTo_length (s : ByteArray) (k : Nat) : (numTo s k).length = 16 := by
  induction k with
  | zero => rfl
  | succ k ih => rw [numTo, List.length_set, ih]
def num (s : ByteArray) : List Int := (numTo s 16).set 15 ((numTo s 16).getD 15 0 % 32768)
theorem numTo_bd (s : ByteArray) (k : Nat) : ∀ i, 0 ≤ (numTo s k).getD i 0 ∧ (numTo s k).getD i 0 ≤ 65535 := by
  induction k with
  | zero => intro i; show 0 ≤ (List.replicate 16 (0 : Int)).getD i 0 ∧ (List.replicate 16 (0 : Int)).getD i 0 ≤ 65535; rw [none_at]; omega
  | succ k ih =>
    intro i
    rw [numTo]
    by_cases e : k = i
    · subst e
      by_cases hk : k < 16
      · rw [getD_set_self _ _ _ (by rw [numTo_length]; omega)]
        have h1 := byt_bd s (2 * k); have h2 := byt_bd s (2 * k + 1); omega
      · rw [List.set_eq_of_length_le (by rw [numTo_length]; omega)]; exact ih k
    · rw [getD_set_ne _ _ _ _ e]; exact ih i
theorem num_norm (s : ByteArray) : Norm (num s) := ⟨by unfold num; rw [List.length_set, numTo_length], fun i => by
  unfold num
  by_cases e : 15 = i
  · subst e; rw [getD_set_self _ _ _ (by rw [numTo_length]; omega)]; omega
  · rw [getD_set_ne _ _ _ _ e]; exact numTo_bd s 16 i⟩
theorem Norm.good {l : List Int} (h : Norm l) : Good l := ⟨h.1, fun i => by have := h.2 i; omega⟩
end Fd

set_option maxRecDepth 100000 in
set_option maxHeartbeats 4000000 in
theorem number_any (s : ByteArray) (w : World) (hs : s.size = 32) :
    Calls Tryz.prog 139 #[.string s] w fun e w' => e = .returned (.agg (Ns (Fd.num s))) ∧ Below w.heap.size w w' := by
  have hz := zero16
  have hn := Fd.num_norm s
  have eR : (Ns (Fd.num s)).size = 16 := by rw [Ns_size, hn.1]
  clear hn
  have HR : Hid (Fd.num s = (Fd.numTo s 16).set 15 ((Fd.numTo s 16).getD 15 0 % 32768)) := rfl
  generalize Fd.num s = R at HR eR ⊢
  have hb1 : Blk ((w.alloc (.cells (Ns Fd.none16) 59)).alloc (.cells (Ns Fd.none16) 59)) w.heap.size (Ns Fd.none16) 59 := heap_alloc2_old w _ _
  have hb2 : Blk ((w.alloc (.cells (Ns Fd.none16) 59)).alloc (.cells (Ns Fd.none16) 59)) (w.heap.size + 1) (Ns Fd.none16) 59 := heap_alloc2_new w _ _
  have hbel : Below w.heap.size w ((w.alloc (.cells (Ns Fd.none16) 59)).alloc (.cells (Ns Fd.none16) 59)) := ((Below.refl _ _).alloc (Nat.le_refl _) _).alloc (by simp) _
  go_enter Tryz.func139, Tryz.ntmps139
  go_wp2
  generalize (w.alloc (.cells (Ns Fd.none16) 59)).alloc (.cells (Ns Fd.none16) 59) = w1 at hb1 hb2 hbel ⊢
  go_loopw [4] (fun q wr => ∃ k : Nat, k ≤ 16 ∧ q = .int .i64 k ∧ Blk wr (w.heap.size + 1) (Ns (Fd.numTo s k)) 59 ∧ Blk wr w.heap.size (Ns Fd.none16) 59 ∧ Below w.heap.size w wr) (fun q _ => 16 - (intOf q).toNat)
  case atStart => exact ⟨0, by omega, rfl, hb2, hb1, hbel⟩
  case round =>
    clear hb1 hb2 hbel
    obtain ⟨k, hk, rfl, hb2, hb1, hbel⟩ := hrel
    by_cases hlt : k < 16
    · have i0 : (k : Int) < 16 := by omega
      have hl := Fd.numTo_length s k
      have hc := hb2.cell k
      rw [Ns_at _ _ (by omega)] at hc
      have hf := hb2.frozen k
      have HS : Hid (Fd.numTo s (k + 1) = (Fd.numTo s k).set k (byt s (2 * k) + 256 * byt s (2 * k + 1))) := rfl
      generalize Fd.numTo s k = t at hb2 hl hc HS
      have hs1 : 2 * k < s.size := by omega
      have hs2 : 2 * k + 1 < s.size := by omega
      have w3' : (2 * (k : Int)).toNat = 2 * k := by omega
      have w4' : (2 * (k : Int) + 1).toNat = 2 * k + 1 := by omega
      have hix1 := index_str s (2 * (k : Int)) (2 * k) (by omega) w3' hs1
      have hix2 := index_str s (2 * (k : Int) + 1) (2 * k + 1) (by omega) w4' hs2
      have y1 := byt_bd s (2 * k)
      have y2 := byt_bd s (2 * k + 1)
      have R1 := Ns_store (w := w) (i := k) (v := byt s (2 * k) + 256 * byt s (2 * k + 1)) hb2 (by omega) hbel
      generalize byt s (2 * k) = x1 at hix1 y1 R1 HS
      generalize byt s (2 * k + 1) = x2 at hix2 y2 R1 HS
      obtain ⟨y1a, y1b⟩ := y1
      obtain ⟨y2a, y2b⟩ := y2
      have w1' : IntKind.i64.wrap (2 * (k : Int)) = 2 * (k : Int) := by rw [IntKind.wrap_i64]; omega
      have w2' : IntKind.i64.wrap (2 * (k : Int) + 1) = 2 * (k : Int) + 1 := by rw [IntKind.wrap_i64]; omega
      have w5' : IntKind.i64.wrap x1 = x1 := by rw [IntKind.wrap_i64]; omega
      have w6' : IntKind.i64.wrap x2 = x2 := by rw [IntKind.wrap_i64]; omega
      have w7' : IntKind.i64.wrap (256 * x2) = 256 * x2 := by rw [IntKind.wrap_i64]; omega
      have w8' : IntKind.i64.wrap (x1 + 256 * x2) = x1 + 256 * x2 := by rw [IntKind.wrap_i64]; omega
      go_wp2_with fail
      go_region
      all_goals
        go_wp2
        go_roundw
        case rel =>
          refine ⟨k + 1, by omega, by go_num, ?_, R1.2.1 _ _ _ (by omega) hb1, R1.2.2.drew⟩
          rw [show Fd.numTo s (k + 1) = _ from HS.out]; exact R1.1
        case measure => simp [intOf]; omega
    · have hk16 : k = 16 := by omega
      subst hk16
      have hl := Fd.numTo_length s 16
      have hc := hb2.cell 15
      rw [Ns_at _ _ (by omega)] at hc
      have hf := hb2.frozen 15
      have hbd := Fd.numTo_bd s 16 15
      generalize Fd.numTo s 16 = t at hb2 hl hc HR hbd
      generalize t.getD 15 0 = x at hc HR hbd
      obtain ⟨hx0, hx1⟩ := hbd
      have R1 := Ns_store (w := w) (i := 15) (v := x % 32768) hb2 (by omega) hbel
      rw [← show R = _ from HR.out] at R1
      have h1' := R1.2.1 _ _ _ (by omega) hb1
      have g0 : (wr.setCell ⟨w.heap.size + 1, 15, none⟩ (.int .i64 (x % 32768))).heap[w.heap.size + 1]? = _ := R1.1
      have g1 : (wr.setCell ⟨w.heap.size + 1, 15, none⟩ (.int .i64 (x % 32768))).heap[w.heap.size]? = _ := h1'
      have RR : Hid _ := R1
      clear R1
      go_wp2_with (first
        | (refine wpList_load_row rfl 59 _ rfl (w.heap.size + 1) rfl 59 _ (0, 0) _ g0 Tryz.underlying59 rfl (by rw [eR]; exact Tryz.info16) ?_)
        | (refine wpList_store_row rfl 59 _ _ rfl w.heap.size _ rfl rfl 59 _ g1 (by rw [eR]; exact Tryz.info16) (by rw [eR]; rfl) (Ns_one _) ?_))
      refine bodyPost_ret (v := .agg (Ns R)) ?_ rfl ⟨rfl, below_setRow RR.out.2.2 (Nat.le_refl _) _⟩
      exact results_cell_row rfl _ _ w.heap.size 59 _ (0, 0) _ rfl (h1'.row _) Tryz.underlying59 rfl (by rw [eR]; exact Tryz.info16)

set_option maxRecDepth 100000 in
set_option maxHeartbeats 1000000 in
theorem odd_any (a : List Int) (w : World) (ha : a.length = 16) (hA : Fd.Bd 1125899906842624 a) :
    Calls Tryz.prog 88 #[.agg (Ns a)] w fun e w' => ∃ b : Bool, e = .returned (.bool b) ∧ b = ((((Fd.told a).getD 0 0).toNat : Int) % 2 == 1) ∧ Below w.heap.size w w' := by
  have hna : (Ns a).size = 16 := by rw [Ns_size, ha]
  have g1 : (w.alloc (.cells (Ns a) 59)).heap[w.heap.size]? = _ := Blk.new w (Ns a) 59
  have hbel : Below w.heap.size w (w.alloc (.cells (Ns a) 59)) := (Below.refl _ _).alloc (Nat.le_refl _) _
  have HA : Hid (Fd.Bd 1125899906842624 a) := hA
  clear hA
  have hl := Fd.told_length a
  have hix := index_str ⟨(Fd.told a).toArray⟩ 0 0 (by omega) rfl (by show 0 < (Fd.told a).toArray.size; simp [hl])
  have hy := byt_bd ⟨(Fd.told a).toArray⟩ 0
  have HB : Hid (byt ⟨(Fd.told a).toArray⟩ 0 = (((Fd.told a).getD 0 0).toNat : Int)) := rfl
  generalize byt ⟨(Fd.told a).toArray⟩ 0 = x at hix hy HB
  obtain ⟨y1, y2⟩ := hy
  go_enter Tryz.func88, Tryz.ntmps88
  go_wp2_with (first
    | (refine wpList_load_row rfl 59 _ rfl w.heap.size rfl 59 _ (0, 0) _ g1 Tryz.underlying59 rfl (by rw [hna]; exact Tryz.info16) ?_)
    | (go_at_call 87; refine (told_any a _ ha HA.out).mono ?_; rintro e w2 ⟨rfl, hb2⟩))
  go_ret
  exact ⟨_, rfl, by rw [← show x = _ from HB.out], hbel.trans (hb2.mono hbel.size)⟩

set_option maxRecDepth 100000 in
set_option maxHeartbeats 1000000 in
theorem same_any (a b : List Int) (w : World) (ha : a.length = 16) (hA : Fd.Bd 1125899906842624 a) (hb : b.length = 16) (hB : Fd.Bd 1125899906842624 b) :
    Calls Tryz.prog 146 #[.agg (Ns a), .agg (Ns b)] w fun e w' => ∃ q : Bool, e = .returned (.bool q) ∧ (q = true ↔ Fd.told a = Fd.told b) ∧ Below w.heap.size w w' := by
  have hna : (Ns a).size = 16 := by rw [Ns_size, ha]
  have hnb : (Ns b).size = 16 := by rw [Ns_size, hb]
  have h1 : Blk ((w.alloc (.cells (Ns a) 59)).alloc (.cells (Ns b) 59)) w.heap.size (Ns a) 59 := heap_alloc2_old w _ _
  have h2 : Blk ((w.alloc (.cells (Ns a) 59)).alloc (.cells (Ns b) 59)) (w.heap.size + 1) (Ns b) 59 := heap_alloc2_new w _ _
  have hbel : Below w.heap.size w ((w.alloc (.cells (Ns a) 59)).alloc (.cells (Ns b) 59)) := ((Below.refl _ _).alloc (Nat.le_refl _) _).alloc (by simp) _
  have g1 := h1
  unfold Blk at g1
  have HA : Hid (Fd.Bd 1125899906842624 a) := hA
  have HB : Hid (Fd.Bd 1125899906842624 b) := hB
  clear hA hB
  have tok1 : True := trivial
  go_enter Tryz.func146, Tryz.ntmps146
  go_wp2_with (first
    | (refine wpList_load_row rfl 59 _ rfl w.heap.size rfl 59 _ (0, 0) _ g1 Tryz.underlying59 rfl (by rw [hna]; exact Tryz.info16) ?_)
    | (go_at_call 87; have _t := tok1; refine (told_any a _ ha HA.out).mono ?_; rintro e w2 ⟨rfl, hb2⟩; clear tok1 g1; have g2 : w2.heap[w.heap.size + 1]? = _ := h2.keep hb2; have hbel2 := hbel.trans (hb2.mono hbel.size))
    | (refine wpList_load_row rfl 59 _ rfl (w.heap.size + 1) rfl 59 _ (0, 0) _ g2 Tryz.underlying59 rfl (by rw [hnb]; exact Tryz.info16) ?_)
    | (go_at_call 87; refine (told_any b _ hb HB.out).mono ?_; rintro e w3 ⟨rfl, hb3⟩))
  go_ret
  refine ⟨_, rfl, ?_, hbel2.trans (hb3.mono hbel2.size)⟩
  simp

theorem and_one_fin : ∀ n : Fin 256, bits BinOp.and IntKind.i64 ((n.val : Nat) : Int) 1 = ((n.val : Nat) : Int) % 2 := by decide +kernel
theorem and_one_i64 (y : Int) (h0 : 0 ≤ y) (h1 : y ≤ 255) : bits BinOp.and IntKind.i64 y 1 = y % 2 := by
  obtain ⟨n, rfl⟩ := Int.eq_ofNat_of_zero_le h0
  exact and_one_fin ⟨n, by omega⟩

set_option maxRecDepth 100000 in
set_option maxHeartbeats 1000000 in
theorem bit_any (s : ByteArray) (i : Nat) (w : World) (hi : i < 8 * s.size) (hs : s.size ≤ 1000000) :
    Calls Tryz.prog 83 #[.string s, .int .i64 i] w fun e w' => e = .returned (.int .i64 (byt s (i / 8) / 2 ^ (i % 8) % 2)) ∧ w' = w := by
  have h1 : i / 8 < s.size := by omega
  have hix := index_str s ((i : Int) / 8) (i / 8) (by omega) (by omega) h1
  have hy := byt_bd s (i / 8)
  generalize byt s (i / 8) = x at hix hy
  obtain ⟨y1, y2⟩ := hy
  have w5' : IntKind.i64.wrap x = x := by rw [IntKind.wrap_i64]; omega
  go_enter Tryz.func83, Tryz.ntmps83
  go_wp2
  go_ret
  exact ⟨ret_int (and_one_i64 _ (Int.ediv_nonneg y1 (Int.le_of_lt (Int.pow_pos (by decide)))) (Int.le_trans (Int.ediv_le_self _ y1) y2)), rfl⟩

end Go.Proofs.YtclpbaokadfhhaaGreatDoor
