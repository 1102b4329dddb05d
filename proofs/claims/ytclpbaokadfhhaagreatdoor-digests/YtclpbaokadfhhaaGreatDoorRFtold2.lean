/- Contract of the document's told. -/
import Derived.Test.YtclpbaokadfhhaaGreatDoorRFtold
namespace Go.Proofs.YtclpbaokadfhhaaGreatDoor
open Go.RowKit

def Fd.lessN (a : List Int) : Nat → List Int
  | 0 => a
  | k + 1 => Fd.less (Fd.lessN a k)
theorem Fd.lessN_norm (a : List Int) (h : Fd.Norm a) (k : Nat) : Fd.Norm (Fd.lessN a k) := by
  induction k with
  | zero => exact h
  | succ k ih => exact Fd.less_norm _ ih

set_option maxRecDepth 100000 in
set_option maxHeartbeats 4000000 in
theorem told_any (a : List Int) (w : World) (ha : a.length = 16) (hA : Fd.Bd 1125899906842624 a) :
    Calls Tryz.prog 87 #[.agg (Ns a)] w fun e w' => e = .returned (.string ⟨(Fd.told a).toArray⟩) ∧ Below w.heap.size w w' := by
  have hna : (Ns a).size = 16 := by rw [Ns_size, ha]
  have hz := zero16
  have hf1 := Fd.carry_fine a ha hA
  have hn2 := Fd.carry_norm _ hf1
  have HA : Hid (Fd.Bd 1125899906842624 a) := hA
  clear hA
  have HR : Hid (Fd.told a = Fd.tell16 (Fd.lessN (Fd.carry (Fd.carry a)) 2) 16) := rfl
  generalize Fd.told a = R at HR ⊢
  generalize hr1 : Fd.carry a = r1 at hf1 hn2 HR
  generalize hr2 : Fd.carry r1 = r2 at hn2 HR
  have HR1 : Hid (Fd.carry a = r1) := hr1
  have HR2 : Hid (Fd.carry r1 = r2) := hr2
  clear hr1 hr2
  have HF1 : Hid (Fd.Fine r1) := hf1
  have HN2 : Hid (Fd.Norm r2) := hn2
  have e1 : (Ns r1).size = 16 := by rw [Ns_size, hf1.1]
  have e2 : (Ns r2).size = 16 := by rw [Ns_size, hn2.1]
  clear hf1 hn2
  have hb1 := Blk.new w (Ns a) 59
  have g1 := hb1
  unfold Blk at g1
  have hbel : Below w.heap.size w (w.alloc (.cells (Ns a) 59)) := (Below.refl _ _).alloc (Nat.le_refl _) _
  have tok1 : True := trivial
  go_enter Tryz.func87, Tryz.ntmps87
  go_wp2_with (first
    | (refine wpList_load_row rfl 59 _ rfl w.heap.size rfl 59 _ (0, 0) _ g1 Tryz.underlying59 rfl (by rw [hna]; exact Tryz.info16) ?_)
    | (go_at_call 143; have _t := tok1; refine (carry_any a _ ha HA.out).mono ?_; rw [show Fd.carry a = r1 from HR1.out]; rintro e w2 ⟨rfl, hb2⟩; clear tok1 g1; have hc2 : Blk w2 _ _ _ := hb1.keep hb2; have g2 : w2.heap[w.heap.size]? = _ := hc2; have hbel2 := hbel.trans (hb2.mono hbel.size); have hc3 := hc2.row (Ns r1); have hbel3 := below_setRow hbel2 (Nat.le_refl _) (Ns r1); have g3 : (w2.setRow w.heap.size (Ns r1)).heap[w.heap.size]? = _ := hc3)
    | (refine wpList_store_row rfl 59 _ _ rfl w.heap.size _ rfl rfl 59 _ g2 (by rw [e1]; exact Tryz.info16) (by rw [e1, hna]) (Ns_one _) ?_; clear g2)
    | (refine wpList_load_row rfl 59 _ rfl w.heap.size rfl 59 _ (0, 0) _ g3 Tryz.underlying59 rfl (by rw [e1]; exact Tryz.info16) ?_)
    | (go_at_call 143; refine (carry_any r1 _ HF1.out.1 HF1.out.bd).mono ?_; rw [show Fd.carry r1 = r2 from HR2.out]; rintro e w4 ⟨rfl, hb4⟩; clear g3; have hc4 : Blk w4 _ _ _ := hc3.keep hb4; have g4 : w4.heap[w.heap.size]? = _ := hc4; have hbel4 := hbel3.trans (hb4.mono hbel3.size); have hc5 := hc4.row (Ns r2); have hbel5 := below_setRow hbel4 (Nat.le_refl _) (Ns r2))
    | (refine wpList_store_row rfl 59 _ _ rfl w.heap.size _ rfl rfl 59 _ g4 (by rw [e2]; exact Tryz.info16) (by rw [e2, e1]) (Ns_one _) ?_; clear g4))
  generalize w4.setRow w.heap.size (Ns r2) = w5 at hc5 hbel5 ⊢
  clear hc2 hbel2 hc3 hbel3 hc4 hbel4 hb1 hbel hb2 hb4
  go_loopw [3] (fun q wr => ∃ k : Nat, k ≤ 2 ∧ q = .int .i64 k ∧ Blk wr w.heap.size (Ns (Fd.lessN r2 k)) 59 ∧ Below w.heap.size w wr) (fun q _ => 2 - (intOf q).toNat)
  case atStart => exact ⟨0, by omega, rfl, hc5, hbel5⟩
  case round =>
    clear hc5 hbel5
    obtain ⟨k, hk, rfl, hb1, hbel⟩ := hrel
    by_cases hlt : k < 2
    · have i0 : (k : Int) < 2 := by omega
      have hN := Fd.lessN_norm r2 HN2.out k
      have HS : Hid (Fd.lessN r2 (k + 1) = Fd.less (Fd.lessN r2 k)) := rfl
      generalize Fd.lessN r2 k = m at hb1 hN HS
      have HN : Hid (Fd.Norm m) := hN
      have em : (Ns m).size = 16 := by rw [Ns_size, hN.1]
      have hml := hN.1
      clear hN
      have hm0 := Blk.new wr (Ns Fd.none16) 59
      have hc1 := hb1.alloc (.cells (Ns Fd.none16) 59)
      have hbel2 : Below w.heap.size w (wr.alloc (.cells (Ns Fd.none16) 59)) := hbel.alloc hbel.size _
      have hM := hb1.lt
      clear hb1
      go_wp2
      generalize wr.alloc (.cells (Ns Fd.none16) 59) = w6 at hm0 hc1 hbel2 ⊢
      generalize wr.heap.size = M0 at hm0 hM ⊢
      clear hbel
      go_loopw [5, 6] (fun c q wr => ∃ j : Nat, j ≤ 16 ∧ q = .int .i64 j ∧ c = .int .i64 (Fd.bw m j) ∧ Blk wr M0 (Ns (Fd.lessTo m j)) 59 ∧ Blk wr w.heap.size (Ns m) 59 ∧ Below w.heap.size w wr) (fun _ q _ => 16 - (intOf q).toNat)
      case atStart => exact ⟨0, by omega, rfl, rfl, hm0, hc1, hbel2⟩
      case round =>
        clear hm0 hc1 hbel2
        obtain ⟨j, hj, rfl, rfl, hm0, hc1, hbel⟩ := hrel
        by_cases hjt : j < 16
        · have j0 : (j : Int) < 16 := by omega
          have hcm := hc1.cell j
          rw [Ns_at _ _ (by omega)] at hcm
          have hlt0 := Fd.lessTo_length m j
          have hcl := hm0.cell j
          rw [Ns_at _ _ (by omega)] at hcl
          have hfl := hm0.frozen j
          have hx := HN.out.2 j
          have hbw := Fd.bw_bd m HN.out j
          have HBW : Hid (Fd.bw m (j + 1) = (m.getD j 0 - Fd.pPart j + Fd.bw m j) / 65536) := rfl
          have HLS : Hid (Fd.lessTo m (j + 1) = (Fd.lessTo m j).set j ((m.getD j 0 - Fd.pPart j + Fd.bw m j) % 65536)) := rfl
          generalize Fd.lessTo m j = t at hm0 hlt0 hcl HLS
          generalize m.getD j 0 = x at hcm hx HBW HLS
          generalize Fd.bw m j = c at hbw HBW HLS ⊢
          have R1 := Ns_store (w := w) (i := j) (v := x - Fd.pPart j + c - (x - Fd.pPart j + c) / 65536 * 65536) hm0 (by omega) hbel
          have hpp : (j = 0 ∧ Fd.pPart j = 65517) ∨ (j = 15 ∧ Fd.pPart j = 32767) ∨ (j ≠ 0 ∧ j ≠ 15 ∧ Fd.pPart j = 65535) := by
            unfold Fd.pPart; split
            · left; omega
            · split
              · right; left; omega
              · right; right; omega
          have hmod : ∀ y : Int, y - y / 65536 * 65536 = y % 65536 := fun y => by omega
          have HMOD : Hid (∀ y : Int, y - y / 65536 * 65536 = y % 65536) := hmod
          clear hmod
          obtain ⟨x1, x2⟩ := hx
          obtain ⟨c1, c2⟩ := hbw
          rcases hpp with ⟨hj0, hp⟩ | ⟨hj15, hp⟩ | ⟨hja, hjb, hp⟩
          · subst hj0
            rw [hp] at R1 HBW HLS
            clear hp
            go_wp2
            go_roundw
            case rel =>
              refine ⟨1, by omega, by go_num, int_eq HBW.out.symm, ?_, R1.2.1 _ _ _ (by omega) hc1, R1.2.2⟩
              rw [show Fd.lessTo m 1 = _ from HLS.out, ← HMOD.out]; exact R1.1
            case measure => simp [intOf]
          · subst hj15
            rw [hp] at R1 HBW HLS
            clear hp
            rw [show ((15 : Nat) : Int) = 15 from rfl]
            go_wp2
            go_roundw
            case rel =>
              refine ⟨16, by omega, by go_num, int_eq HBW.out.symm, ?_, R1.2.1 _ _ _ (by omega) hc1, R1.2.2⟩
              rw [show Fd.lessTo m 16 = _ from HLS.out, ← HMOD.out]; exact R1.1
            case measure => simp [intOf]
          · rw [hp] at R1 HBW HLS
            clear hp
            have d1 : ((j : Int) == 0) = false := by rw [beq_eq_false_iff_ne]; omega
            have d2 : ((j : Int) == 15) = false := by rw [beq_eq_false_iff_ne]; omega
            go_wp2
            go_roundw
            case rel =>
              refine ⟨j + 1, by omega, by go_num, int_eq HBW.out.symm, ?_, R1.2.1 _ _ _ (by omega) hc1, R1.2.2⟩
              rw [show Fd.lessTo m (j + 1) = _ from HLS.out, ← HMOD.out]; exact R1.1
            case measure => simp [intOf]; omega
        · have hj16 : j = 16 := by omega
          subst hj16
          rw [show ((16 : Nat) : Int) = 16 from rfl]
          have hl0 := Fd.lessTo_length m 16
          have hbw := Fd.bw_bd m HN.out 16
          have HLE : Hid (Fd.less m = if Fd.bw m 16 = 0 then Fd.lessTo m 16 else m) := rfl
          generalize Fd.lessTo m 16 = t at hm0 hl0 HLE
          generalize Fd.bw m 16 = c at hbw HLE ⊢
          obtain ⟨c1, c2⟩ := hbw
          have et : (Ns t).size = 16 := by rw [Ns_size, hl0]
          by_cases hc : c = 0
          · have db : (c == 0) = true := by rw [beq_iff_eq]; exact hc
            rw [if_pos hc] at HLE
            have HC : Hid _ := hc
            clear hc
            have g0 := hm0; have g1 := hc1
            unfold Blk at g0 g1
            go_wp2_with (first
              | (refine wpList_load_row rfl 59 _ rfl M0 rfl 59 _ (0, 0) _ g0 Tryz.underlying59 rfl (by rw [et]; exact Tryz.info16) ?_)
              | (refine wpList_store_row rfl 59 _ _ rfl w.heap.size _ rfl rfl 59 _ g1 (by rw [et]; exact Tryz.info16) (by rw [et, em]) (Ns_one _) ?_))
            go_roundw
            case rel =>
              refine ⟨k + 1, by omega, by go_num, ?_, below_setRow hbel (Nat.le_refl _) _⟩
              rw [show Fd.lessN r2 (k + 1) = _ from HS.out, show Fd.less m = t from HLE.out]; exact hc1.row _
            case measure => simp [intOf]; omega
          · have db : (c == 0) = false := by rw [beq_eq_false_iff_ne]; exact hc
            rw [if_neg hc] at HLE
            have HC : Hid _ := hc
            clear hc
            go_wp2
            go_roundw
            case rel =>
              refine ⟨k + 1, by omega, by go_num, ?_, hbel⟩
              rw [show Fd.lessN r2 (k + 1) = _ from HS.out, show Fd.less m = m from HLE.out]; exact hc1
            case measure => simp [intOf]; omega
    · have hk2 : k = 2 := by omega
      subst hk2
      rw [show ((2 : Nat) : Int) = 2 from rfl]
      have hN := Fd.lessN_norm r2 HN2.out 2
      generalize Fd.lessN r2 2 = m at hb1 hN HR
      have HN : Hid (Fd.Norm m) := hN
      have hml := hN.1
      clear hN
      go_wp2
      go_loopw [9, 10] (fun s q wr => ∃ j : Nat, j ≤ 16 ∧ q = .int .i64 j ∧ s = .string ⟨(Fd.tell16 m j).toArray⟩ ∧ Blk wr w.heap.size (Ns m) 59 ∧ Below w.heap.size w wr) (fun _ q _ => 16 - (intOf q).toNat)
      case atStart => exact ⟨0, by omega, rfl, rfl, hb1, hbel⟩
      case round =>
        clear hb1 hbel
        obtain ⟨j, hj, rfl, rfl, hb1, hbel⟩ := hrel
        by_cases hjt : j < 16
        · have j0 : (j : Int) < 16 := by omega
          have hcm := hb1.cell j
          rw [Ns_at _ _ (by omega)] at hcm
          have hx := HN.out.2 j
          have HT : Hid (Fd.tell16 m (j + 1) = Fd.tell16 m j ++ Fd.lo (m.getD j 0).toNat 2) := rfl
          have hl := Fd.tell16_length m j
          have hlo := Fd.lo_length (m.getD j 0).toNat 2
          generalize m.getD j 0 = x at hcm hx HT hlo
          obtain ⟨n, rfl⟩ := Int.eq_ofNat_of_zero_le hx.1
          rw [Int.toNat_natCast] at HT hlo
          have hxn : n ≤ 65535 := by omega
          clear hx
          generalize hL : Fd.lo n 2 = L at HT hlo
          have HL : Hid (Fd.lo n 2 = L) := hL
          clear hL
          generalize Fd.tell16 m j = o at hl HT ⊢
          go_wp2_with (go_at_call 75; refine (bytes_any _ _ n 2 rfl rfl (by omega) (by omega) _).mono ?_; rw [show Fd.lo n 2 = L from HL.out]; rintro e w7 ⟨rfl, hb7⟩)
          go_roundw
          case rel =>
            refine ⟨j + 1, by omega, by go_num, ?_, hb1.keep hb7, hbel.trans (hb7.mono hbel.size)⟩
            rw [show Fd.tell16 m (j + 1) = o ++ L from HT.out]
            exact congrArg Value.string (ByteArray.mk_append_mk o L)
          case measure => simp [intOf]; omega
        · have hj16 : j = 16 := by omega
          subst hj16
          go_wp2
          go_ret
          exact ⟨by rw [show R = _ from HR.out]; rfl, hbel⟩

end Go.Proofs.YtclpbaokadfhhaaGreatDoor
