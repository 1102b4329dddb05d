/- Contract of the document's product. -/
import Derived.Test.YtclpbaokadfhhaaGreatDoorMe
namespace Go.Proofs.YtclpbaokadfhhaaGreatDoor
open Go.RowKit

namespace Fd
def none31 : List Int := List.replicate 31 0
/-- row i of the products, its first k parts laid upon the sums -/
def rowTo (a b t : List Int) (i : Nat) : Nat → List Int
  | 0 => t
  | k + 1 => (rowTo a b t i k).set (i + k) ((rowTo a b t i k).getD (i + k) 0 + a.getD i 0 * b.getD k 0)
/-- the first i rows -/
def rowsTo (a b : List Int) : Nat → List Int
  | 0 => none31
  | i + 1 => rowTo a b (rowsTo a b i) i 16
theorem rowTo_length (a b t : List Int) (i k : Nat) : (rowTo a b t i k).length = t.length := by
  induction k with
  | zero => rfl
  | succ k ih => rw [rowTo, List.length_set, ih]
theorem rowsTo_length (a b : List Int) (i : Nat) : (rowsTo a b i).length = 31 := by
  induction i with
  | zero => rfl
  | succ i ih => rw [rowsTo, rowTo_length, ih]
/-- .. and what is beyond folded in, 38 times: its first k parts -/
def foldTo (t : List Int) : Nat → List Int
  | 0 => none16
  | k + 1 => (foldTo t k).set k (if k < 15 then t.getD k 0 + 38 * t.getD (k + 16) 0 else t.getD k 0)
theorem foldTo_length (t : List Int) (k : Nat) : (foldTo t k).length = 16 := by
  induction k with
  | zero => rfl
  | succ k ih => rw [foldTo, List.length_set, ih]
def by_ (a b : List Int) : List Int := carry (foldTo (rowsTo a b 16) 16)
theorem by_length (a b : List Int) : (by_ a b).length = 16 := by unfold by_ carry; rw [passes_length, foldTo_length]

theorem mul_bd (x y : Int) (hx : -131072 ≤ x ∧ x ≤ 131072) (hy : -131072 ≤ y ∧ y ≤ 131072) : -17179869184 ≤ x * y ∧ x * y ≤ 17179869184 := by
  have h1 : (131072 - x) * (131072 - y) ≥ 0 := Int.mul_nonneg (by omega) (by omega)
  have h2 : (131072 + x) * (131072 + y) ≥ 0 := Int.mul_nonneg (by omega) (by omega)
  have h3 : (131072 - x) * (131072 + y) ≥ 0 := Int.mul_nonneg (by omega) (by omega)
  have h4 : (131072 + x) * (131072 - y) ≥ 0 := Int.mul_nonneg (by omega) (by omega)
  simp only [Int.sub_mul, Int.mul_sub, Int.add_mul, Int.mul_add] at h1 h2 h3 h4
  omega
theorem rowTo_bd (a b t : List Int) (i k : Nat) (M : Int) (ha : Bd 131072 a) (hb : Bd 131072 b) (ht : Bd M t) : Bd (M + 17179869184) (rowTo a b t i k) ∧ ∀ j, i + k ≤ j → (rowTo a b t i k).getD j 0 = t.getD j 0 := by
  induction k with
  | zero => exact ⟨ht.mono (by omega), fun j _ => rfl⟩
  | succ k ih =>
    have hm := mul_bd _ _ (ha i) (hb k)
    have h1 := ih.2 (i + k) (Nat.le_refl _)
    have h2 := ht (i + k)
    rw [rowTo]
    refine ⟨ih.1.set _ _ (by rw [h1]; omega) (by rw [h1]; omega), fun j hj => ?_⟩
    rw [getD_set_ne _ _ _ _ (by omega), ih.2 j (by omega)]
theorem none_at (n i : Nat) : (List.replicate n (0 : Int)).getD i 0 = 0 := by
  by_cases h : i < n
  · simp [List.getD, h]
  · simp [List.getD, h]
theorem none_bd (n : Nat) : Bd 0 (List.replicate n 0) := fun i => by
  rw [none_at]; omega
theorem rowsTo_bd (a b : List Int) (i : Nat) (ha : Bd 131072 a) (hb : Bd 131072 b) : Bd ((i : Int) * 17179869184) (rowsTo a b i) := by
  induction i with
  | zero => exact (none_bd 31).mono (by omega)
  | succ i ih =>
    have := (rowTo_bd a b (rowsTo a b i) i 16 _ ha hb ih).1
    rw [rowsTo]
    exact this.mono (by omega)
theorem foldTo_bd (t : List Int) (k : Nat) (ht : Bd 274877906944 t) : Bd 10720238370816 (foldTo t k) ∧ ∀ j, k ≤ j → (foldTo t k).getD j 0 = 0 := by
  induction k with
  | zero => exact ⟨(none_bd 16).mono (by omega), fun j _ => none_at 16 j⟩
  | succ k ih =>
    have h1 := ht k
    have h2 := ht (k + 16)
    rw [foldTo]
    refine ⟨ih.1.set _ _ (by split <;> omega) (by split <;> omega), fun j hj => ?_⟩
    rw [getD_set_ne _ _ _ _ (by omega), ih.2 j (by omega)]

end Fd

theorem zero31 (w : World) : Sem.run Tryz.prog (zeroValue 149) w = .ok (.agg (Ns Fd.none31)) w := by kernel_rfl
theorem Ns_store {w wr : World} {B t i : Nat} {l : List Int} {v : Int} (hb : Blk wr B (Ns l) t) (hle : w.heap.size ≤ B) (hbel : Below w.heap.size w wr) :
    Blk (wr.setCell ⟨B, i, none⟩ (.int .i64 v)) B (Ns (l.set i v)) t ∧ (∀ b' cs t', b' ≠ B → Blk wr b' cs t' → Blk (wr.setCell ⟨B, i, none⟩ (.int .i64 v)) b' cs t') ∧ Below w.heap.size w (wr.setCell ⟨B, i, none⟩ (.int .i64 v)) := by
  refine ⟨?_, ?_, hbel.setCell hle _⟩
  · rw [hb.set, Ns_set]; exact hb.row _
  · intro b' cs t' hne hb'
    rw [hb.set]; exact hb'.other hne _

set_option maxRecDepth 100000 in
set_option maxHeartbeats 4000000 in
theorem by_any (a b : List Int) (w : World) (ha : a.length = 16) (hb : b.length = 16) (hA : Fd.Bd 131072 a) (hB : Fd.Bd 131072 b) :
    Calls Tryz.prog 84 #[.agg (Ns a), .agg (Ns b)] w fun e w' => e = .returned (.agg (Ns (Fd.by_ a b))) ∧ Below w.heap.size w w' := by
  have hna : (Ns a).size = 16 := by rw [Ns_size, ha]
  have hnb : (Ns b).size = 16 := by rw [Ns_size, hb]
  have hz := zero16
  have hz31 := zero31
  have HA : Hid (Fd.Bd 131072 a) := hA
  have HB : Hid (Fd.Bd 131072 b) := hB
  clear hA hB
  have hb1 := Blk.alloc (Blk.alloc (Blk.alloc (Blk.new w (Ns a) 59) (.cells (Ns b) 59)) (.cells (Ns Fd.none16) 59)) (.cells (Ns Fd.none31) 149)
  have hb2 := Blk.alloc (Blk.alloc (Blk.new (w.alloc (.cells (Ns a) 59)) (Ns b) 59) (.cells (Ns Fd.none16) 59)) (.cells (Ns Fd.none31) 149)
  have hb3 := Blk.alloc (Blk.new ((w.alloc (.cells (Ns a) 59)).alloc (.cells (Ns b) 59)) (Ns Fd.none16) 59) (.cells (Ns Fd.none31) 149)
  have hb4 := Blk.new (((w.alloc (.cells (Ns a) 59)).alloc (.cells (Ns b) 59)).alloc (.cells (Ns Fd.none16) 59)) (Ns Fd.none31) 149
  have hbel : Below w.heap.size w ((((w.alloc (.cells (Ns a) 59)).alloc (.cells (Ns b) 59)).alloc (.cells (Ns Fd.none16) 59)).alloc (.cells (Ns Fd.none31) 149)) :=
    ((((Below.refl _ _).alloc (Nat.le_refl _) _).alloc (by simp) _).alloc (by simp; omega) _).alloc (by simp; omega) _
  rw [show (w.alloc (.cells (Ns a) 59)).heap.size = w.heap.size + 1 by simp] at hb2
  rw [show ((w.alloc (.cells (Ns a) 59)).alloc (.cells (Ns b) 59)).heap.size = w.heap.size + 1 + 1 by simp] at hb3
  rw [show (((w.alloc (.cells (Ns a) 59)).alloc (.cells (Ns b) 59)).alloc (.cells (Ns Fd.none16) 59)).heap.size = w.heap.size + 1 + 1 + 1 by simp] at hb4
  have HR : Hid (Fd.by_ a b = Fd.carry (Fd.foldTo (Fd.rowsTo a b 16) 16)) := rfl
  generalize Fd.by_ a b = R at HR ⊢
  go_enter Tryz.func84, Tryz.ntmps84
  go_wp2
  generalize (((w.alloc (.cells (Ns a) 59)).alloc (.cells (Ns b) 59)).alloc (.cells (Ns Fd.none16) 59)).alloc (.cells (Ns Fd.none31) 149) = w1 at hb1 hb2 hb3 hb4 hbel ⊢
  go_loopw [6] (fun i wr => ∃ k : Nat, k ≤ 16 ∧ i = .int .i64 k ∧ Blk wr (w.heap.size + 1 + 1 + 1) (Ns (Fd.rowsTo a b k)) 149 ∧ Blk wr w.heap.size (Ns a) 59 ∧ Blk wr (w.heap.size + 1) (Ns b) 59 ∧ Blk wr (w.heap.size + 1 + 1) (Ns Fd.none16) 59 ∧ Below w.heap.size w wr) (fun i _ => 16 - (intOf i).toNat)
  case atStart => exact ⟨0, by omega, rfl, hb4, hb1, hb2, hb3, hbel⟩
  case round =>
    clear hb1 hb2 hb3 hb4 hbel
    obtain ⟨i, hi, rfl, hb4, hb1, hb2, hb3, hbel⟩ := hrel
    by_cases hlt : i < 16
    · have i0 : (i : Int) < 16 := by omega
      go_wp2
      go_loopw [7] (fun q wr => ∃ k : Nat, k ≤ 16 ∧ q = .int .i64 k ∧ Blk wr (w.heap.size + 1 + 1 + 1) (Ns (Fd.rowTo a b (Fd.rowsTo a b i) i k)) 149 ∧ Blk wr w.heap.size (Ns a) 59 ∧ Blk wr (w.heap.size + 1) (Ns b) 59 ∧ Blk wr (w.heap.size + 1 + 1) (Ns Fd.none16) 59 ∧ Below w.heap.size w wr) (fun q _ => 16 - (intOf q).toNat)
      case atStart => exact ⟨0, by omega, rfl, hb4, hb1, hb2, hb3, hbel⟩
      case round =>
        clear hb1 hb2 hb3 hb4 hbel
        obtain ⟨k, hk, rfl, hb4, hb1, hb2, hb3, hbel⟩ := hrel
        by_cases hkt : k < 16
        · have k0 : (k : Int) < 16 := by omega
          have hlr : (Fd.rowTo a b (Fd.rowsTo a b i) i k).length = 31 := by rw [Fd.rowTo_length, Fd.rowsTo_length]
          have hbd := (Fd.rowTo_bd a b (Fd.rowsTo a b i) i k _ HA.out HB.out (Fd.rowsTo_bd a b i HA.out HB.out)).1 (i + k)
          have HS : Hid (Fd.rowTo a b (Fd.rowsTo a b i) i (k + 1) = (Fd.rowTo a b (Fd.rowsTo a b i) i k).set (i + k) ((Fd.rowTo a b (Fd.rowsTo a b i) i k).getD (i + k) 0 + a.getD i 0 * b.getD k 0)) := rfl
          generalize Fd.rowTo a b (Fd.rowsTo a b i) i k = r at hb4 hlr hbd HS
          have hct := hb4.cell (i + k)
          rw [Ns_at _ _ (by omega)] at hct
          have hf := hb4.frozen (i + k)
          have hca := hb1.cell i
          rw [Ns_at _ _ (by omega)] at hca
          have hcb := hb2.cell k
          rw [Ns_at _ _ (by omega)] at hcb
          have hm := Fd.mul_bd _ _ (HA.out i) (HB.out k)
          generalize a.getD i 0 = x at hca hm HS
          generalize b.getD k 0 = y at hcb hm HS
          generalize r.getD (i + k) 0 = z at hct hbd HS
          have R1 := Ns_store (w := w) (i := i + k) (v := z + x * y) hb4 (by omega) hbel
          have w1' : IntKind.i64.wrap (x * y) = x * y := by rw [IntKind.wrap_i64]; omega
          have w2' : IntKind.i64.wrap (z + x * y) = z + x * y := by rw [IntKind.wrap_i64]; omega
          have w3' : IntKind.i64.wrap ((i : Int) + (k : Int)) = (i : Int) + (k : Int) := by rw [IntKind.wrap_i64]; omega
          have w4' : ((i : Int) + (k : Int)).toNat = i + k := by omega
          have w5' : (i : Int) + (k : Int) < 31 := by omega
          have w6' : (0 : Int) ≤ (i : Int) + (k : Int) := by omega
          clear hbd hm
          go_wp2_with fail
          go_region
          all_goals
            go_wp2
            go_roundw
            case rel =>
              refine ⟨k + 1, by omega, by go_num, ?_, R1.2.1 _ _ _ (by omega) hb1, R1.2.1 _ _ _ (by omega) hb2, R1.2.1 _ _ _ (by omega) hb3, R1.2.2.drew⟩
              rw [show Fd.rowTo a b (Fd.rowsTo a b i) i (k + 1) = _ from HS.out]; exact R1.1
            case measure => simp [intOf]; omega
        · have hk16 : k = 16 := by omega
          subst hk16
          rw [show ((16 : Nat) : Int) = 16 from rfl]
          go_wp2
          go_roundw
          case rel => exact ⟨i + 1, by omega, by go_num, hb4, hb1, hb2, hb3, hbel⟩
          case measure => simp [intOf]; omega
    · have hi16 : i = 16 := by omega
      subst hi16
      rw [show ((16 : Nat) : Int) = 16 from rfl]
      have hbdt : Fd.Bd 274877906944 (Fd.rowsTo a b 16) := (Fd.rowsTo_bd a b 16 HA.out HB.out).mono (by omega)
      have hlt31 := Fd.rowsTo_length a b 16
      generalize Fd.rowsTo a b 16 = t at hb4 hbdt hlt31 HR
      have HBT : Hid (Fd.Bd 274877906944 t) := hbdt
      clear hbdt
      have hc0 := Blk.new wr (Ns Fd.none16) 59
      have hd3 := hb3.alloc (.cells (Ns Fd.none16) 59)
      have hd4 := hb4.alloc (.cells (Ns Fd.none16) 59)
      have hbel2 : Below w.heap.size w (wr.alloc (.cells (Ns Fd.none16) 59)) := hbel.alloc hbel.size _
      have hC := hb4.lt
      clear hb1 hb2 hb3 hb4
      go_wp2
      generalize wr.alloc (.cells (Ns Fd.none16) 59) = w2 at hc0 hd3 hd4 hbel2 ⊢
      generalize wr.heap.size = C0 at hc0 hC ⊢
      clear hbel
      go_loopw [9] (fun q wr => ∃ k : Nat, k ≤ 16 ∧ q = .int .i64 k ∧ Blk wr C0 (Ns (Fd.foldTo t k)) 59 ∧ Blk wr (w.heap.size + 1 + 1 + 1) (Ns t) 149 ∧ Blk wr (w.heap.size + 1 + 1) (Ns Fd.none16) 59 ∧ Below w.heap.size w wr) (fun q _ => 16 - (intOf q).toNat)
      case atStart => exact ⟨0, by omega, rfl, hc0, hd4, hd3, hbel2⟩
      case round =>
        clear hc0 hd3 hd4 hbel2
        obtain ⟨k, hk, rfl, hc0, hb4, hb3, hbel⟩ := hrel
        by_cases hkt : k < 16
        · have k0 : (k : Int) < 16 := by omega
          have hlf := Fd.foldTo_length t k
          have ht1 := hb4.cell k
          rw [Ns_at _ _ (by omega)] at ht1
          have hcc := hc0.cell k
          rw [Ns_at _ _ (by omega)] at hcc
          have hf := hc0.frozen k
          have hy := HBT.out k
          by_cases hk15 : k < 15
          · have k1 : (k : Int) < 15 := by omega
            have HS : Hid (Fd.foldTo t (k + 1) = (Fd.foldTo t k).set k (t.getD k 0 + 38 * t.getD (k + 16) 0)) := by show _ = _; rw [Fd.foldTo, if_pos hk15]
            generalize Fd.foldTo t k = r at hc0 hlf hcc HS
            have ht2 := hb4.cell (k + 16)
            rw [Ns_at _ _ (by omega)] at ht2
            have hz2 := HBT.out (k + 16)
            generalize t.getD k 0 = x at ht1 hy HS
            generalize t.getD (k + 16) 0 = y at ht2 hz2 HS
            have R1 := Ns_store (w := w) (i := k) (v := x) hc0 (by omega) hbel
            have R2 := Ns_store (w := w) (i := k) (v := x + 38 * y) R1.1 (by omega) R1.2.2
            rw [List.set_set] at R2
            have hb4' := (R1.2.1 _ _ _ (by omega) hb4).cell (k + 16)
            have hb4s := R1.2.1 _ _ _ (by omega) hb4
            have hb3s := R1.2.1 _ _ _ (by omega) hb3
            have hcr := R1.1.cell k
            rw [Ns_at _ _ (by rw [List.length_set]; omega), getD_set_self _ _ _ (by omega)] at hcr
            have hfr := R1.1.frozen k
            have ht2' : (wr.setCell ⟨C0, k, none⟩ (.int .i64 x)).cell? ⟨w.heap.size + 1 + 1 + 1, k + 16, none⟩ = some (.int .i64 y) := by rw [hb4', ← hb4.cell (k + 16)]; exact ht2
            clear hb4'
            obtain ⟨y1, y2⟩ := hy
            obtain ⟨z1, z2⟩ := hz2
            have w1' : IntKind.i64.wrap (38 * y) = 38 * y := by rw [IntKind.wrap_i64]; omega
            have w2' : IntKind.i64.wrap (x + 38 * y) = x + 38 * y := by rw [IntKind.wrap_i64]; omega
            have w3' : IntKind.i64.wrap ((k : Int) + 16) = (k : Int) + 16 := by rw [IntKind.wrap_i64]; omega
            have w4' : ((k : Int) + 16).toNat = k + 16 := by omega
            have w5' : (k : Int) + 16 < 31 := by omega
            have w6' : (0 : Int) ≤ (k : Int) + 16 := by omega
            have RR1 : Hid _ := R1
            clear R1
            go_wp2_with fail
            go_region
            all_goals
              go_wp2
              go_roundw
              case rel =>
                refine ⟨k + 1, by omega, by go_num, ?_, R2.2.1 _ _ _ (by omega) hb4s, R2.2.1 _ _ _ (by omega) hb3s, R2.2.2.drew⟩
                rw [show Fd.foldTo t (k + 1) = _ from HS.out]; exact R2.1
              case measure => simp [intOf]; omega
          · have hk15' : k = 15 := by omega
            subst hk15'
            rw [show ((15 : Nat) : Int) = 15 from rfl]
            have HS : Hid (Fd.foldTo t 16 = (Fd.foldTo t 15).set 15 (t.getD 15 0)) := rfl
            generalize Fd.foldTo t 15 = r at hc0 hlf hcc HS
            generalize t.getD 15 0 = x at ht1 hy HS
            have R1 := Ns_store (w := w) (i := 15) (v := x) hc0 (by omega) hbel
            go_wp2
            go_roundw
            case rel =>
              refine ⟨16, by omega, by go_num, ?_, R1.2.1 _ _ _ (by omega) hb4, R1.2.1 _ _ _ (by omega) hb3, R1.2.2⟩
              rw [show Fd.foldTo t 16 = _ from HS.out]; exact R1.1
            case measure => simp [intOf]
        · have hk16 : k = 16 := by omega
          subst hk16
          have hlr := Fd.foldTo_length t 16
          have hBD : Fd.Bd 1125899906842624 (Fd.foldTo t 16) := (Fd.foldTo_bd t 16 HBT.out).1.mono (by omega)
          have hrl : (Fd.carry (Fd.foldTo t 16)).length = 16 := by unfold Fd.carry; rw [Fd.passes_length, hlr]
          generalize Fd.foldTo t 16 = r at hc0 hlr hBD HR hrl
          rw [← show R = Fd.carry r from HR.out] at hrl
          have HBD : Hid (Fd.Bd 1125899906842624 r) := hBD
          clear hBD
          have g0 := hc0
          unfold Blk at g0
          have e16 : (Ns r).size = 16 := by rw [Ns_size, hlr]
          have e16R : (Ns R).size = 16 := by rw [Ns_size, hrl]
          go_wp2_with (first
            | (go_at_call 143; refine (carry_any r _ hlr HBD.out).mono ?_; rw [← show R = Fd.carry r from HR.out]; rintro e w3 ⟨rfl, hb5⟩; have g3 : w3.heap[w.heap.size + 1 + 1]? = _ := hb3.keep hb5)
            | (refine wpList_load_row rfl 59 _ rfl C0 rfl 59 _ (0, 0) _ g0 Tryz.underlying59 rfl ?h1 ?_)
            | (refine wpList_store_row rfl 59 _ _ rfl (w.heap.size + 1 + 1) _ rfl rfl 59 _ g3 ?h2 ?h3 ?h4 ?_))
          case h1 => rw [e16]; exact Tryz.info16
          case h2 => rw [e16R]; exact Tryz.info16
          case h3 => rw [e16R]; rfl
          case h4 => exact Ns_one _
          have hb3' : Blk w3 (w.heap.size + 1 + 1) _ 59 := hb3.keep hb5
          refine bodyPost_ret (v := .agg (Ns R)) ?_ rfl ⟨rfl, below_setRow (hbel.trans (hb5.mono hbel.size)) (by omega) _⟩
          exact results_cell_row rfl _ _ (w.heap.size + 1 + 1) 59 _ (0, 0) _ rfl (hb3'.row _) Tryz.underlying59 rfl (by rw [e16R]; exact Tryz.info16)

end Go.Proofs.YtclpbaokadfhhaaGreatDoor
