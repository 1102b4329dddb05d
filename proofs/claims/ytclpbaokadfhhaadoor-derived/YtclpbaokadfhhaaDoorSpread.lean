/- Contract of spread. -/
import Derived.Test.YtclpbaokadfhhaaDoorWord
import Derived.Deep.RegionHeld3
import Derived.Laws.CopyOwn
namespace Go.Proofs.YtclpbaokadfhhaaDoor
open Go.RowKit

/-- word t of all rounds: the first sixteen are given -/
def Sha.sch (f : Nat → BitVec 64) (t : Nat) : BitVec 64 :=
  if t < 16 then f t else Sha.sm1 (Sha.sch f (t - 2)) + Sha.sch f (t - 7) + Sha.sm0 (Sha.sch f (t - 15)) + Sha.sch f (t - 16)
termination_by t

/-- a row of 80 words, of which the first k are told -/
def Sha.rowTo (W : Nat → BitVec 64) (k : Nat) : List (BitVec 64) := (List.range 80).map fun i => if i < k then W i else 0
theorem Sha.rowTo_length (W : Nat → BitVec 64) (k : Nat) : (Sha.rowTo W k).length = 80 := by simp [Sha.rowTo]
theorem Sha.rowTo_get (W : Nat → BitVec 64) (k i : Nat) (hi : i < k) (hk : k ≤ 80) : (Sha.rowTo W k).getD i 0 = W i := by
  have h : i < 80 := by omega
  simp [Sha.rowTo, List.getD, h, hi]
theorem Sha.rowTo_set (W : Nat → BitVec 64) (k : Nat) (hk : k < 80) : (Sha.rowTo W k).set k (W k) = Sha.rowTo W (k + 1) := by
  apply List.ext_getElem?
  intro i
  rw [List.getElem?_set]
  by_cases h : k = i
  · subst h; simp [Sha.rowTo, hk]
  · rw [if_neg h]
    by_cases h8 : i < 80
    · simp only [Sha.rowTo, List.getElem?_map, List.getElem?_range h8, Option.map_some]
      congr 1
      by_cases h2 : i < k
      · rw [if_pos h2, if_pos (by omega)]
      · rw [if_neg h2, if_neg (by omega)]
    · simp [Sha.rowTo, h8]

def Sha.none80 : List (BitVec 64) := List.replicate 80 0
theorem Sha.rowTo_zero (W : Nat → BitVec 64) : Sha.rowTo W 0 = Sha.none80 := by
  unfold Sha.rowTo Sha.none80
  rw [List.eq_replicate_iff]
  refine ⟨by simp, fun x hx => ?_⟩
  simp only [List.mem_map] at hx
  obtain ⟨i, _, h⟩ := hx
  rw [if_neg (by omega)] at h
  exact h.symm
theorem zero80 (w : World) : Sem.run Tryd.prog (zeroValue 47) w = .ok (.agg (Ws Sha.none80)) w := by kernel_rfl

theorem Tryd.info80 : (Tryd.prog.info? 47).map (·.size) = some 80 := by kernel_rfl
theorem Sha.sch_lt (F : Nat → BitVec 64) (k : Nat) (h : k < 16) : Sha.sch F k = F k := by rw [Sha.sch, if_pos h]
theorem Sha.sch_ge (F : Nat → BitVec 64) (k : Nat) (h : 16 ≤ k) : Sha.sch F k = Sha.sm1 (Sha.sch F (k - 2)) + Sha.sch F (k - 7) + Sha.sm0 (Sha.sch F (k - 15)) + Sha.sch F (k - 16) := by
  rw [Sha.sch, if_neg (by omega)]

theorem rowTo_store {w wr : World} {B k t : Nat} {x : Int} {W : Nat → BitVec 64} (hk : k < 80) (hb1 : Blk wr B (Ws (Sha.rowTo W k)) t) (hle : w.heap.size ≤ B) (hbel : Below w.heap.size w wr) (hw : x = U (W k)) :
    Blk (wr.setCell ⟨B, k, none⟩ (.int .u64 x)) B (Ws (Sha.rowTo W (k + 1))) t ∧ (∀ b' cs t', b' ≠ B → Blk wr b' cs t' → Blk (wr.setCell ⟨B, k, none⟩ (.int .u64 x)) b' cs t') ∧ Below w.heap.size w (wr.setCell ⟨B, k, none⟩ (.int .u64 x)) := by
  subst hw
  refine ⟨?_, ?_, hbel.setCell hle _⟩
  · rw [hb1.set, Ws_set, Sha.rowTo_set _ _ hk]; exact hb1.row _
  · intro b' cs t' hne hb'
    rw [hb1.set]; exact hb'.other hne _

set_option maxRecDepth 100000 in
set_option maxHeartbeats 1000000 in
theorem spread_any (b off cap : Nat) (f : Nat → UInt8) (w : World) (hm : cap ≤ 9223372036854775807) (hcap : 128 ≤ cap)
    (hc : ∀ i, i < 128 → w.cell? ⟨b, off + i, none⟩ = some (.int .u8 (f i).toNat)) :
    Calls Tryd.prog 29 #[.slice (some ⟨b, off, none⟩) 128 cap] w fun e w' =>
      e = .returned (.agg (Ws (Sha.rowTo (Sha.sch fun t => Sha.wd (fun i => f (8 * t + i)) 8) 80))) ∧ Below w.heap.size w w' := by
  have hz := zero80
  have hblt : b < w.heap.size := block_lt_of_cell (hc 0 (by omega))
  have HC : Hid _ := hc
  clear hc
  generalize hW : (fun t => Sha.wd (fun i => f (8 * t + i)) 8) = F
  have HW : Hid _ := hW; clear hW
  go_enter Tryd.func29, Tryd.ntmps29
  go_wp2
  go_loopw [6] (fun i wr => ∃ k : Nat, k ≤ 16 ∧ i = .int .i64 k ∧ Blk wr (w.heap.size + 1) (Ws (Sha.rowTo (Sha.sch F) k)) 47 ∧ Blk wr w.heap.size (Ws Sha.none80) 47 ∧ Below w.heap.size w wr) (fun i _ => 16 - (intOf i).toNat)
  case atStart =>
    refine ⟨0, Nat.zero_le _, rfl, ?_, ?_, ((Below.refl _ _).alloc (Nat.le_refl _) _).alloc (by simp) _⟩
    · rw [Sha.rowTo_zero]; exact heap_alloc2_new w _ _
    · exact heap_alloc2_old w _ _
  case round =>
    obtain ⟨k, hk, rfl, hb1, hb0, hbel⟩ := hrel
    by_cases hlt : k < 16
    · have g1 := hb1.cell k
      rw [Ws_at _ _ (by rw [Sha.rowTo_length]; omega)] at g1
      have g2 := hb1.frozen k
      go_wp2_with fail
      refine (word_any b (off + k * 8) _ _ (fun i => f (8 * k + i)) wr (by omega) (by omega) (by omega) ?_).mono ?_
      · intro i hi
        have := HC.out (8 * k + i) (by omega)
        rw [← hbel.cell (p := ⟨b, off + (8 * k + i), none⟩) hblt] at this
        rw [show off + k * 8 + i = off + (8 * k + i) by omega]; exact this
      · rintro e w' ⟨rfl, rfl⟩
        go_wp2
        have R := rowTo_store (B := w.heap.size + 1) (k := k) (x := U (Sha.wd (fun i => f (8 * k + i)) 8)) (by omega) hb1 (by omega) hbel (by rw [Sha.sch_lt _ _ hlt, ← HW.out])
        go_roundw
        case rel => exact ⟨k + 1, by omega, by go_num, R.1, R.2.1 _ _ _ (by omega) hb0, R.2.2⟩
        case measure => simp [intOf]; omega
    · have hk16 : k = 16 := by omega
      subst hk16
      rw [show ((16 : Nat) : Int) = 16 from rfl]
      go_wp2
      go_loopw [5] (fun i wr => ∃ k : Nat, 16 ≤ k ∧ k ≤ 80 ∧ i = .int .i64 k ∧ Blk wr (w.heap.size + 1) (Ws (Sha.rowTo (Sha.sch F) k)) 47 ∧ Blk wr w.heap.size (Ws Sha.none80) 47 ∧ Below w.heap.size w wr) (fun i _ => 80 - (intOf i).toNat)
      case atStart => exact ⟨16, by omega, by omega, rfl, hb1, hb0, hbel⟩
      case round =>
        clear hb1 hb0 hbel
        obtain ⟨k, hk0, hk, rfl, hb1, hb0, hbel⟩ := hrel
        by_cases hlt : k < 80
        · have g1 := hb1.cell k
          rw [Ws_at _ _ (by rw [Sha.rowTo_length]; omega)] at g1
          have g2 := hb1.frozen k
          have c2 := hb1.cell (k - 2)
          rw [Ws_at _ _ (by rw [Sha.rowTo_length]; omega), Sha.rowTo_get _ _ _ (by omega) hk] at c2
          have c7 := hb1.cell (k - 7)
          rw [Ws_at _ _ (by rw [Sha.rowTo_length]; omega), Sha.rowTo_get _ _ _ (by omega) hk] at c7
          have c15 := hb1.cell (k - 15)
          rw [Ws_at _ _ (by rw [Sha.rowTo_length]; omega), Sha.rowTo_get _ _ _ (by omega) hk] at c15
          have c16 := hb1.cell (k - 16)
          rw [Ws_at _ _ (by rw [Sha.rowTo_length]; omega), Sha.rowTo_get _ _ _ (by omega) hk] at c16
          have i0 : (k : Int) < 80 := by omega
          have i2 : (0 : Int) ≤ (k : Int) - 2 ∧ (k : Int) - 2 < 80 ∧ ((k : Int) - 2).toNat = k - 2 := by omega
          have i7 : (0 : Int) ≤ (k : Int) - 7 ∧ (k : Int) - 7 < 80 ∧ ((k : Int) - 7).toNat = k - 7 := by omega
          have i15 : (0 : Int) ≤ (k : Int) - 15 ∧ (k : Int) - 15 < 80 ∧ ((k : Int) - 15).toNat = k - 15 := by omega
          have i16 : (0 : Int) ≤ (k : Int) - 16 ∧ (k : Int) - 16 < 80 ∧ ((k : Int) - 16).toNat = k - 16 := by omega
          obtain ⟨i2a, i2b, i2c⟩ := i2
          obtain ⟨i7a, i7b, i7c⟩ := i7
          obtain ⟨i15a, i15b, i15c⟩ := i15
          obtain ⟨i16a, i16b, i16c⟩ := i16
          have j2 : IntKind.i64.wrap ((k : Int) - 2) = (k : Int) - 2 := by rw [IntKind.wrap_i64]; omega
          have j7 : IntKind.i64.wrap ((k : Int) - 7) = (k : Int) - 7 := by rw [IntKind.wrap_i64]; omega
          have j15 : IntKind.i64.wrap ((k : Int) - 15) = (k : Int) - 15 := by rw [IntKind.wrap_i64]; omega
          have j16 : IntKind.i64.wrap ((k : Int) - 16) = (k : Int) - 16 := by rw [IntKind.wrap_i64]; omega
          have l2 : (2 : Int) ≤ (k : Int) := by omega
          have l7 : (7 : Int) ≤ (k : Int) := by omega
          have l15 : (15 : Int) ≤ (k : Int) := by omega
          have l16 : (16 : Int) ≤ (k : Int) := by omega
          have q2 : ∀ (wx : World) (v : Value), (wx.setCell ⟨w.heap.size + 1, k, none⟩ v).cell? ⟨w.heap.size + 1, k - 2, none⟩ = wx.cell? ⟨w.heap.size + 1, k - 2, none⟩ := fun wx v => cell_set_off _ _ _ _ _ (by omega)
          have q7 : ∀ (wx : World) (v : Value), (wx.setCell ⟨w.heap.size + 1, k, none⟩ v).cell? ⟨w.heap.size + 1, k - 7, none⟩ = wx.cell? ⟨w.heap.size + 1, k - 7, none⟩ := fun wx v => cell_set_off _ _ _ _ _ (by omega)
          have q15 : ∀ (wx : World) (v : Value), (wx.setCell ⟨w.heap.size + 1, k, none⟩ v).cell? ⟨w.heap.size + 1, k - 15, none⟩ = wx.cell? ⟨w.heap.size + 1, k - 15, none⟩ := fun wx v => cell_set_off _ _ _ _ _ (by omega)
          have q16 : ∀ (wx : World) (v : Value), (wx.setCell ⟨w.heap.size + 1, k, none⟩ v).cell? ⟨w.heap.size + 1, k - 16, none⟩ = wx.cell? ⟨w.heap.size + 1, k - 16, none⟩ := fun wx v => cell_set_off _ _ _ _ _ (by omega)
          go_wp2_with fail
          go_region_held3 (fun w' => w'.cell? ⟨w.heap.size + 1, k - 2, none⟩ = some (.int .u64 (U (Sha.sch F (k - 2)))) ∧ w'.cell? ⟨w.heap.size + 1, k - 7, none⟩ = some (.int .u64 (U (Sha.sch F (k - 7)))) ∧ w'.cell? ⟨w.heap.size + 1, k - 15, none⟩ = some (.int .u64 (U (Sha.sch F (k - 15)))) ∧ w'.cell? ⟨w.heap.size + 1, k - 16, none⟩ = some (.int .u64 (U (Sha.sch F (k - 16))))) (go_keep)
            (first | (go_at_call 53; refine (smallOne_any _ _).mono ?_; rintro e w' ⟨rfl, rfl⟩) | (go_at_call 54; refine (smallZero_any _ _).mono ?_; rintro e w' ⟨rfl, rfl⟩))
          all_goals
            go_wp2
            have R := rowTo_store (w := w) (wr := wr) (B := w.heap.size + 1) (k := k) (W := Sha.sch F) (x := IntKind.u64.wrap (IntKind.u64.wrap (IntKind.u64.wrap (U (Sha.sm1 (Sha.sch F (k - 2))) + U (Sha.sch F (k - 7))) + U (Sha.sm0 (Sha.sch F (k - 15)))) + U (Sha.sch F (k - 16)))) (by omega) hb1 (by omega) hbel (by rw [U_add, U_add, U_add, Sha.sch_ge F k hk0])
            go_roundw
            case rel => exact ⟨k + 1, by omega, by omega, by go_num, R.1, R.2.1 _ _ _ (by omega) hb0, R.2.2.drew⟩
            case measure => simp [intOf]; omega
        · have hk80 : k = 80 := by omega
          subst hk80
          have g0 := hb0; have g1 := hb1
          unfold Blk at g0 g1
          go_wp2_with (first
            | (refine wpList_load_row rfl 47 _ rfl (w.heap.size + 1) rfl 47 _ (0, 0) _ g1 Tryd.underlying47 rfl (by rw [Ws_size, Sha.rowTo_length]; exact Tryd.info80) ?_)
            | (refine wpList_store_row rfl 47 _ _ rfl w.heap.size _ rfl rfl 47 _ g0 (by rw [Ws_size, Sha.rowTo_length]; exact Tryd.info80) (by rw [Ws_size, Ws_size, Sha.rowTo_length]; rfl) (Ws_one _) ?_))
          refine bodyPost_ret (v := .agg (Ws (Sha.rowTo (Sha.sch F) 80))) ?_ rfl ⟨rfl, below_setRow hbel (Nat.le_refl _) _⟩
          exact results_cell_row rfl _ _ w.heap.size 47 _ (0, 0) _ rfl (hb0.row _) Tryd.underlying47 rfl (by rw [Ws_size, Sha.rowTo_length]; exact Tryd.info80)

end Go.Proofs.YtclpbaokadfhhaaDoor
