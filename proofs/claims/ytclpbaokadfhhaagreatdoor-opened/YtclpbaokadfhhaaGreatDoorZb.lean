/- Several texts as one: Word, Spread, Stir, Tell, Pad. -/
import Derived.Test.YtclpbaokadfhhaaGreatDoorZa
import Derived.Deep.RegionHeld3
import Derived.Laws.CopyOwn
import Derived.Deep.QuietTactic
import Derived.BigQuiet
import Derived.Deep.OwnRows
import Derived.Laws.IdiomStrings
import Derived.Lib.BufferWrite
import Derived.Lib.SlBuf
import Derived.Deep.WholeRow
namespace Go.Proofs.YtclpbaokadfhhaaGreatDoor
open Go.RowKit

/-- k bytes, the highest first, as a word -/
def Sha.wd (f : Nat → UInt8) : Nat → BitVec 64
  | 0 => 0
  | k + 1 => Sha.wd f k <<< 8 ||| BitVec.ofNat 64 (f k).toNat

theorem wd_step (x : BitVec 64) (c : UInt8) : bits BinOp.or IntKind.u64 (IntKind.u64.wrap (U x * 256)) (IntKind.u64.wrap (c.toNat : Int)) = U (x <<< 8 ||| BitVec.ofNat 64 c.toNat) := by
  have h : c.toNat < 256 := c.toNat_lt
  rw [show (256 : Int) = 2 ^ 8 from rfl, U_shl, U_of c.toNat (by omega), U_wrap, U_or]

set_option maxRecDepth 100000 in
set_option maxHeartbeats 400000 in
theorem word_any (b off len cap : Nat) (f : Nat → UInt8) (w : World) (hl : 8 ≤ len) (hm : len ≤ 9223372036854775807) (_hcap : len ≤ cap)
    (hc : ∀ i, i < 8 → w.cell? ⟨b, off + i, none⟩ = some (.int .u8 (f i).toNat)) :
    Calls Tryz.prog 210 #[.slice (some ⟨b, off, none⟩) len cap] w fun e w' => e = .returned (.int .u64 (U (Sha.wd f 8))) ∧ w' = w := by
  go_enter Tryz.func210, Tryz.ntmps210
  go_wp2
  go_loop [3, 9] (fun x i => ∃ k : Nat, k ≤ 8 ∧ i = .int .i64 k ∧ x = .int .u64 (U (Sha.wd f k))) (fun _ i => 8 - (intOf i).toNat)
  case atStart => exact ⟨0, Nat.zero_le _, rfl, rfl⟩
  case round =>
    obtain ⟨k, hk, rfl, rfl⟩ := hrel
    by_cases hlt : k < 8
    · have hc' := hc k hlt
      clear hc
      have HW : Hid _ := wd_step (Sha.wd f k) (f k)
      go_wp2
      go_round
      case rel => exact ⟨k + 1, by omega, by go_num, int_eq HW.out⟩
      case measure => simp [intOf]; omega
    · have : k = 8 := by omega
      subst this
      go_wp2
      go_ret
      exact ⟨rfl, rfl⟩

/-- byte k of a word, the highest first -/
def Sha.byteAt (x : BitVec 64) (k : Nat) : UInt8 := UInt8.ofNat (x >>> (56 - 8 * k)).toNat
/-- the first k bytes of a word, put from a place on -/
def Sha.put (l : List UInt8) (off : Nat) (x : BitVec 64) : Nat → List UInt8
  | 0 => l
  | k + 1 => (Sha.put l off x k).set (off + k) (Sha.byteAt x k)
theorem byteAt_eq (x : BitVec 64) (k : Nat) : U x / 2 ^ (56 - 8 * k) % 256 = ((Sha.byteAt x k).toNat : Int) := by
  rw [U_shr]; unfold Sha.byteAt U; simp
theorem Sha.put_length (l : List UInt8) (off : Nat) (x : BitVec 64) (k : Nat) : (Sha.put l off x k).length = l.length := by
  induction k with
  | zero => rfl
  | succ k ih => simp [Sha.put, ih]

set_option maxRecDepth 100000 in
set_option maxHeartbeats 400000 in
theorem putWord_any (b off len cap t : Nat) (l : List UInt8) (x : BitVec 64) (w : World) (hl : 8 ≤ len) (hm : len ≤ 9223372036854775807) (_hcap : len ≤ cap)
    (hb : Blk w b (Bs l) t) (hlen : off + 8 ≤ l.length) :
    Calls Tryz.prog 205 #[.slice (some ⟨b, off, none⟩) len cap, .int .u64 (U x)] w fun e w' => e = .returned (.tuple #[]) ∧ w' = w.setRow b (Bs (Sha.put l off x 8)) := by
  go_enter Tryz.func205, Tryz.ntmps205
  go_wp2
  go_loopw [5] (fun i wr => ∃ k : Nat, k ≤ 8 ∧ i = .int .i64 k ∧ wr = w.setRow b (Bs (Sha.put l off x k))) (fun i _ => 8 - (intOf i).toNat)
  case atStart => exact ⟨0, Nat.zero_le _, rfl, (setRow_self w b _ t (0, 0) hb).symm⟩
  case round =>
    obtain ⟨k, hk, rfl, rfl⟩ := hrel
    by_cases hlt : k < 8
    · have h1 := (hb.row (Bs (Sha.put l off x k))).cell (off + k)
      rw [Bs_at _ _ (by rw [Sha.put_length]; omega)] at h1
      have h2 := (hb.row (Bs (Sha.put l off x k))).frozen (off + k)
      go_wp2
      go_roundw
      case rel => exact ⟨k + 1, by omega, by go_num, by rw [byteAt_eq, (hb.row _).set, setRow_setRow, Bs_set]; rfl⟩
      case measure => simp [intOf]; omega
    · have : k = 8 := by omega
      subst this
      go_wp2
      go_end0
      exact ⟨rfl, rfl⟩

end Go.Proofs.YtclpbaokadfhhaaGreatDoor

namespace Go.Proofs.YtclpbaokadfhhaaGreatDoor
open Go.RowKit

/-- word t of all rounds: the first sixteen are given -/
def Sha.schF (f : Nat → BitVec 64) : Nat → Nat → BitVec 64
  | 0, _ => 0
  | n + 1, t => if t < 16 then f t else Sha.sm1 (Sha.schF f n (t - 2)) + Sha.schF f n (t - 7) + Sha.sm0 (Sha.schF f n (t - 15)) + Sha.schF f n (t - 16)
theorem Sha.schF_more (f : Nat → BitVec 64) : ∀ n m t : Nat, t < n → t < m → Sha.schF f n t = Sha.schF f m t
  | 0, _, _, h, _ => by omega
  | _, 0, _, _, h => by omega
  | n + 1, m + 1, t, hn, hm => by
    rw [Sha.schF, Sha.schF]
    by_cases h : t < 16
    · rw [if_pos h, if_pos h]
    · rw [if_neg h, if_neg h, Sha.schF_more f n m (t - 2) (by omega) (by omega), Sha.schF_more f n m (t - 7) (by omega) (by omega), Sha.schF_more f n m (t - 15) (by omega) (by omega), Sha.schF_more f n m (t - 16) (by omega) (by omega)]
def Sha.sch (f : Nat → BitVec 64) (t : Nat) : BitVec 64 := Sha.schF f (t + 1) t

/-- a row of 80 words, of which the first k are told -/
def Sha.rowTo (W : Nat → BitVec 64) (k : Nat) : List (BitVec 64) := (List.range 80).map fun i => if i < k then W i else 0
theorem Sha.rowTo_length (W : Nat → BitVec 64) (k : Nat) : (Sha.rowTo W k).length = 80 := by simp [Sha.rowTo]
theorem Sha.rowTo_get (W : Nat → BitVec 64) (k i : Nat) (hi : i < k) (hk : k ≤ 80) : (Sha.rowTo W k).getD i 0 = W i := by
  have h : i < 80 := by omega
  simp [Sha.rowTo, List.getD, h, hi]
theorem Sha.rowTo_set (W : Nat → BitVec 64) (k : Nat) (hk : k < 80) : (Sha.rowTo W k).set k (W k) = Sha.rowTo W (k + 1) := by
  apply List.ext_getElem?
  intro i
  rw [List.getElem?_set]
  by_cases h : k = i
  · subst h; simp [Sha.rowTo, hk]
  · rw [if_neg h]
    by_cases h8 : i < 80
    · simp only [Sha.rowTo, List.getElem?_map, List.getElem?_range h8, Option.map_some]
      congr 1
      by_cases h2 : i < k
      · rw [if_pos h2, if_pos (by omega)]
      · rw [if_neg h2, if_neg (by omega)]
    · simp [Sha.rowTo, h8]

def Sha.none80 : List (BitVec 64) := List.replicate 80 0
theorem Sha.rowTo_zero (W : Nat → BitVec 64) : Sha.rowTo W 0 = Sha.none80 := by
  unfold Sha.rowTo Sha.none80
  rw [List.eq_replicate_iff]
  refine ⟨by simp, fun x hx => ?_⟩
  simp only [List.mem_map] at hx
  obtain ⟨i, _, h⟩ := hx
  rw [if_neg (by omega)] at h
  exact h.symm
theorem zero80 (w : World) : Sem.run Tryz.prog (zeroValue 146) w = .ok (.agg (Ws Sha.none80)) w := by kernel_rfl

theorem Tryz.info80 : (Tryz.prog.info? 146).map (·.size) = some 80 := by kernel_rfl
theorem Sha.sch_lt (F : Nat → BitVec 64) (k : Nat) (h : k < 16) : Sha.sch F k = F k := by rw [Sha.sch, Sha.schF, if_pos h]
theorem Sha.sch_ge (F : Nat → BitVec 64) (k : Nat) (h : 16 ≤ k) : Sha.sch F k = Sha.sm1 (Sha.sch F (k - 2)) + Sha.sch F (k - 7) + Sha.sm0 (Sha.sch F (k - 15)) + Sha.sch F (k - 16) := by
  show Sha.schF F (k + 1) k = Sha.sm1 (Sha.schF F (k - 2 + 1) (k - 2)) + Sha.schF F (k - 7 + 1) (k - 7) + Sha.sm0 (Sha.schF F (k - 15 + 1) (k - 15)) + Sha.schF F (k - 16 + 1) (k - 16)
  rw [Sha.schF, if_neg (by omega), Sha.schF_more F k (k - 2 + 1) (k - 2) (by omega) (by omega), Sha.schF_more F k (k - 7 + 1) (k - 7) (by omega) (by omega), Sha.schF_more F k (k - 15 + 1) (k - 15) (by omega) (by omega), Sha.schF_more F k (k - 16 + 1) (k - 16) (by omega) (by omega)]

theorem rowTo_store {w wr : World} {B k t : Nat} {x : Int} {W : Nat → BitVec 64} (hk : k < 80) (hb1 : Blk wr B (Ws (Sha.rowTo W k)) t) (hle : w.heap.size ≤ B) (hbel : Below w.heap.size w wr) (hw : x = U (W k)) :
    Blk (wr.setCell ⟨B, k, none⟩ (.int .u64 x)) B (Ws (Sha.rowTo W (k + 1))) t ∧ (∀ b' cs t', b' ≠ B → Blk wr b' cs t' → Blk (wr.setCell ⟨B, k, none⟩ (.int .u64 x)) b' cs t') ∧ Below w.heap.size w (wr.setCell ⟨B, k, none⟩ (.int .u64 x)) := by
  subst hw
  refine ⟨?_, ?_, hbel.setCell hle _⟩
  · rw [hb1.set, Ws_set, Sha.rowTo_set _ _ hk]; exact hb1.row _
  · intro b' cs t' hne hb'
    rw [hb1.set]; exact hb'.other hne _

set_option maxRecDepth 100000 in
set_option maxHeartbeats 1000000 in
theorem spread_any (b off cap : Nat) (f : Nat → UInt8) (w : World) (hm : cap ≤ 9223372036854775807) (hcap : 128 ≤ cap)
    (hc : ∀ i, i < 128 → w.cell? ⟨b, off + i, none⟩ = some (.int .u8 (f i).toNat)) :
    Calls Tryz.prog 171 #[.slice (some ⟨b, off, none⟩) 128 cap] w fun e w' =>
      e = .returned (.agg (Ws (Sha.rowTo (Sha.sch fun t => Sha.wd (fun i => f (8 * t + i)) 8) 80))) ∧ Below w.heap.size w w' := by
  have hz := zero80
  have hblt : b < w.heap.size := block_lt_of_cell (hc 0 (by omega))
  have HC : Hid _ := hc
  clear hc
  generalize hW : (fun t => Sha.wd (fun i => f (8 * t + i)) 8) = F
  have HW : Hid _ := hW; clear hW
  go_enter Tryz.func171, Tryz.ntmps171
  go_wp2
  go_loopw [6] (fun i wr => ∃ k : Nat, k ≤ 16 ∧ i = .int .i64 k ∧ Blk wr (w.heap.size + 1) (Ws (Sha.rowTo (Sha.sch F) k)) 146 ∧ Blk wr w.heap.size (Ws Sha.none80) 146 ∧ Below w.heap.size w wr) (fun i _ => 16 - (intOf i).toNat)
  case atStart =>
    refine ⟨0, Nat.zero_le _, rfl, ?_, ?_, ((Below.refl _ _).alloc (Nat.le_refl _) _).alloc (by simp) _⟩
    · rw [Sha.rowTo_zero]; exact heap_alloc2_new w _ _
    · exact heap_alloc2_old w _ _
  case round =>
    obtain ⟨k, hk, rfl, hb1, hb0, hbel⟩ := hrel
    by_cases hlt : k < 16
    · have g1 := hb1.cell k
      rw [Ws_at _ _ (by rw [Sha.rowTo_length]; omega)] at g1
      have g2 := hb1.frozen k
      go_wp2_with fail
      refine (word_any b (off + k * 8) _ _ (fun i => f (8 * k + i)) wr (by omega) (by omega) (by omega) ?_).mono ?_
      · intro i hi
        have := HC.out (8 * k + i) (by omega)
        rw [← hbel.cell (p := ⟨b, off + (8 * k + i), none⟩) hblt] at this
        rw [show off + k * 8 + i = off + (8 * k + i) by omega]; exact this
      · rintro e w' ⟨rfl, rfl⟩
        go_wp2
        have R := rowTo_store (B := w.heap.size + 1) (k := k) (x := U (Sha.wd (fun i => f (8 * k + i)) 8)) (by omega) hb1 (by omega) hbel (by rw [Sha.sch_lt _ _ hlt, ← HW.out])
        go_roundw
        case rel => exact ⟨k + 1, by omega, by go_num, R.1, R.2.1 _ _ _ (by omega) hb0, R.2.2⟩
        case measure => simp [intOf]; omega
    · have hk16 : k = 16 := by omega
      subst hk16
      rw [show ((16 : Nat) : Int) = 16 from rfl]
      go_wp2
      go_loopw [5] (fun i wr => ∃ k : Nat, 16 ≤ k ∧ k ≤ 80 ∧ i = .int .i64 k ∧ Blk wr (w.heap.size + 1) (Ws (Sha.rowTo (Sha.sch F) k)) 146 ∧ Blk wr w.heap.size (Ws Sha.none80) 146 ∧ Below w.heap.size w wr) (fun i _ => 80 - (intOf i).toNat)
      case atStart => exact ⟨16, by omega, by omega, rfl, hb1, hb0, hbel⟩
      case round =>
        clear hb1 hb0 hbel
        obtain ⟨k, hk0, hk, rfl, hb1, hb0, hbel⟩ := hrel
        by_cases hlt : k < 80
        · have g1 := hb1.cell k
          rw [Ws_at _ _ (by rw [Sha.rowTo_length]; omega)] at g1
          have g2 := hb1.frozen k
          have c2 := hb1.cell (k - 2)
          rw [Ws_at _ _ (by rw [Sha.rowTo_length]; omega), Sha.rowTo_get _ _ _ (by omega) hk] at c2
          have c7 := hb1.cell (k - 7)
          rw [Ws_at _ _ (by rw [Sha.rowTo_length]; omega), Sha.rowTo_get _ _ _ (by omega) hk] at c7
          have c15 := hb1.cell (k - 15)
          rw [Ws_at _ _ (by rw [Sha.rowTo_length]; omega), Sha.rowTo_get _ _ _ (by omega) hk] at c15
          have c16 := hb1.cell (k - 16)
          rw [Ws_at _ _ (by rw [Sha.rowTo_length]; omega), Sha.rowTo_get _ _ _ (by omega) hk] at c16
          have i0 : (k : Int) < 80 := by omega
          have i2 : (0 : Int) ≤ (k : Int) - 2 ∧ (k : Int) - 2 < 80 ∧ ((k : Int) - 2).toNat = k - 2 := by omega
          have i7 : (0 : Int) ≤ (k : Int) - 7 ∧ (k : Int) - 7 < 80 ∧ ((k : Int) - 7).toNat = k - 7 := by omega
          have i15 : (0 : Int) ≤ (k : Int) - 15 ∧ (k : Int) - 15 < 80 ∧ ((k : Int) - 15).toNat = k - 15 := by omega
          have i16 : (0 : Int) ≤ (k : Int) - 16 ∧ (k : Int) - 16 < 80 ∧ ((k : Int) - 16).toNat = k - 16 := by omega
          obtain ⟨i2a, i2b, i2c⟩ := i2
          obtain ⟨i7a, i7b, i7c⟩ := i7
          obtain ⟨i15a, i15b, i15c⟩ := i15
          obtain ⟨i16a, i16b, i16c⟩ := i16
          have j2 : IntKind.i64.wrap ((k : Int) - 2) = (k : Int) - 2 := by rw [IntKind.wrap_i64]; omega
          have j7 : IntKind.i64.wrap ((k : Int) - 7) = (k : Int) - 7 := by rw [IntKind.wrap_i64]; omega
          have j15 : IntKind.i64.wrap ((k : Int) - 15) = (k : Int) - 15 := by rw [IntKind.wrap_i64]; omega
          have j16 : IntKind.i64.wrap ((k : Int) - 16) = (k : Int) - 16 := by rw [IntKind.wrap_i64]; omega
          have l2 : (2 : Int) ≤ (k : Int) := by omega
          have l7 : (7 : Int) ≤ (k : Int) := by omega
          have l15 : (15 : Int) ≤ (k : Int) := by omega
          have l16 : (16 : Int) ≤ (k : Int) := by omega
          have q2 : ∀ (wx : World) (v : Value), (wx.setCell ⟨w.heap.size + 1, k, none⟩ v).cell? ⟨w.heap.size + 1, k - 2, none⟩ = wx.cell? ⟨w.heap.size + 1, k - 2, none⟩ := fun wx v => cell_set_off _ _ _ _ _ (by omega)
          have q7 : ∀ (wx : World) (v : Value), (wx.setCell ⟨w.heap.size + 1, k, none⟩ v).cell? ⟨w.heap.size + 1, k - 7, none⟩ = wx.cell? ⟨w.heap.size + 1, k - 7, none⟩ := fun wx v => cell_set_off _ _ _ _ _ (by omega)
          have q15 : ∀ (wx : World) (v : Value), (wx.setCell ⟨w.heap.size + 1, k, none⟩ v).cell? ⟨w.heap.size + 1, k - 15, none⟩ = wx.cell? ⟨w.heap.size + 1, k - 15, none⟩ := fun wx v => cell_set_off _ _ _ _ _ (by omega)
          have q16 : ∀ (wx : World) (v : Value), (wx.setCell ⟨w.heap.size + 1, k, none⟩ v).cell? ⟨w.heap.size + 1, k - 16, none⟩ = wx.cell? ⟨w.heap.size + 1, k - 16, none⟩ := fun wx v => cell_set_off _ _ _ _ _ (by omega)
          go_wp2_with fail
          go_region_held3 (fun w' => w'.cell? ⟨w.heap.size + 1, k - 2, none⟩ = some (.int .u64 (U (Sha.sch F (k - 2)))) ∧ w'.cell? ⟨w.heap.size + 1, k - 7, none⟩ = some (.int .u64 (U (Sha.sch F (k - 7)))) ∧ w'.cell? ⟨w.heap.size + 1, k - 15, none⟩ = some (.int .u64 (U (Sha.sch F (k - 15)))) ∧ w'.cell? ⟨w.heap.size + 1, k - 16, none⟩ = some (.int .u64 (U (Sha.sch F (k - 16))))) (go_keep)
            (first | (go_at_call 211; refine (smallOne_any _ _).mono ?_; rintro e w' ⟨rfl, rfl⟩) | (go_at_call 212; refine (smallZero_any _ _).mono ?_; rintro e w' ⟨rfl, rfl⟩))
          all_goals
            go_wp2
            have R := rowTo_store (w := w) (wr := wr) (B := w.heap.size + 1) (k := k) (W := Sha.sch F) (x := IntKind.u64.wrap (IntKind.u64.wrap (IntKind.u64.wrap (U (Sha.sm1 (Sha.sch F (k - 2))) + U (Sha.sch F (k - 7))) + U (Sha.sm0 (Sha.sch F (k - 15)))) + U (Sha.sch F (k - 16)))) (by omega) hb1 (by omega) hbel (by rw [U_add, U_add, U_add, Sha.sch_ge F k hk0])
            go_roundw
            case rel => exact ⟨k + 1, by omega, by omega, by go_num, R.1, R.2.1 _ _ _ (by omega) hb0, R.2.2.drew⟩
            case measure => simp [intOf]; omega
        · have hk80 : k = 80 := by omega
          subst hk80
          have g0 := hb0; have g1 := hb1
          unfold Blk at g0 g1
          go_wp2_with (first
            | (refine wpList_load_row rfl 146 _ rfl (w.heap.size + 1) rfl 146 _ (0, 0) _ g1 Tryz.underlying146 rfl (by rw [Ws_size, Sha.rowTo_length]; exact Tryz.info80) ?_)
            | (refine wpList_store_row rfl 146 _ _ rfl w.heap.size _ rfl rfl 146 _ g0 (by rw [Ws_size, Sha.rowTo_length]; exact Tryz.info80) (by rw [Ws_size, Ws_size, Sha.rowTo_length]; rfl) (Ws_one _) ?_))
          refine bodyPost_ret (v := .agg (Ws (Sha.rowTo (Sha.sch F) 80))) ?_ rfl ⟨rfl, below_setRow hbel (Nat.le_refl _) _⟩
          exact results_cell_row rfl _ _ w.heap.size 146 _ (0, 0) _ rfl (hb0.row _) Tryz.underlying146 rfl (by rw [Ws_size, Sha.rowTo_length]; exact Tryz.info80)

end Go.Proofs.YtclpbaokadfhhaaGreatDoor

namespace Go.Proofs.YtclpbaokadfhhaaGreatDoor
open Go.RowKit

structure Sha.St where
  (a b c d e f g h : BitVec 64)
/-- one round, with its constant and its word -/
def Sha.rnd (k w : BitVec 64) (s : Sha.St) : Sha.St :=
  let x := s.h + Sha.bg1 s.e + Sha.ch s.e s.f s.g + k + w
  let y := Sha.bg0 s.a + Sha.maj s.a s.b s.c
  ⟨x + y, s.a, s.b, s.c, s.d + x, s.e, s.f, s.g⟩
def Sha.rnds (K W : Nat → BitVec 64) (s : Sha.St) : Nat → Sha.St
  | 0 => s
  | n + 1 => Sha.rnd (K n) (W n) (Sha.rnds K W s n)
def Sha.St.list (s : Sha.St) : List (BitVec 64) := [s.a, s.b, s.c, s.d, s.e, s.f, s.g, s.h]
def Sha.St.plus (s t : Sha.St) : Sha.St := ⟨s.a + t.a, s.b + t.b, s.c + t.c, s.d + t.d, s.e + t.e, s.f + t.f, s.g + t.g, s.h + t.h⟩

/-- the table of the constants lies in the first block -/
def Tab (K : Nat → BitVec 64) (w : World) : Prop := ∀ i, i < 80 → w.cell? ⟨0, i, none⟩ = some (.int .u64 (U (K i)))
theorem Tab.lt {K : Nat → BitVec 64} {w : World} (h : Tab K w) : 0 < w.heap.size := block_lt_of_cell (h 0 (by omega))
theorem Tab.below {K : Nat → BitVec 64} {w w' : World} (h : Tab K w) (hb : Below w.heap.size w w') : Tab K w' := fun i hi => by
  rw [hb.cell (p := ⟨0, i, none⟩) h.lt]; exact h i hi

/-- the sums, of which the first k have grown -/
def Sha.grown (s T : Sha.St) (k : Nat) : List (BitVec 64) := (s.plus T).list.take k ++ s.list.drop k
theorem Sha.grown_length (s T : Sha.St) (k : Nat) (hk : k ≤ 8) : (Sha.grown s T k).length = 8 := by
  simp [Sha.grown, Sha.St.list]; omega
theorem Sha.grown_at (s T : Sha.St) (k : Nat) (hk : k < 8) : (Sha.grown s T k).getD k 0 = s.list.getD k 0 ∧ k < (Sha.grown s T k).length := by
  refine ⟨?_, by rw [Sha.grown_length _ _ _ (by omega)]; exact hk⟩
  obtain rfl | rfl | rfl | rfl | rfl | rfl | rfl | rfl : k = 0 ∨ k = 1 ∨ k = 2 ∨ k = 3 ∨ k = 4 ∨ k = 5 ∨ k = 6 ∨ k = 7 := by omega
  all_goals rfl
theorem Sha.grown_set (s T : Sha.St) (k : Nat) (hk : k < 8) : (Sha.grown s T k).set k (s.list.getD k 0 + T.list.getD k 0) = Sha.grown s T (k + 1) := by
  match k, hk with
  | 0, _ => rfl
  | 1, _ => rfl
  | 2, _ => rfl
  | 3, _ => rfl
  | 4, _ => rfl
  | 5, _ => rfl
  | 6, _ => rfl
  | 7, _ => rfl
theorem index8 (T : Sha.St) (k : Nat) (hk : k < 8) (w : World) :
    (Instr.index 101 (.agg #[.int .u64 (U T.a), .int .u64 (U T.b), .int .u64 (U T.c), .int .u64 (U T.d), .int .u64 (U T.e), .int .u64 (U T.f), .int .u64 (U T.g), .int .u64 (U T.h)]) (.int .i64 k)).run Tryz.prog w = .ok (.int .u64 (U (T.list.getD k 0))) w := by
  obtain rfl | rfl | rfl | rfl | rfl | rfl | rfl | rfl : k = 0 ∨ k = 1 ∨ k = 2 ∨ k = 3 ∨ k = 4 ∨ k = 5 ∨ k = 6 ∨ k = 7 := by omega
  all_goals kernel_rfl
theorem Tryz.info8 : (Tryz.prog.info? 101).map (·.size) = some 8 := by kernel_rfl

theorem rnd_e (K W : Nat → BitVec 64) (s : Sha.St) (k : Nat) : IntKind.u64.wrap (U (Sha.rnds K W s k).d + IntKind.u64.wrap (IntKind.u64.wrap (IntKind.u64.wrap (IntKind.u64.wrap (U (Sha.rnds K W s k).h + U (Sha.bg1 (Sha.rnds K W s k).e)) +
    U (Sha.ch (Sha.rnds K W s k).e (Sha.rnds K W s k).f (Sha.rnds K W s k).g)) + U (K k)) + U (W k))) = U (Sha.rnds K W s (k + 1)).e := by
  rw [U_add, U_add, U_add, U_add, U_add]; rfl
theorem rnd_a (K W : Nat → BitVec 64) (s : Sha.St) (k : Nat) : IntKind.u64.wrap (IntKind.u64.wrap (IntKind.u64.wrap (IntKind.u64.wrap (IntKind.u64.wrap (U (Sha.rnds K W s k).h + U (Sha.bg1 (Sha.rnds K W s k).e)) +
    U (Sha.ch (Sha.rnds K W s k).e (Sha.rnds K W s k).f (Sha.rnds K W s k).g)) + U (K k)) + U (W k)) + IntKind.u64.wrap (U (Sha.bg0 (Sha.rnds K W s k).a) + U (Sha.maj (Sha.rnds K W s k).a (Sha.rnds K W s k).b (Sha.rnds K W s k).c))) = U (Sha.rnds K W s (k + 1)).a := by
  rw [U_add, U_add, U_add, U_add, U_add, U_add]; rfl

set_option maxRecDepth 100000 in
set_option maxHeartbeats 2000000 in
theorem stir_any (K W : Nat → BitVec 64) (s : Sha.St) (w : World) (hK : Tab K w) :
    Calls Tryz.prog 170 #[.agg (Ws s.list), .agg (Ws (Sha.rowTo W 80))] w fun e w' =>
      e = .returned (.agg (Ws (s.plus (Sha.rnds K W s 80)).list)) ∧ Below w.heap.size w w' := by
  generalize hT : Sha.rnds K W s 80 = T
  have HT : Hid _ := hT
  clear hT
  have hws : (Ws s.list).size = 8 := by rw [Ws_size]; rfl
  have hww : (Ws (Sha.rowTo W 80)).size = 80 := by rw [Ws_size, Sha.rowTo_length]
  have hb1 := Blk.alloc (Blk.alloc (Blk.new w (Ws s.list) 101) (.cells (Ws (Sha.rowTo W 80)) 146)) (.cells (Ws [0, 0, 0, 0, 0, 0, 0, 0]) 101)
  have hb2 := Blk.alloc (Blk.new (w.alloc (.cells (Ws s.list) 101)) (Ws (Sha.rowTo W 80)) 146) (.cells (Ws [0, 0, 0, 0, 0, 0, 0, 0]) 101)
  have hb3 := Blk.new ((w.alloc (.cells (Ws s.list) 101)).alloc (.cells (Ws (Sha.rowTo W 80)) 146)) (Ws [0, 0, 0, 0, 0, 0, 0, 0]) 101
  have hbel : Below w.heap.size w (((w.alloc (.cells (Ws s.list) 101)).alloc (.cells (Ws (Sha.rowTo W 80)) 146)).alloc (.cells (Ws [0, 0, 0, 0, 0, 0, 0, 0]) 101)) :=
    (((Below.refl _ _).alloc (Nat.le_refl _) _).alloc (by simp) _).alloc (by simp; omega) _
  have hsz : (((w.alloc (.cells (Ws s.list) 101)).alloc (.cells (Ws (Sha.rowTo W 80)) 146)).alloc (.cells (Ws [0, 0, 0, 0, 0, 0, 0, 0]) 101)).heap.size = w.heap.size + 3 := by simp
  rw [show (w.alloc (.cells (Ws s.list) 101)).heap.size = w.heap.size + 1 by simp] at hb2
  rw [show ((w.alloc (.cells (Ws s.list) 101)).alloc (.cells (Ws (Sha.rowTo W 80)) 146)).heap.size = w.heap.size + 1 + 1 by simp] at hb3
  clear hsz
  go_enter Tryz.func170, Tryz.ntmps170
  go_wp2_with fail
  rw [show (#[Value.int IntKind.u64 0, Value.int IntKind.u64 0, Value.int IntKind.u64 0, Value.int IntKind.u64 0,
      Value.int IntKind.u64 0, Value.int IntKind.u64 0, Value.int IntKind.u64 0, Value.int IntKind.u64 0] : Array Value) = Ws [0, 0, 0, 0, 0, 0, 0, 0] from rfl]
  generalize ((w.alloc (.cells (Ws s.list) 101)).alloc (.cells (Ws (Sha.rowTo W 80)) 146)).alloc (.cells (Ws [0, 0, 0, 0, 0, 0, 0, 0]) 101) = w1 at hb1 hb2 hb3 hbel ⊢
  have c0 : w1.cell? ⟨w.heap.size, 0, none⟩ = some (.int .u64 (U s.a)) := hb1.cell 0
  have c1 : w1.cell? ⟨w.heap.size, 1, none⟩ = some (.int .u64 (U s.b)) := hb1.cell 1
  have c2 : w1.cell? ⟨w.heap.size, 2, none⟩ = some (.int .u64 (U s.c)) := hb1.cell 2
  have c3 : w1.cell? ⟨w.heap.size, 3, none⟩ = some (.int .u64 (U s.d)) := hb1.cell 3
  have c4 : w1.cell? ⟨w.heap.size, 4, none⟩ = some (.int .u64 (U s.e)) := hb1.cell 4
  have c5 : w1.cell? ⟨w.heap.size, 5, none⟩ = some (.int .u64 (U s.f)) := hb1.cell 5
  have c6 : w1.cell? ⟨w.heap.size, 6, none⟩ = some (.int .u64 (U s.g)) := hb1.cell 6
  have c7 : w1.cell? ⟨w.heap.size, 7, none⟩ = some (.int .u64 (U s.h)) := hb1.cell 7
  go_quiet (fail)
  go_wp2_with fail
  go_quiet (fail)
  go_wp2_with fail
  clear c0 c1 c2 c3 c4 c5 c6 c7
  go_loopw [5, 6, 7, 8, 9, 10, 11, 12, 34] (fun a b c d e f g h i wr => ∃ k : Nat, k ≤ 80 ∧ i = .int .i64 k ∧ a = .int .u64 (U (Sha.rnds K W s k).a) ∧ b = .int .u64 (U (Sha.rnds K W s k).b) ∧ c = .int .u64 (U (Sha.rnds K W s k).c) ∧ d = .int .u64 (U (Sha.rnds K W s k).d) ∧ e = .int .u64 (U (Sha.rnds K W s k).e) ∧ f = .int .u64 (U (Sha.rnds K W s k).f) ∧ g = .int .u64 (U (Sha.rnds K W s k).g) ∧ h = .int .u64 (U (Sha.rnds K W s k).h) ∧
      Blk wr w.heap.size (Ws s.list) 101 ∧ Blk wr (w.heap.size + 1) (Ws (Sha.rowTo W 80)) 146 ∧ Blk wr (w.heap.size + 1 + 1) (Ws [0, 0, 0, 0, 0, 0, 0, 0]) 101 ∧ Below w.heap.size w wr) (fun _ _ _ _ _ _ _ _ i _ => 80 - (intOf i).toNat)
  case atStart => exact ⟨0, by omega, rfl, rfl, rfl, rfl, rfl, rfl, rfl, rfl, rfl, hb1, hb2, hb3, below_drewN (below_drewN hbel _) _⟩
  case round =>
    clear hb1 hb2 hb3 hbel
    obtain ⟨k, hk, rfl, rfl, rfl, rfl, rfl, rfl, rfl, rfl, rfl, hb1, hb2, hb3, hbel⟩ := hrel
    by_cases hlt : k < 80
    · have hkc := hK.below hbel k hlt
      have hwc := hb2.cell k
      rw [Ws_at _ _ (by rw [Sha.rowTo_length]; omega), Sha.rowTo_get _ _ _ (by omega) (by omega)] at hwc
      have i0 : (k : Int) < 80 := by omega
      go_wp2_with fail
      go_quiet (first | (go_at_call 206; exact Calls.quiet_of_same (bigOne_any _ _)) | (go_at_call 207; exact Calls.quiet_of_same (choose_any _ _ _ _)))
      go_wp2_with (first | (go_at_call 208; refine (bigZero_any _ _).mono ?_; rintro e w' ⟨rfl, rfl⟩) | (go_at_call 209; refine (majority_any _ _ _ _).mono ?_; rintro e w' ⟨rfl, rfl⟩))
      go_roundw
      case rel => exact ⟨k + 1, by omega, by go_num, int_eq (rnd_a K W s k), rfl, rfl, rfl, int_eq (rnd_e K W s k), rfl, rfl, rfl, hb1.drewN _, hb2.drewN _, hb3.drewN _, below_drewN hbel _⟩
      case measure => simp [intOf]; omega
    · have hk80 : k = 80 := by omega
      subst hk80
      rw [show ((80 : Nat) : Int) = 80 from rfl]
      clear hlt hk hb2
      rw [show Sha.rnds K W s 80 = T from HT.out]
      go_wp2
      go_loopw [83] (fun i wr => ∃ k : Nat, k ≤ 8 ∧ i = .int .i64 k ∧ Blk wr w.heap.size (Ws (Sha.grown s T k)) 101 ∧ Blk wr (w.heap.size + 1 + 1) (Ws [0, 0, 0, 0, 0, 0, 0, 0]) 101 ∧ Below w.heap.size w wr) (fun i _ => 8 - (intOf i).toNat)
      case atStart => exact ⟨0, by omega, rfl, hb1, hb3, hbel⟩
      case round =>
        clear hb1 hb3 hbel
        obtain ⟨k, hk, rfl, hb1, hb3, hbel⟩ := hrel
        by_cases hlt : k < 8
        · have hix := index8 T k hlt
          have hg := Sha.grown_at s T k hlt
          have hc := hb1.cell k
          rw [Ws_at _ _ hg.2, hg.1] at hc
          have hf := hb1.frozen k
          clear hg
          have hset := Sha.grown_set s T k hlt
          simp only [List.getD_eq_getElem?_getD] at hset
          have HS : Hid ((Sha.grown s T k).set k (s.list[k]?.getD 0#64 + T.list[k]?.getD 0#64) = Sha.grown s T (k + 1)) := hset
          clear hset
          have i0 : (k : Int) < 8 := by omega
          go_wp2
          go_roundw
          case rel =>
            refine ⟨k + 1, by omega, by go_num, ?_, ?_, hbel.setCell (Nat.le_refl _) _⟩
            · rw [hb1.set, U_add, Ws_set, show _ = _ from HS.out]; exact hb1.row _
            · rw [hb1.set]; exact hb3.other (by omega) _
          case measure => simp [intOf]; omega
        · have hk8 : k = 8 := by omega
          subst hk8
          have g0 := hb1; have g1 := hb3
          unfold Blk at g0 g1
          have e8 : (Ws (Sha.grown s T 8)).size = 8 := by rw [Ws_size]; rfl
          go_wp2_with (first
            | (refine wpList_load_row rfl 101 _ rfl w.heap.size rfl 101 _ (0, 0) _ g0 Tryz.underlying101 rfl (by rw [e8]; exact Tryz.info8) ?_)
            | (refine wpList_store_row rfl 101 _ _ rfl (w.heap.size + 1 + 1) _ rfl rfl 101 _ g1 (by rw [e8]; exact Tryz.info8) (by rw [e8]; rfl) (Ws_one _) ?_))
          refine bodyPost_ret (v := .agg (Ws (Sha.grown s T 8))) ?_ rfl ⟨rfl, below_setRow hbel (by omega) _⟩
          exact results_cell_row rfl _ _ (w.heap.size + 1 + 1) 101 _ (0, 0) _ rfl (hb3.row _) Tryz.underlying101 rfl (by rw [e8]; exact Tryz.info8)

end Go.Proofs.YtclpbaokadfhhaaGreatDoor

namespace Go.Proofs.YtclpbaokadfhhaaGreatDoor
open Go.RowKit

/-- the eight words at the start -/
def Sha.first : Sha.St := ⟨7640891576956012808, 13503953896175478587, 4354685564936845355, 11912009170470909681, 5840696475078001361, 11170449401992604703, 2270897969802886507, 6620516959819538809⟩
theorem first_ws : (#[.int .u64 7640891576956012808, .int .u64 13503953896175478587, .int .u64 4354685564936845355, .int .u64 11912009170470909681, .int .u64 5840696475078001361, .int .u64 11170449401992604703, .int .u64 2270897969802886507, .int .u64 6620516959819538809] : Array Value) = Ws Sha.first.list := by kernel_rfl

set_option maxRecDepth 100000 in
set_option maxHeartbeats 400000 in
theorem squareRoots_any (w : World) :
    Calls Tryz.prog 168 #[] w fun e w' => e = .returned (.agg (Ws Sha.first.list)) ∧ w' = w.alloc (.cells (Ws Sha.first.list) 101) := by
  go_enter Tryz.func168, Tryz.ntmps168
  go_wp2
  rw [first_ws]
  refine bodyPost_ret (v := .agg (Ws Sha.first.list)) ?_ rfl ⟨rfl, rfl⟩
  exact results_cell_row rfl _ _ w.heap.size 101 _ (0, 0) _ rfl (Blk.new w _ _) Tryz.underlying101 rfl (by rw [Ws_size]; exact Tryz.info8)

/-- the words told one behind the other, k of them -/
def Sha.tellTo (s : Sha.St) : Nat → List UInt8
  | 0 => zeros 64
  | k + 1 => Sha.put (Sha.tellTo s k) (k * 8) (s.list.getD k 0) 8
theorem Sha.tellTo_length (s : Sha.St) (k : Nat) : (Sha.tellTo s k).length = 64 := by
  induction k with
  | zero => rfl
  | succ k ih => simp only [Sha.tellTo, Sha.put_length, ih]

set_option maxRecDepth 100000 in
set_option maxHeartbeats 1000000 in
theorem tell_any (s : Sha.St) (w : World) :
    Calls Tryz.prog 172 #[.agg (Ws s.list)] w fun e w' => e = .returned (.string ⟨(Sha.tellTo s 8).toArray⟩) ∧ Below w.heap.size w w' := by
  have hws : (Ws s.list).size = 8 := by rw [Ws_size]; rfl
  have hmk := makeBytes 64 (by omega)
  rw [show ((64 : Nat) : Int) = 64 from rfl] at hmk
  have g0 := heap_alloc2_old w (.cells (Ws s.list) 101) (.cells (Bs (zeros 64)) 5)
  have hb0 : Blk ((w.alloc (.cells (Ws s.list) 101)).alloc (.cells (Bs (zeros 64)) 5)) (w.heap.size + 1) (Bs (zeros 64)) 5 := heap_alloc2_new w _ _
  have hbel : Below w.heap.size w ((w.alloc (.cells (Ws s.list) 101)).alloc (.cells (Bs (zeros 64)) 5)) := ((Below.refl _ _).alloc (Nat.le_refl _) _).alloc (by simp) _
  have G0 : Hid _ := g0
  clear g0
  go_enter Tryz.func172, Tryz.ntmps172
  go_wp2_with (refine wpList_load_row rfl 101 _ rfl w.heap.size rfl 101 _ (0, 0) _ G0.out Tryz.underlying101 rfl (by rw [hws]; exact Tryz.info8) ?_)
  go_loopw [8] (fun i wr => ∃ k : Nat, k ≤ 8 ∧ i = .int .i64 k ∧ Blk wr (w.heap.size + 1) (Bs (Sha.tellTo s k)) 5 ∧ Below w.heap.size w wr) (fun i _ => 8 - (intOf i).toNat)
  case atStart => exact ⟨0, by omega, rfl, hb0, hbel⟩
  case round =>
    clear hb0 hbel
    obtain ⟨k, hk, rfl, hb, hbel⟩ := hrel
    by_cases hlt : k < 8
    · have hix : ∀ wx, (Instr.index 101 (.agg (Ws s.list)) (.int .i64 k)).run Tryz.prog wx = .ok (.int .u64 (U (s.list.getD k 0))) wx := index8 s k hlt
      have i0 : (k : Int) < 8 := by omega
      go_wp2_with fail
      refine (putWord_any (w.heap.size + 1) (k * 8) _ _ 5 (Sha.tellTo s k) (s.list[k]?.getD 0#64) wr (by omega) (by omega) (by omega) hb (by rw [Sha.tellTo_length]; omega)).mono ?_
      rintro e w' ⟨rfl, rfl⟩
      go_wp2
      go_roundw
      case rel =>
        refine ⟨k + 1, by omega, by go_num, ?_, below_setRow hbel (by omega) _⟩
        have := hb.row (Bs (Sha.put (Sha.tellTo s k) (k * 8) (s.list[k]?.getD 0#64) 8))
        rw [show Sha.tellTo s (k + 1) = Sha.put (Sha.tellTo s k) (k * 8) (s.list[k]?.getD 0#64) 8 by rw [Sha.tellTo, List.getD_eq_getElem?_getD]; rfl]
        exact this
      case measure => simp [intOf]; omega
    · have : k = 8 := by omega
      subst this
      have hs := stringOf (cap := 64) hb 64 (Sha.tellTo_length s 8).symm
      go_wp2
      go_ret
      exact ⟨rfl, hbel⟩

end Go.Proofs.YtclpbaokadfhhaaGreatDoor

namespace Go.Proofs.YtclpbaokadfhhaaGreatDoor
open Go.RowKit

def Sha.padSize (n : Nat) : Nat := n + 17 + (128 - (n + 17) % 128) % 128
theorem Sha.padSize_le (n : Nat) : n + 17 ≤ Sha.padSize n ∧ Sha.padSize n < n + 145 ∧ Sha.padSize n % 128 = 0 := by unfold Sha.padSize; omega
/-- the bytes, a byte 128, bytes 0 -/
def Sha.pad1 (l : List UInt8) : List UInt8 := (l ++ zeros (Sha.padSize l.length - l.length)).set l.length 128
/-- .. and how many bits they are -/
def Sha.pad (l : List UInt8) : List UInt8 :=
  Sha.put (Sha.put (Sha.pad1 l) (Sha.padSize l.length - 16) (BitVec.ofNat 64 l.length >>> 61) 8) (Sha.padSize l.length - 8) (BitVec.ofNat 64 l.length <<< 3) 8
theorem Sha.pad1_length (l : List UInt8) : (Sha.pad1 l).length = Sha.padSize l.length := by
  have := Sha.padSize_le l.length
  simp [Sha.pad1, zeros_length]; omega
theorem Sha.pad_length (l : List UInt8) : (Sha.pad l).length = Sha.padSize l.length := by
  simp [Sha.pad, Sha.put_length, Sha.pad1_length]

set_option maxRecDepth 100000 in
set_option maxHeartbeats 1000000 in
theorem pad_any (s : ByteArray) (w : World) (hs : s.size ≤ 140737488351232) :
    Calls Tryz.prog 169 #[.string s] w fun e w' => e = .returned (.slice (some ⟨w.heap.size, 0, none⟩) (Sha.padSize s.size) (Sha.padSize s.size)) ∧ w' = w.alloc (.cells (Bs (Sha.pad s.data.toList)) 5) := by
  have hle := Sha.padSize_le s.size
  have hN : ((s.size : Int) + 1 + 16 + -(((s.size : Int) + 1 + 16) % 128) % 128) = (Sha.padSize s.size : Int) := by unfold Sha.padSize; omega
  have hlen : s.data.toList.length = s.size := by simp
  have hp : Sha.pad s.data.toList = Sha.put (Sha.put ((s.data.toList ++ zeros (Sha.padSize s.size - s.size)).set s.size 128) (Sha.padSize s.size - 16) (BitVec.ofNat 64 s.size >>> 61) 8) (Sha.padSize s.size - 8) (BitVec.ofNat 64 s.size <<< 3) 8 := by
    unfold Sha.pad Sha.pad1; rw [hlen]
  rw [hp]
  clear hp
  generalize Sha.padSize s.size = N at hle hN ⊢
  obtain ⟨hle1, hle2, hle3⟩ := hle
  have hmk := makeBytes N (by omega)
  have hcp := Lib.run_copy_row_string (P := Tryz.prog) (w.alloc (.cells (Bs (zeros N)) 5)) 55 9 3 5 w.heap.size 0 N N s (Bs (zeros N)) 5 Tryz.underlying55 Tryz.infoByte1 (heap_alloc_new w _) (by omega) (by rw [Bs_size, zeros_length]; omega)
  rw [copied s N, World.setRow_alloc_new] at hcp
  have hL : (s.data.toList ++ zeros (N - s.size)).length = N := by simp [zeros_length]; omega
  generalize s.data.toList ++ zeros (N - s.size) = L0 at hcp hL ⊢
  have hst : (Bs L0)[s.size]? = some (.int .u8 ((L0.getD s.size 0).toNat : Int)) := Bs_at _ _ (by omega)
  have hset := Bs_set L0 s.size 128
  rw [show (((128 : UInt8).toNat : Nat) : Int) = 128 from rfl] at hset
  have hL1 : (L0.set s.size 128).length = N := by rw [List.length_set, hL]
  generalize L0.set s.size 128 = L1 at hset hL1 ⊢
  have e1 : (s.size : Int) / 2305843009213693952 = U (BitVec.ofNat 64 s.size >>> 61) := by
    rw [← U_shr, ← U_of s.size (by omega)]; rfl
  have e2 : IntKind.u64.wrap ((s.size : Int) * 8) = U (BitVec.ofNat 64 s.size <<< 3) := by
    rw [← U_shl, ← U_of s.size (by omega)]; rfl
  have e2' : (s.size : Int) * 8 = U (BitVec.ofNat 64 s.size <<< 3) := by
    rw [← e2, IntKind.wrap_u64]; omega
  have E1 : Hid _ := e1
  have E2 : Hid _ := e2'
  clear e1 e2 e2'
  generalize BitVec.ofNat 64 s.size >>> 61 = X1 at E1 ⊢
  generalize BitVec.ofNat 64 s.size <<< 3 = X2 at E2 ⊢
  go_enter Tryz.func169, Tryz.ntmps169
  go_wp2_with fail
  rw [show (s.size : Int) / 2305843009213693952 = U X1 from E1.out]
  refine (putWord_any w.heap.size (N - 16) _ _ 5 L1 X1 _ (by omega) (by omega) (by omega) (Blk.new w _ _) (by omega)).mono ?_
  rintro e w' ⟨rfl, rfl⟩
  rw [World.setRow_alloc_new]
  go_wp2_with fail
  rw [show (s.size : Int) * 8 = U X2 from E2.out]
  refine (putWord_any w.heap.size (N - 8) _ _ 5 (Sha.put L1 (N - 16) X1 8) X2 _ (by omega) (by omega) (by omega) (Blk.new w _ _) (by rw [Sha.put_length]; omega)).mono ?_
  rintro e w' ⟨rfl, rfl⟩
  rw [World.setRow_alloc_new]
  go_wp2
  go_ret
  exact ⟨rfl, rfl⟩

end Go.Proofs.YtclpbaokadfhhaaGreatDoor
