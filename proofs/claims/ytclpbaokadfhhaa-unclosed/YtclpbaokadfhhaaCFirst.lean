/- Contract of cipher.firstWords. -/
import Derived.Test.YtclpbaokadfhhaaCMix
namespace Go.Proofs.Ytclpbaokadfhhaa
open Go.RowKit
namespace Cc

/-- a row of 16 words, of which the first k are told -/
def rowTo (W : Nat → BitVec 32) (k : Nat) : List (BitVec 32) := (List.range 16).map fun i => if i < k then W i else 0
theorem rowTo_length (W : Nat → BitVec 32) (k : Nat) : (rowTo W k).length = 16 := by simp [rowTo]
theorem rowTo_set (W : Nat → BitVec 32) (k : Nat) (hk : k < 16) : (rowTo W k).set k (W k) = rowTo W (k + 1) := by
  apply List.ext_getElem?
  intro i
  rw [List.getElem?_set]
  by_cases h : k = i
  · subst h; simp [rowTo, hk]
  · rw [if_neg h]
    by_cases h8 : i < 16
    · simp only [rowTo, List.getElem?_map, List.getElem?_range h8, Option.map_some]
      congr 1
      by_cases h2 : i < k
      · rw [if_pos h2, if_pos (by omega)]
      · rw [if_neg h2, if_neg (by omega)]
    · simp [rowTo, h8]
theorem rowTo_at (W : Nat → BitVec 32) (i : Nat) (h : i < 16) : (rowTo W 16).getD i 0 = W i := by simp [rowTo, List.getD, h]

def consts : List (BitVec 32) := [1634760805, 857760878, 2036477234, 1797285236]
/-- 4 bytes of a text from a place on, as a word -/
def wordAt (s : ByteArray) (o : Nat) : BitVec 32 := wd (fun i => s.data.toList.getD (o + i) 0) 4
/-- the sixteen words at first -/
def first (key : ByteArray) (c : BitVec 32) (nonce : ByteArray) (i : Nat) : BitVec 32 :=
  if i < 4 then consts.getD i 0 else if i < 12 then wordAt key ((i - 4) * 4) else if i = 12 then c else wordAt nonce ((i - 13) * 4)
end Cc

theorem cword_at (s : ByteArray) (o n : Nat) (w : World) (ho : o + 4 ≤ s.size) (hn : n = s.size) (hm : s.size ≤ 9223372036854775807) :
    Calls Try.prog 59 #[.string (s.extract o n)] w fun e w' => e = .returned (.int .u32 (V (Cc.wordAt s o))) ∧ w' = w := by
  subst hn
  refine cword_any _ _ w (by simp; omega) (by simp; omega) ?_
  intro i hi
  rw [← byte_at _ _ (by simp; omega), ← byte_at s (o + i) (by omega)]
  simp [ByteArray.getElem_eq_getElem_data]

/-- sixteen words 0, as the walk writes them -/
def Z16 : Array Value := #[.int .u32 0, .int .u32 0, .int .u32 0, .int .u32 0, .int .u32 0, .int .u32 0, .int .u32 0, .int .u32 0, .int .u32 0, .int .u32 0, .int .u32 0, .int .u32 0, .int .u32 0, .int .u32 0, .int .u32 0, .int .u32 0]
def F16 : Array Value := #[.int .u32 1634760805, .int .u32 857760878, .int .u32 2036477234, .int .u32 1797285236, .int .u32 0, .int .u32 0, .int .u32 0, .int .u32 0, .int .u32 0, .int .u32 0, .int .u32 0, .int .u32 0, .int .u32 0, .int .u32 0, .int .u32 0, .int .u32 0]
def none16 : List (BitVec 32) := List.replicate 16 0
theorem Z16_eq : Z16 = Vs none16 := by kernel_rfl
theorem F16_eq (key nonce : ByteArray) (c : BitVec 32) : F16 = Vs (Cc.rowTo (Cc.first key c nonce) 4) := by kernel_rfl
theorem Try.info16 : (Try.prog.info? 64).map (·.size) = some 16 := by kernel_rfl

theorem row16_store {w wr : World} {B k t : Nat} {x : BitVec 32} {W : Nat → BitVec 32} (hk : k < 16) (hb1 : Blk wr B (Vs (Cc.rowTo W k)) t) (hle : w.heap.size ≤ B) (hbel : Below w.heap.size w wr) (hw : x = W k) :
    Blk (wr.setCell ⟨B, k, none⟩ (.int .u32 (V x))) B (Vs (Cc.rowTo W (k + 1))) t ∧ (∀ b' cs t', b' ≠ B → Blk wr b' cs t' → Blk (wr.setCell ⟨B, k, none⟩ (.int .u32 (V x))) b' cs t') ∧ Below w.heap.size w (wr.setCell ⟨B, k, none⟩ (.int .u32 (V x))) := by
  subst hw
  refine ⟨?_, ?_, hbel.setCell hle _⟩
  · rw [hb1.set, Vs_set, Cc.rowTo_set _ _ hk]; exact hb1.row _
  · intro b' cs t' hne hb'
    rw [hb1.set]; exact hb'.other hne _

theorem first_key (key nonce : ByteArray) (c : BitVec 32) (k : Nat) (h : k < 8) : Cc.wordAt key (k * 4) = Cc.first key c nonce (4 + k) := by
  unfold Cc.first; rw [if_neg (by omega), if_pos (by omega)]; congr 2; omega
theorem first_nonce (key nonce : ByteArray) (c : BitVec 32) (k : Nat) (h : k < 3) : Cc.wordAt nonce (k * 4) = Cc.first key c nonce (13 + k) := by
  unfold Cc.first; rw [if_neg (by omega), if_neg (by omega), if_neg (by omega)]; congr 2; omega
theorem first_count (key nonce : ByteArray) (c : BitVec 32) : c = Cc.first key c nonce 12 := by
  unfold Cc.first; rw [if_neg (by omega), if_neg (by omega), if_pos rfl]

set_option maxRecDepth 100000 in
set_option maxHeartbeats 1000000 in
theorem firstWords_any (key nonce : ByteArray) (c : BitVec 32) (w : World) (hk : key.size = 32) (hn : nonce.size = 12) :
    Calls Try.prog 37 #[.string key, .int .u32 (V c), .string nonce] w fun e w' => e = .returned (.agg (Vs (Cc.rowTo (Cc.first key c nonce) 16))) ∧ Below w.heap.size w w' := by
  have HK : Hid (∀ k, k < 8 → Cc.wordAt key (k * 4) = Cc.first key c nonce (4 + k)) := fun k h => first_key key nonce c k h
  have HN : Hid (∀ k, k < 3 → Cc.wordAt nonce (k * 4) = Cc.first key c nonce (13 + k)) := fun k h => first_nonce key nonce c k h
  have HC : Hid (c = Cc.first key c nonce 12) := first_count key nonce c
  have HF : Hid (F16 = Vs (Cc.rowTo (Cc.first key c nonce) 4)) := F16_eq key nonce c
  generalize Cc.first key c nonce = W at HK HN HC HF ⊢
  go_enter Try.func37, Try.ntmps37
  go_wp2
  rw [← show Z16 = #[.int .u32 0, .int .u32 0, .int .u32 0, .int .u32 0, .int .u32 0, .int .u32 0, .int .u32 0, .int .u32 0, .int .u32 0, .int .u32 0, .int .u32 0, .int .u32 0, .int .u32 0, .int .u32 0, .int .u32 0, .int .u32 0] from rfl,
    ← show F16 = #[.int .u32 1634760805, .int .u32 857760878, .int .u32 2036477234, .int .u32 1797285236, .int .u32 0, .int .u32 0, .int .u32 0, .int .u32 0, .int .u32 0, .int .u32 0, .int .u32 0, .int .u32 0, .int .u32 0, .int .u32 0, .int .u32 0, .int .u32 0] from rfl]
  rw [Z16_eq, show F16 = _ from HF.out]
  clear HF
  go_loopw [11] (fun i wr => ∃ k : Nat, k ≤ 8 ∧ i = .int .i64 k ∧ Blk wr (w.heap.size + 1) (Vs (Cc.rowTo W (4 + k))) 64 ∧ Blk wr w.heap.size (Vs none16) 64 ∧ Below w.heap.size w wr) (fun i _ => 8 - (intOf i).toNat)
  case atStart =>
    refine ⟨0, Nat.zero_le _, rfl, ?_, ?_, ((Below.refl _ _).alloc (Nat.le_refl _) _).alloc (by simp) _⟩
    · exact heap_alloc2_new w _ _
    · exact heap_alloc2_old w _ _
  case round =>
    obtain ⟨k, hk8, rfl, hb1, hb0, hbel⟩ := hrel
    by_cases hlt : k < 8
    · have g1 := hb1.cell (4 + k)
      rw [Vs_at _ _ (by rw [Cc.rowTo_length]; omega)] at g1
      have g2 := hb1.frozen (4 + k)
      have i0 : (k : Int) < 8 := by omega
      go_wp2_with (first | (go_at_call 59; go_must (refine (cword_at key (k * 4) _ _ (by omega) (by omega) (by omega)).mono ?_); rintro e w' ⟨rfl, rfl⟩))
      have R := row16_store (B := w.heap.size + 1) (k := 4 + k) (x := Cc.wordAt key (k * 4)) (by omega) hb1 (by omega) hbel (HK.out k hlt)
      go_roundw
      case rel => exact ⟨k + 1, by omega, by go_num, R.1, R.2.1 _ _ _ (by omega) hb0, R.2.2⟩
      case measure => simp [intOf]; omega
    · have hk16 : k = 8 := by omega
      subst hk16
      rw [show ((8 : Nat) : Int) = 8 from rfl]
      have g1 := hb1.cell 12
      rw [Vs_at _ _ (by rw [Cc.rowTo_length]; omega)] at g1
      have g2 := hb1.frozen 12
      have R := row16_store (B := w.heap.size + 1) (k := 12) (x := c) (W := W) (by omega) hb1 (by omega) hbel HC.out
      go_wp2
      generalize wr.setCell ⟨w.heap.size + 1, 12, none⟩ (.int .u32 (V c)) = wq at R ⊢
      obtain ⟨R1, R2, R3⟩ := R
      have hb0' := R2 _ _ _ (by omega) hb0
      clear g1 g2 hb1 hb0 hbel R2 wr
      go_loopw [25] (fun i wr => ∃ k : Nat, k ≤ 3 ∧ i = .int .i64 k ∧ Blk wr (w.heap.size + 1) (Vs (Cc.rowTo W (13 + k))) 64 ∧ Blk wr w.heap.size (Vs none16) 64 ∧ Below w.heap.size w wr) (fun i _ => 3 - (intOf i).toNat)
      case atStart => exact ⟨0, by omega, rfl, R1, hb0', R3⟩
      case round =>
        clear R1 hb0' R3
        obtain ⟨k, hk8, rfl, hb1, hb0, hbel⟩ := hrel
        by_cases hlt : k < 3
        · have g1 := hb1.cell (13 + k)
          rw [Vs_at _ _ (by rw [Cc.rowTo_length]; omega)] at g1
          have g2 := hb1.frozen (13 + k)
          have i0 : (k : Int) < 3 := by omega
          go_wp2_with (first | (go_at_call 59; go_must (refine (cword_at nonce (k * 4) _ _ (by omega) (by omega) (by omega)).mono ?_); rintro e w' ⟨rfl, rfl⟩))
          have R := row16_store (B := w.heap.size + 1) (k := 13 + k) (x := Cc.wordAt nonce (k * 4)) (by omega) hb1 (by omega) hbel (HN.out k hlt)
          go_roundw
          case rel => exact ⟨k + 1, by omega, by go_num, R.1, R.2.1 _ _ _ (by omega) hb0, R.2.2⟩
          case measure => simp [intOf]; omega
        · have hk3 : k = 3 := by omega
          subst hk3
          rw [show 13 + 3 = 16 from rfl] at hb1
          have g0 := hb0; have g1 := hb1
          unfold Blk at g0 g1
          have e16 : (Vs (Cc.rowTo W 16)).size = 16 := by rw [Vs_size, Cc.rowTo_length]
          have e16' : (Vs none16).size = 16 := by rw [Vs_size]; rfl
          go_wp2_with (first
            | (refine wpList_load_row rfl 64 _ rfl (w.heap.size + 1) rfl 64 _ (0, 0) _ g1 Try.underlying64 rfl (by rw [e16]; exact Try.info16) ?_)
            | (refine wpList_store_row rfl 64 _ _ rfl w.heap.size _ rfl rfl 64 _ g0 (by rw [e16]; exact Try.info16) (by rw [e16, e16']) (Vs_one _) ?_))
          refine bodyPost_ret (v := .agg (Vs (Cc.rowTo W 16))) ?_ rfl ⟨rfl, below_setRow hbel (Nat.le_refl _) _⟩
          exact results_cell_row rfl _ _ w.heap.size 64 _ (0, 0) _ rfl (hb0.row _) Try.underlying64 rfl (by rw [e16]; exact Try.info16)

end Go.Proofs.Ytclpbaokadfhhaa
