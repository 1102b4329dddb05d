/- Contract of cipher.block. -/
import Derived.Test.YtclpbaokadfhhaaCFirst
namespace Go.Proofs.Ytclpbaokadfhhaa
open Go.RowKit

/-- a whole row stored, as the walk opens it -/
theorem storeRowV {w : World} {g t : Nat} {cs : Array Value} {l : List (BitVec 32)} (hb : Blk w g cs t) (hl : cs.size = l.length) :
    (storeCells ⟨g, 0, none⟩ (Vs l).toList).run Try.prog w = .ok () (w.setRow g (Vs l)) := by
  have h1 := Vs_one l
  have := run_storeCells_from (P := Try.prog) g t (Vs l).toList 0 cs w hb (by simp [Vs_size, hl]) (fun v hv => (Array.all_eq_true_iff_forall_mem.1 h1) v (by simpa using hv))
  rw [this]
  simp
theorem storeNewV (w : World) (cs : Array Value) (t : Nat) (l : List (BitVec 32)) (hl : cs.size = l.length) :
    (storeCells ⟨w.heap.size, 0, none⟩ (Vs l).toList).run Try.prog (w.alloc (.cells cs t)) = .ok () (w.alloc (.cells (Vs l) t)) := by
  rw [storeRowV (Blk.new w cs t) hl, World.setRow_alloc_new]
theorem zero64 (w : World) : Sem.run Try.prog (zeroValue 50) w = .ok (.agg (Bs (zeros 64))) w := by kernel_rfl
theorem Try.info64 : (Try.prog.info? 50).map (·.size) = some 64 := by kernel_rfl

namespace Cc
def turned (l : List (BitVec 32)) : Nat → List (BitVec 32)
  | 0 => l
  | n + 1 => stir (turned l n)
theorem turned_length (l : List (BitVec 32)) (n : Nat) : (turned l n).length = l.length := by
  induction n with
  | zero => rfl
  | succ n ih => simp [turned, stir_length, ih]
/-- words told one behind the other, k of them -/
def tellTo (W : Nat → BitVec 32) : Nat → List UInt8
  | 0 => zeros 64
  | k + 1 => put (tellTo W k) (k * 4) (W k) 4
theorem tellTo_length (W : Nat → BitVec 32) (k : Nat) : (tellTo W k).length = 64 := by
  induction k with
  | zero => rfl
  | succ k ih => simp only [tellTo, put_length, ih]
/-- word i of a block -/
def blkWord (key : ByteArray) (c : BitVec 32) (nonce : ByteArray) (i : Nat) : BitVec 32 := (turned (rowTo (first key c nonce) 16) 10).getD i 0 + first key c nonce i
def blk (key : ByteArray) (c : BitVec 32) (nonce : ByteArray) : List UInt8 := tellTo (blkWord key c nonce) 16
theorem blk_length (key : ByteArray) (c : BitVec 32) (nonce : ByteArray) : (blk key c nonce).length = 64 := tellTo_length _ _
end Cc

theorem index16' (x0 x1 x2 x3 x4 x5 x6 x7 x8 x9 x10 x11 x12 x13 x14 x15 : BitVec 32) (k : Nat) (hk : k < 16) (w : World) :
    (Instr.index 64 (.agg (Vs [x0, x1, x2, x3, x4, x5, x6, x7, x8, x9, x10, x11, x12, x13, x14, x15])) (.int .i64 k)).run Try.prog w = .ok (.int .u32 (V ([x0, x1, x2, x3, x4, x5, x6, x7, x8, x9, x10, x11, x12, x13, x14, x15].getD k 0))) w := by
  obtain rfl | rfl | rfl | rfl | rfl | rfl | rfl | rfl | rfl | rfl | rfl | rfl | rfl | rfl | rfl | rfl : k = 0 ∨ k = 1 ∨ k = 2 ∨ k = 3 ∨ k = 4 ∨ k = 5 ∨ k = 6 ∨ k = 7 ∨ k = 8 ∨ k = 9 ∨ k = 10 ∨ k = 11 ∨ k = 12 ∨ k = 13 ∨ k = 14 ∨ k = 15 := by omega
  all_goals kernel_rfl
theorem index16 (l : List (BitVec 32)) (hl : l.length = 16) (k : Nat) (hk : k < 16) (w : World) :
    (Instr.index 64 (.agg (Vs l)) (.int .i64 k)).run Try.prog w = .ok (.int .u32 (V (l.getD k 0))) w := by
  match l, hl with
  | [x0, x1, x2, x3, x4, x5, x6, x7, x8, x9, x10, x11, x12, x13, x14, x15], _ => exact index16' x0 x1 x2 x3 x4 x5 x6 x7 x8 x9 x10 x11 x12 x13 x14 x15 k hk w

set_option maxRecDepth 100000 in
set_option maxHeartbeats 1000000 in
theorem block_any (key nonce : ByteArray) (c : BitVec 32) (w : World) (hk : key.size = 32) (hn : nonce.size = 12) :
    Calls Try.prog 27 #[.string key, .int .u32 (V c), .string nonce] w fun e w' => e = .returned (.agg (Bs (Cc.blk key c nonce))) ∧ Below w.heap.size w w' := by
  have hz := zero64
  have hF := firstWords_any key nonce c
  have HB : Hid (Cc.blk key c nonce = Cc.tellTo (Cc.blkWord key c nonce) 16) := by
    have : Cc.blk key c nonce = Cc.tellTo (Cc.blkWord key c nonce) 16 := rfl
    exact this
  have HW : Hid (∀ i, Cc.blkWord key c nonce i = (Cc.turned (Cc.rowTo (Cc.first key c nonce) 16) 10).getD i 0 + Cc.first key c nonce i) := fun i => rfl
  generalize Cc.blk key c nonce = R at HB ⊢
  generalize Cc.blkWord key c nonce = BW at HB HW
  generalize Cc.first key c nonce = F at hF HW
  have HF : Hid (∀ w : World, Calls Try.prog 37 #[.string key, .int .u32 (V c), .string nonce] w fun e w' => e = .returned (.agg (Vs (Cc.rowTo F 16))) ∧ Below w.heap.size w w') := fun w => hF w hk hn
  clear hF
  have hl0 : (Cc.rowTo F 16).length = 16 := Cc.rowTo_length _ _
  have HG : Hid (∀ i, i < 16 → (Cc.rowTo F 16).getD i 0 = F i) := fun i hi => Cc.rowTo_at F i hi
  generalize Cc.rowTo F 16 = L0 at HW HF hl0 HG
  have hb0 := Blk.new w (Bs (zeros 64)) 50
  have hbel0 : Below w.heap.size w (w.alloc (.cells (Bs (zeros 64)) 50)) := (Below.refl _ _).alloc (Nat.le_refl _) _
  have hst := fun wx : World => storeNewV wx Z16 64 L0 (by rw [hl0]; rfl)
  unfold Z16 at hst
  go_enter Try.func27, Try.ntmps27
  go_wp2_with fail
  refine (HF.out _).mono ?_
  rintro e w1 ⟨rfl, hb1⟩
  have hc0 : Blk w1 w.heap.size (Bs (zeros 64)) 50 := hb0.keep hb1
  have hbel1 : Below w.heap.size w w1 := hbel0.trans (hb1.mono (by simp))
  clear hb0 hbel0 hb1
  have hs0 : (Vs L0).size = 16 := by rw [Vs_size, hl0]
  have g7 := heap_alloc_new w1 (.cells (Vs L0) 64)
  have hst2 := hst (w1.alloc (.cells (Vs L0) 64))
  rw [show (w1.alloc (.cells (Vs L0) 64)).heap.size = w1.heap.size + 1 by simp] at hst2
  go_wp2_with (refine wpList_load_row rfl 64 _ rfl w1.heap.size rfl 64 _ (0, 0) _ g7 Try.underlying64 rfl (by rw [hs0]; exact Try.info16) ?_)
  clear hst hst2 g7
  have hb7 : Blk ((w1.alloc (.cells (Vs L0) 64)).alloc (.cells (Vs L0) 64)) w1.heap.size (Vs L0) 64 := heap_alloc2_old w1 _ _
  have hb8 : Blk ((w1.alloc (.cells (Vs L0) 64)).alloc (.cells (Vs L0) 64)) (w1.heap.size + 1) (Vs L0) 64 := heap_alloc2_new w1 _ _
  have hb6 : Blk ((w1.alloc (.cells (Vs L0) 64)).alloc (.cells (Vs L0) 64)) w.heap.size (Bs (zeros 64)) 50 := (hc0.alloc _).alloc _
  have hlt6 : w.heap.size < w1.heap.size := hc0.lt
  have hbel2 : Below w.heap.size w ((w1.alloc (.cells (Vs L0) 64)).alloc (.cells (Vs L0) 64)) := (hbel1.alloc hbel1.size _).alloc (by simp; omega) _
  have hsz2 : ((w1.alloc (.cells (Vs L0) 64)).alloc (.cells (Vs L0) 64)).heap.size = w1.heap.size + 2 := by simp
  have HSZ : Hid (((w1.alloc (.cells (Vs L0) 64)).alloc (.cells (Vs L0) 64)).heap.size = w1.heap.size + 2) := hsz2
  clear hsz2 hc0 hbel1
  generalize (w1.alloc (.cells (Vs L0) 64)).alloc (.cells (Vs L0) 64) = w2 at hb7 hb8 hb6 hbel2 HSZ ⊢
  generalize w1.heap.size = p at hb7 hb8 hlt6 HSZ ⊢
  clear w1
  go_loopw [17] (fun i wr => ∃ k : Nat, k ≤ 10 ∧ i = .int .i64 k ∧ Blk wr (p + 1) (Vs (Cc.turned L0 k)) 64 ∧ Blk wr p (Vs L0) 64 ∧ Blk wr w.heap.size (Bs (zeros 64)) 50 ∧ Below w.heap.size w wr ∧ wr.heap.size = p + 2) (fun i _ => 10 - (intOf i).toNat)
  case atStart => exact ⟨0, Nat.zero_le _, rfl, hb8, hb7, hb6, hbel2, HSZ.out⟩
  case round =>
    clear hb7 hb8 hb6 hbel2 HSZ w2
    obtain ⟨k, hk10, rfl, hb8, hb7, hb6, hbel, hsz⟩ := hrel
    have HSZ : Hid (wr.heap.size = p + 2) := hsz
    clear hsz
    by_cases hlt : k < 10
    · have i0 : (k : Int) < 10 := by omega
      go_wp2_with fail
      refine (stir_t (p + 1) _ wr hb8 (by rw [Cc.turned_length, hl0])).mono ?_
      rintro e w3 h3
      obtain ⟨rfl, h3b, h3l, h3s⟩ := h3
      have H3S : Hid (w3.heap.size = wr.heap.size) := h3s
      clear h3s
      go_wp2
      go_roundw
      case rel => exact ⟨k + 1, by omega, by go_num, h3b, hb7.below h3l (by omega), hb6.below h3l (by omega), hbel.trans (h3l.mono (by omega)), H3S.out.trans HSZ.out⟩
      case measure => simp [intOf]; omega
    · have hk16 : k = 10 := by omega
      subst hk16
      rw [show ((10 : Nat) : Int) = 10 from rfl]
      have hlT : (Cc.turned L0 10).length = 16 := by rw [Cc.turned_length, hl0]
      generalize Cc.turned L0 10 = T at hb8 HW hlT
      have hsT : (Vs T).size = 16 := by rw [Vs_size, hlT]
      have gT : (wr.alloc (.cells (Bs (zeros 64)) 50)).heap[p + 1]? = some (.cells (Vs T) 64 (0, 0)) := hb8.alloc _
      have hb7' := hb7.alloc (.cells (Bs (zeros 64)) 50)
      have hb6' := hb6.alloc (.cells (Bs (zeros 64)) 50)
      have hb9 := Blk.new wr (Bs (zeros 64)) 50
      have hbel' : Below w.heap.size w (wr.alloc (.cells (Bs (zeros 64)) 50)) := hbel.alloc hbel.size _
      have hszq : wr.heap.size = p + 2 := HSZ.out
      rw [hszq] at hb9
      go_wp2_with (refine wpList_load_row rfl 64 _ rfl (p + 1) rfl 64 _ (0, 0) _ gT Try.underlying64 rfl (by rw [hsT]; exact Try.info16) ?_)
      clear gT hb8 hb7 hb6 hbel HSZ
      generalize wr.alloc (.cells (Bs (zeros 64)) 50) = w4 at hb7' hb6' hb9 hbel' ⊢
      clear hszq wr
      go_loopw [22] (fun i wr => ∃ k : Nat, k ≤ 16 ∧ i = .int .i64 k ∧ Blk wr (p + 2) (Bs (Cc.tellTo BW k)) 50 ∧ Blk wr p (Vs L0) 64 ∧ Blk wr w.heap.size (Bs (zeros 64)) 50 ∧ Below w.heap.size w wr) (fun i _ => 16 - (intOf i).toNat)
      case atStart => exact ⟨0, Nat.zero_le _, rfl, hb9, hb7', hb6', hbel'⟩
      case round =>
        clear hb9 hb7' hb6' hbel' w4
        obtain ⟨k, hk16, rfl, hb9, hb7, hb6, hbel⟩ := hrel
        by_cases hlt : k < 16
        · have i0 : (k : Int) < 16 := by omega
          have hix := index16 T hlT k hlt
          have hc := hb7.cell k
          rw [Vs_at _ _ (by omega), HG.out k hlt] at hc
          have HBW : Hid (BW k = T.getD k 0 + F k) := HW.out k
          have hpw : Calls Try.prog 39 #[.slice (some ⟨p + 2, k * 4, none⟩) (64 - k * 4) (64 - k * 4), .int .u32 (V (BW k))] wr.drew fun e w' => e = .returned (.tuple #[]) ∧ w' = wr.drew.setRow (p + 2) (Bs (Cc.put (Cc.tellTo BW k) (k * 4) (BW k) 4)) :=
            cputWord_any (p + 2) (k * 4) (64 - k * 4) (64 - k * 4) 50 (Cc.tellTo BW k) (BW k) wr.drew (by omega) (by omega) (by omega) hb9 (by rw [Cc.tellTo_length]; omega)
          have a1 : IntKind.i64.wrap ((k : Int) * 4) = (k : Int) * 4 := by rw [IntKind.wrap_i64]; omega
          have a2 : (k : Int) * 4 ≤ 64 := by omega
          have a3 : (0 : Int) ≤ (k : Int) * 4 := by omega
          have a4 : ((k : Int) * 4).toNat = k * 4 := by omega
          have a5 : ¬ 64 = k * 4 := by omega
          generalize T.getD k 0 = t0 at hix HBW
          generalize F k = f0 at hc HBW
          rw [show BW k = t0 + f0 from HBW.out, ← V_add] at hpw
          have HPW : Hid (Calls Try.prog 39 #[.slice (some ⟨p + 2, k * 4, none⟩) (64 - k * 4) (64 - k * 4), .int .u32 (IntKind.u32.wrap (V t0 + V f0))] wr.drew fun e w' => e = .returned (.tuple #[]) ∧ w' = wr.drew.setRow (p + 2) (Bs (Cc.put (Cc.tellTo BW k) (k * 4) (t0 + f0) 4))) := hpw
          clear hpw
          go_wp2_with fail
          go_region_with (first | (go_at_call 39; refine HPW.out.mono ?_; rintro e w' ⟨rfl, rfl⟩))
          all_goals
            go_wp2
            go_roundw
            case rel => exact ⟨k + 1, by omega, by go_num, (show Cc.tellTo BW (k + 1) = Cc.put (Cc.tellTo BW k) (k * 4) (t0 + f0) 4 by rw [Cc.tellTo, show BW k = t0 + f0 from HBW.out]) ▸ hb9.row _, hb7.other (by omega) _, hb6.other (by omega) _, below_setRow hbel.drew (by omega) _⟩
            case measure => simp [intOf]; omega
        · have hk8 : k = 16 := by omega
          subst hk8
          have g0 := hb6; have g1 := hb9
          unfold Blk at g0 g1
          have hlR : (Cc.tellTo BW 16).length = 64 := Cc.tellTo_length _ _
          generalize Cc.tellTo BW 16 = R2 at g1 hlR HB
          have e16 : (Bs R2).size = 64 := by rw [Bs_size, hlR]
          have e16' : (Bs (zeros 64)).size = 64 := by rw [Bs_size]; rfl
          go_wp2_with (first
            | (refine wpList_load_row rfl 50 _ rfl (p + 2) rfl 50 _ (0, 0) _ g1 Try.underlying50 rfl (by rw [e16]; exact Try.info64) ?_)
            | (refine wpList_store_row rfl 50 _ _ rfl w.heap.size _ rfl rfl 50 _ g0 (by rw [e16]; exact Try.info64) (by rw [e16, e16']) (Bs_one _) ?_))
          refine bodyPost_ret (v := .agg (Bs R2)) ?_ rfl ⟨by rw [show R = R2 from HB.out], below_setRow hbel (Nat.le_refl _) _⟩
          exact results_cell_row rfl _ _ w.heap.size 50 _ (0, 0) _ rfl (hb6.row _) Try.underlying50 rfl (by rw [e16]; exact Try.info64)

end Go.Proofs.Ytclpbaokadfhhaa
