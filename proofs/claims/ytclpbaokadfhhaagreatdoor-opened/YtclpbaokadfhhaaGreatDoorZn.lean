/- Several texts as one: CBlock, CTurn. -/
import Derived.Test.YtclpbaokadfhhaaGreatDoorZm
import Derived.Test.YtclpbaokadfhhaaGreatDoorXm
namespace Go.Proofs.YtclpbaokadfhhaaGreatDoor
open Go.RowKit

/-- a whole row stored, as the walk opens it -/
theorem storeRowV {w : World} {g t : Nat} {cs : Array Value} {l : List (BitVec 32)} (hb : Blk w g cs t) (hl : cs.size = l.length) :
    (storeCells ⟨g, 0, none⟩ (Vs l).toList).run Tryz.prog w = .ok () (w.setRow g (Vs l)) := by
  have h1 := Vs_one l
  have := run_storeCells_from (P := Tryz.prog) g t (Vs l).toList 0 cs w hb (by simp [Vs_size, hl]) (fun v hv => (Array.all_eq_true_iff_forall_mem.1 h1) v (by simpa using hv))
  rw [this]
  simp
theorem storeNewV (w : World) (cs : Array Value) (t : Nat) (l : List (BitVec 32)) (hl : cs.size = l.length) :
    (storeCells ⟨w.heap.size, 0, none⟩ (Vs l).toList).run Tryz.prog (w.alloc (.cells cs t)) = .ok () (w.alloc (.cells (Vs l) t)) := by
  rw [storeRowV (Blk.new w cs t) hl, World.setRow_alloc_new]
theorem zero64 (w : World) : Sem.run Tryz.prog (zeroValue 176) w = .ok (.agg (Bs (zeros 64))) w := by kernel_rfl
theorem Tryz.info64 : (Tryz.prog.info? 176).map (·.size) = some 64 := by kernel_rfl

namespace Cc
def turned (l : List (BitVec 32)) : Nat → List (BitVec 32)
  | 0 => l
  | n + 1 => stir (turned l n)
theorem turned_length (l : List (BitVec 32)) (n : Nat) : (turned l n).length = l.length := by
  induction n with
  | zero => rfl
  | succ n ih => simp [turned, stir_length, ih]
/-- words told one behind the other, k of them -/
def tellTo (W : Nat → BitVec 32) : Nat → List UInt8
  | 0 => zeros 64
  | k + 1 => put (tellTo W k) (k * 4) (W k) 4
theorem tellTo_length (W : Nat → BitVec 32) (k : Nat) : (tellTo W k).length = 64 := by
  induction k with
  | zero => rfl
  | succ k ih => simp only [tellTo, put_length, ih]
/-- word i of a block -/
def blkWord (key : ByteArray) (c : BitVec 32) (nonce : ByteArray) (i : Nat) : BitVec 32 := (turned (rowTo (first key c nonce) 16) 10).getD i 0 + first key c nonce i
def blk (key : ByteArray) (c : BitVec 32) (nonce : ByteArray) : List UInt8 := tellTo (blkWord key c nonce) 16
theorem blk_length (key : ByteArray) (c : BitVec 32) (nonce : ByteArray) : (blk key c nonce).length = 64 := tellTo_length _ _
end Cc

theorem index16' (x0 x1 x2 x3 x4 x5 x6 x7 x8 x9 x10 x11 x12 x13 x14 x15 : BitVec 32) (k : Nat) (hk : k < 16) (w : World) :
    (Instr.index 203 (.agg (Vs [x0, x1, x2, x3, x4, x5, x6, x7, x8, x9, x10, x11, x12, x13, x14, x15])) (.int .i64 k)).run Tryz.prog w = .ok (.int .u32 (V ([x0, x1, x2, x3, x4, x5, x6, x7, x8, x9, x10, x11, x12, x13, x14, x15].getD k 0))) w := by
  obtain rfl | rfl | rfl | rfl | rfl | rfl | rfl | rfl | rfl | rfl | rfl | rfl | rfl | rfl | rfl | rfl : k = 0 ∨ k = 1 ∨ k = 2 ∨ k = 3 ∨ k = 4 ∨ k = 5 ∨ k = 6 ∨ k = 7 ∨ k = 8 ∨ k = 9 ∨ k = 10 ∨ k = 11 ∨ k = 12 ∨ k = 13 ∨ k = 14 ∨ k = 15 := by omega
  all_goals kernel_rfl
theorem index16 (l : List (BitVec 32)) (hl : l.length = 16) (k : Nat) (hk : k < 16) (w : World) :
    (Instr.index 203 (.agg (Vs l)) (.int .i64 k)).run Tryz.prog w = .ok (.int .u32 (V (l.getD k 0))) w := by
  match l, hl with
  | [x0, x1, x2, x3, x4, x5, x6, x7, x8, x9, x10, x11, x12, x13, x14, x15], _ => exact index16' x0 x1 x2 x3 x4 x5 x6 x7 x8 x9 x10 x11 x12 x13 x14 x15 k hk w

set_option maxRecDepth 100000 in
set_option maxHeartbeats 1000000 in
theorem block_any (key nonce : ByteArray) (c : BitVec 32) (w : World) (hk : key.size = 32) (hn : nonce.size = 12) :
    Calls Tryz.prog 178 #[.string key, .int .u32 (V c), .string nonce] w fun e w' => e = .returned (.agg (Bs (Cc.blk key c nonce))) ∧ Below w.heap.size w w' := by
  have hz := zero64
  have hF := firstWords_any key nonce c
  have HB : Hid (Cc.blk key c nonce = Cc.tellTo (Cc.blkWord key c nonce) 16) := by
    have : Cc.blk key c nonce = Cc.tellTo (Cc.blkWord key c nonce) 16 := rfl
    exact this
  have HW : Hid (∀ i, Cc.blkWord key c nonce i = (Cc.turned (Cc.rowTo (Cc.first key c nonce) 16) 10).getD i 0 + Cc.first key c nonce i) := fun i => rfl
  generalize Cc.blk key c nonce = R at HB ⊢
  generalize Cc.blkWord key c nonce = BW at HB HW
  generalize Cc.first key c nonce = F at hF HW
  have HF : Hid (∀ w : World, Calls Tryz.prog 214 #[.string key, .int .u32 (V c), .string nonce] w fun e w' => e = .returned (.agg (Vs (Cc.rowTo F 16))) ∧ Below w.heap.size w w') := fun w => hF w hk hn
  clear hF
  have hl0 : (Cc.rowTo F 16).length = 16 := Cc.rowTo_length _ _
  have HG : Hid (∀ i, i < 16 → (Cc.rowTo F 16).getD i 0 = F i) := fun i hi => Cc.rowTo_at F i hi
  generalize Cc.rowTo F 16 = L0 at HW HF hl0 HG
  have hb0 := Blk.new w (Bs (zeros 64)) 176
  have hbel0 : Below w.heap.size w (w.alloc (.cells (Bs (zeros 64)) 176)) := (Below.refl _ _).alloc (Nat.le_refl _) _
  have hst := fun wx : World => storeNewV wx Z16 203 L0 (by rw [hl0]; rfl)
  unfold Z16 at hst
  go_enter Tryz.func178, Tryz.ntmps178
  go_wp2_with fail
  refine (HF.out _).mono ?_
  rintro e w1 ⟨rfl, hb1⟩
  have hc0 : Blk w1 w.heap.size (Bs (zeros 64)) 176 := hb0.keep hb1
  have hbel1 : Below w.heap.size w w1 := hbel0.trans (hb1.mono (by simp))
  clear hb0 hbel0 hb1
  have hs0 : (Vs L0).size = 16 := by rw [Vs_size, hl0]
  have g7 := heap_alloc_new w1 (.cells (Vs L0) 203)
  have hst2 := hst (w1.alloc (.cells (Vs L0) 203))
  rw [show (w1.alloc (.cells (Vs L0) 203)).heap.size = w1.heap.size + 1 by simp] at hst2
  go_wp2_with (refine wpList_load_row rfl 203 _ rfl w1.heap.size rfl 203 _ (0, 0) _ g7 Tryz.underlying203 rfl (by rw [hs0]; exact Tryz.info16V) ?_)
  clear hst hst2 g7
  have hb7 : Blk ((w1.alloc (.cells (Vs L0) 203)).alloc (.cells (Vs L0) 203)) w1.heap.size (Vs L0) 203 := heap_alloc2_old w1 _ _
  have hb8 : Blk ((w1.alloc (.cells (Vs L0) 203)).alloc (.cells (Vs L0) 203)) (w1.heap.size + 1) (Vs L0) 203 := heap_alloc2_new w1 _ _
  have hb6 : Blk ((w1.alloc (.cells (Vs L0) 203)).alloc (.cells (Vs L0) 203)) w.heap.size (Bs (zeros 64)) 176 := (hc0.alloc _).alloc _
  have hlt6 : w.heap.size < w1.heap.size := hc0.lt
  have hbel2 : Below w.heap.size w ((w1.alloc (.cells (Vs L0) 203)).alloc (.cells (Vs L0) 203)) := (hbel1.alloc hbel1.size _).alloc (by simp; omega) _
  have hsz2 : ((w1.alloc (.cells (Vs L0) 203)).alloc (.cells (Vs L0) 203)).heap.size = w1.heap.size + 2 := by simp
  have HSZ : Hid (((w1.alloc (.cells (Vs L0) 203)).alloc (.cells (Vs L0) 203)).heap.size = w1.heap.size + 2) := hsz2
  clear hsz2 hc0 hbel1
  generalize (w1.alloc (.cells (Vs L0) 203)).alloc (.cells (Vs L0) 203) = w2 at hb7 hb8 hb6 hbel2 HSZ ⊢
  generalize w1.heap.size = p at hb7 hb8 hlt6 HSZ ⊢
  clear w1
  go_loopw [17] (fun i wr => ∃ k : Nat, k ≤ 10 ∧ i = .int .i64 k ∧ Blk wr (p + 1) (Vs (Cc.turned L0 k)) 203 ∧ Blk wr p (Vs L0) 203 ∧ Blk wr w.heap.size (Bs (zeros 64)) 176 ∧ Below w.heap.size w wr ∧ wr.heap.size = p + 2) (fun i _ => 10 - (intOf i).toNat)
  case atStart => exact ⟨0, Nat.zero_le _, rfl, hb8, hb7, hb6, hbel2, HSZ.out⟩
  case round =>
    clear hb7 hb8 hb6 hbel2 HSZ w2
    obtain ⟨k, hk10, rfl, hb8, hb7, hb6, hbel, hsz⟩ := hrel
    have HSZ : Hid (wr.heap.size = p + 2) := hsz
    clear hsz
    by_cases hlt : k < 10
    · have i0 : (k : Int) < 10 := by omega
      go_wp2_with fail
      refine (stir_t (p + 1) _ wr hb8 (by rw [Cc.turned_length, hl0])).mono ?_
      rintro e w3 h3
      obtain ⟨rfl, h3b, h3l, h3s⟩ := h3
      have H3S : Hid (w3.heap.size = wr.heap.size) := h3s
      clear h3s
      go_wp2
      go_roundw
      case rel => exact ⟨k + 1, by omega, by go_num, h3b, hb7.below h3l (by omega), hb6.below h3l (by omega), hbel.trans (h3l.mono (by omega)), H3S.out.trans HSZ.out⟩
      case measure => simp [intOf]; omega
    · have hk16 : k = 10 := by omega
      subst hk16
      rw [show ((10 : Nat) : Int) = 10 from rfl]
      have hlT : (Cc.turned L0 10).length = 16 := by rw [Cc.turned_length, hl0]
      generalize Cc.turned L0 10 = T at hb8 HW hlT
      have hsT : (Vs T).size = 16 := by rw [Vs_size, hlT]
      have gT : (wr.alloc (.cells (Bs (zeros 64)) 176)).heap[p + 1]? = some (.cells (Vs T) 203 (0, 0)) := hb8.alloc _
      have hb7' := hb7.alloc (.cells (Bs (zeros 64)) 176)
      have hb6' := hb6.alloc (.cells (Bs (zeros 64)) 176)
      have hb9 := Blk.new wr (Bs (zeros 64)) 176
      have hbel' : Below w.heap.size w (wr.alloc (.cells (Bs (zeros 64)) 176)) := hbel.alloc hbel.size _
      have hszq : wr.heap.size = p + 2 := HSZ.out
      rw [hszq] at hb9
      go_wp2_with (refine wpList_load_row rfl 203 _ rfl (p + 1) rfl 203 _ (0, 0) _ gT Tryz.underlying203 rfl (by rw [hsT]; exact Tryz.info16V) ?_)
      clear gT hb8 hb7 hb6 hbel HSZ
      generalize wr.alloc (.cells (Bs (zeros 64)) 176) = w4 at hb7' hb6' hb9 hbel' ⊢
      clear hszq wr
      go_loopw [22] (fun i wr => ∃ k : Nat, k ≤ 16 ∧ i = .int .i64 k ∧ Blk wr (p + 2) (Bs (Cc.tellTo BW k)) 176 ∧ Blk wr p (Vs L0) 203 ∧ Blk wr w.heap.size (Bs (zeros 64)) 176 ∧ Below w.heap.size w wr) (fun i _ => 16 - (intOf i).toNat)
      case atStart => exact ⟨0, Nat.zero_le _, rfl, hb9, hb7', hb6', hbel'⟩
      case round =>
        clear hb9 hb7' hb6' hbel' w4
        obtain ⟨k, hk16, rfl, hb9, hb7, hb6, hbel⟩ := hrel
        by_cases hlt : k < 16
        · have i0 : (k : Int) < 16 := by omega
          have hix := index16 T hlT k hlt
          have hc := hb7.cell k
          rw [Vs_at _ _ (by omega), HG.out k hlt] at hc
          have HBW : Hid (BW k = T.getD k 0 + F k) := HW.out k
          have hpw : Calls Tryz.prog 216 #[.slice (some ⟨p + 2, k * 4, none⟩) (64 - k * 4) (64 - k * 4), .int .u32 (V (BW k))] wr.drew fun e w' => e = .returned (.tuple #[]) ∧ w' = wr.drew.setRow (p + 2) (Bs (Cc.put (Cc.tellTo BW k) (k * 4) (BW k) 4)) :=
            cputWord_any (p + 2) (k * 4) (64 - k * 4) (64 - k * 4) 176 (Cc.tellTo BW k) (BW k) wr.drew (by omega) (by omega) (by omega) hb9 (by rw [Cc.tellTo_length]; omega)
          have a1 : IntKind.i64.wrap ((k : Int) * 4) = (k : Int) * 4 := by rw [IntKind.wrap_i64]; omega
          have a2 : (k : Int) * 4 ≤ 64 := by omega
          have a3 : (0 : Int) ≤ (k : Int) * 4 := by omega
          have a4 : ((k : Int) * 4).toNat = k * 4 := by omega
          have a5 : ¬ 64 = k * 4 := by omega
          generalize T.getD k 0 = t0 at hix HBW
          generalize F k = f0 at hc HBW
          rw [show BW k = t0 + f0 from HBW.out, ← V_add] at hpw
          have HPW : Hid (Calls Tryz.prog 216 #[.slice (some ⟨p + 2, k * 4, none⟩) (64 - k * 4) (64 - k * 4), .int .u32 (IntKind.u32.wrap (V t0 + V f0))] wr.drew fun e w' => e = .returned (.tuple #[]) ∧ w' = wr.drew.setRow (p + 2) (Bs (Cc.put (Cc.tellTo BW k) (k * 4) (t0 + f0) 4))) := hpw
          clear hpw
          go_wp2_with fail
          go_region_with (first | (go_at_call 216; refine HPW.out.mono ?_; rintro e w' ⟨rfl, rfl⟩))
          all_goals
            go_wp2
            go_roundw
            case rel => exact ⟨k + 1, by omega, by go_num, (show Cc.tellTo BW (k + 1) = Cc.put (Cc.tellTo BW k) (k * 4) (t0 + f0) 4 by rw [Cc.tellTo, show BW k = t0 + f0 from HBW.out]) ▸ hb9.row _, hb7.other (by omega) _, hb6.other (by omega) _, below_setRow hbel.drew (by omega) _⟩
            case measure => simp [intOf]; omega
        · have hk8 : k = 16 := by omega
          subst hk8
          have g0 := hb6; have g1 := hb9
          unfold Blk at g0 g1
          have hlR : (Cc.tellTo BW 16).length = 64 := Cc.tellTo_length _ _
          generalize Cc.tellTo BW 16 = R2 at g1 hlR HB
          have e16 : (Bs R2).size = 64 := by rw [Bs_size, hlR]
          have e16' : (Bs (zeros 64)).size = 64 := by rw [Bs_size]; rfl
          go_wp2_with (first
            | (refine wpList_load_row rfl 176 _ rfl (p + 2) rfl 176 _ (0, 0) _ g1 Tryz.underlying176 rfl (by rw [e16]; exact Tryz.info64) ?_)
            | (refine wpList_store_row rfl 176 _ _ rfl w.heap.size _ rfl rfl 176 _ g0 (by rw [e16]; exact Tryz.info64) (by rw [e16, e16']) (Bs_one _) ?_))
          refine bodyPost_ret (v := .agg (Bs R2)) ?_ rfl ⟨by rw [show R = R2 from HB.out], below_setRow hbel (Nat.le_refl _) _⟩
          exact results_cell_row rfl _ _ w.heap.size 176 _ (0, 0) _ rfl (hb6.row _) Tryz.underlying176 rfl (by rw [e16]; exact Tryz.info64)

end Go.Proofs.YtclpbaokadfhhaaGreatDoor

namespace Go.Proofs.YtclpbaokadfhhaaGreatDoor
open Go.RowKit

namespace Cc
/-- the bytes that data is xored with -/
def ks (key nonce : ByteArray) (i : Nat) : UInt8 := (blk key (BitVec.ofNat 32 (i / 64 + 1)) nonce).getD (i % 64) 0
/-- the first n bytes xored -/
def xorTo (S : Nat → UInt8) (l : List UInt8) (n : Nat) : List UInt8 := l.mapIdx fun i x => if i < n then x ^^^ S i else x
theorem xorTo_length (S : Nat → UInt8) (l : List UInt8) (n : Nat) : (xorTo S l n).length = l.length := by simp [xorTo]
theorem xorTo_zero (S : Nat → UInt8) (l : List UInt8) : xorTo S l 0 = l := by
  apply List.ext_getElem?
  intro i
  simp [xorTo, List.getElem?_mapIdx]
theorem xorTo_at (S : Nat → UInt8) (l : List UInt8) (n : Nat) (h : n < l.length) : (xorTo S l n).getD n 0 = l.getD n 0 := by
  simp [xorTo, List.getD, h]
theorem xorTo_set (S : Nat → UInt8) (l : List UInt8) (n : Nat) (h : n < l.length) : (xorTo S l n).set n (l.getD n 0 ^^^ S n) = xorTo S l (n + 1) := by
  apply List.ext_getElem?
  intro i
  rw [List.getElem?_set]
  by_cases e : n = i
  · subst e
    simp [xorTo, h, List.getD]
  · rw [if_neg e]
    simp only [xorTo, List.getElem?_mapIdx]
    by_cases h2 : i < n
    · simp [h2, show i < n + 1 by omega]
    · simp [h2, show ¬ i < n + 1 by omega]
def TurnB (key nonce data : ByteArray) : ByteArray := ⟨(xorTo (ks key nonce) data.data.toList data.size).toArray⟩
theorem TurnB_size (key nonce data : ByteArray) : (TurnB key nonce data).size = data.size := by
  show (xorTo (ks key nonce) data.data.toList data.size).toArray.size = data.size
  simp [xorTo_length]
end Cc

theorem storeRowB {w : World} {g t : Nat} {cs : Array Value} {l : List UInt8} (hb : Blk w g cs t) (hl : cs.size = l.length) :
    (storeCells ⟨g, 0, none⟩ (Bs l).toList).run Tryz.prog w = .ok () (w.setRow g (Bs l)) := by
  have h1 := Bs_one l
  have := run_storeCells_from (P := Tryz.prog) g t (Bs l).toList 0 cs w hb (by simp [Bs_size, hl]) (fun v hv => (Array.all_eq_true_iff_forall_mem.1 h1) v (by simpa using hv))
  rw [this]
  simp
theorem storeNewB (w : World) (cs : Array Value) (t : Nat) (l : List UInt8) (hl : cs.size = l.length) :
    (storeCells ⟨w.heap.size, 0, none⟩ (Bs l).toList).run Tryz.prog (w.alloc (.cells cs t)) = .ok () (w.alloc (.cells (Bs l) t)) := by
  rw [storeRowB (Blk.new w cs t) hl, World.setRow_alloc_new]

theorem xorTo_all (S : Nat → UInt8) (l : List UInt8) (n : Nat) (h : l.length ≤ n) : Cc.xorTo S l n = Cc.xorTo S l l.length := by
  apply List.ext_getElem?
  intro i
  simp only [Cc.xorTo, List.getElem?_mapIdx]
  by_cases h2 : i < l.length
  · simp [h2, show i < n by omega]
  · simp [h2]

set_option maxRecDepth 100000 in
set_option maxHeartbeats 1000000 in
theorem turn_any (key nonce data : ByteArray) (w : World) (hk : key.size = 32) (hn : nonce.size = 12) (hd : data.size ≤ 1000000) :
    Calls Tryz.prog 119 #[.string key, .string nonce, .string data] w fun e w' => e = .returned (.string (Cc.TurnB key nonce data)) ∧ Below w.heap.size w w' := by
  have hz := zero64
  obtain ⟨cap, w1, hcv, ho, hbel⟩ := bytesOf data w.heap.size w (Nat.le_refl _)
  replace ho := ho.at
  have HB : Hid (∀ (x : BitVec 32) (wx : World), Calls Tryz.prog 178 #[.string key, .int .u32 (V x), .string nonce] wx fun e w' => e = .returned (.agg (Bs (Cc.blk key x nonce))) ∧ Below wx.heap.size wx w') := fun x wx => block_any key nonce x wx hk hn
  have HT : Hid (Cc.TurnB key nonce data = ⟨(Cc.xorTo (Cc.ks key nonce) data.data.toList data.size).toArray⟩) := by
    have : Cc.TurnB key nonce data = ⟨(Cc.xorTo (Cc.ks key nonce) data.data.toList data.size).toArray⟩ := rfl
    exact this
  have hlen : data.data.toList.length = data.size := by simp
  generalize Cc.TurnB key nonce data = R at HT ⊢
  generalize data.data.toList = l at HT ho hlen
  go_enter Tryz.func119, Tryz.ntmps119
  go_wp2_with fail
  clear hcv
  go_loopw [8] (fun i wr => ∃ j : Nat, 64 * j < data.size + 64 ∧ i = .int .i64 (64 * j : Nat) ∧ OwnR wr w.heap.size cap (Cc.xorTo (Cc.ks key nonce) l (64 * j)) ∧ Below w.heap.size w wr) (fun i _ => data.size + 64 - (intOf i).toNat)
  case atStart => exact ⟨0, by omega, rfl, by rw [Nat.mul_zero, Cc.xorTo_zero]; exact ho, hbel⟩
  case round =>
    clear ho hbel w1
    obtain ⟨j, hj, rfl, ho, hbel⟩ := hrel
    by_cases hlt : 64 * j < data.size
    · have hlt6 : w.heap.size < wr.heap.size := ho.lt
      generalize hat : 64 * j = at0 at hj hlt ho
      have HAT : Hid (64 * j = at0) := hat
      clear hat
      go_wp2_with fail
      have hc : (at0 : Int) / 64 + 1 = V (BitVec.ofNat 32 (j + 1)) := by
        rw [← V_of (j + 1) (by have := HAT.out; omega)]; have := HAT.out; omega
      rw [hc]
      refine (HB.out _ _).mono ?_
      rintro e w2 ⟨rfl, hb2⟩
      have hlM : (Cc.blk key (BitVec.ofNat 32 (j + 1)) nonce).length = 64 := Cc.blk_length _ _ _
      have HM : Hid (∀ i, i < 64 → (Cc.blk key (BitVec.ofNat 32 (j + 1)) nonce).getD i 0 = Cc.ks key nonce (at0 + i)) := fun i hi => by
        unfold Cc.ks; rw [show (at0 + i) / 64 = j by have := HAT.out; omega, show (at0 + i) % 64 = i by have := HAT.out; omega]
      generalize Cc.blk key (BitVec.ofNat 32 (j + 1)) nonce = M at hlM HM ⊢
      generalize BitVec.ofNat 32 (j + 1) = cx at hc ⊢
      have hsM : (Bs M).size = 64 := by rw [Bs_size, hlM]
      have hst := storeNewB w2 (Bs (zeros 64)) 176 M (by rw [hlM, Bs_size]; rfl)
      have ho2 := (ho.below hb2 hlt6).alloc (.cells (Bs M) 176)
      have hlt2 : w.heap.size < w2.heap.size := (ho.below hb2 hlt6).lt
      have hbM := Blk.new w2 (Bs M) 176
      have hbel2 : Below w.heap.size w (w2.alloc (.cells (Bs M) 176)) := (hbel.trans (hb2.mono hbel.size)).alloc (by omega) _
      clear ho hbel hb2
      have hcap : data.size ≤ cap := by obtain ⟨_, _, _, _, _, h, _⟩ := ho2; rw [Cc.xorTo_length, hlen] at h; exact h
      obtain ⟨m, hm0, hm1, hm2, hm3⟩ : ∃ m : Nat, 0 < m ∧ m ≤ 64 ∧ at0 + m ≤ data.size ∧ (m = 64 ∨ at0 + m = data.size) := by
        by_cases h : at0 + 64 ≤ data.size
        · exact ⟨64, by omega, by omega, by omega, .inl rfl⟩
        · exact ⟨data.size - at0, by omega, by omega, by omega, .inr (by omega)⟩
      have hmin : min ((at0 : Int) + 64) (data.size : Int) = (at0 : Int) + (m : Int) := by omega
      have hm4 : (at0 : Int) + (m : Int) ≤ cap := by omega
      have hm5 : ¬ cap = at0 := by omega
      go_wp2_with fail
      clear hst hc hmin
      generalize w2.heap.size = p at hlt2 hbM ⊢
      generalize w2.alloc (.cells (Bs M) 176) = w3 at ho2 hbM hbel2 ⊢
      clear w2 hlt6
      go_loopw [35] (fun i wr => ∃ k : Nat, k ≤ m ∧ i = .int .i64 k ∧ OwnR wr w.heap.size cap (Cc.xorTo (Cc.ks key nonce) l (at0 + k)) ∧ Blk wr p (Bs M) 176 ∧ Below w.heap.size w wr) (fun i _ => m - (intOf i).toNat)
      case atStart => exact ⟨0, Nat.zero_le _, rfl, ho2, hbM, hbel2⟩
      case round =>
        clear ho2 hbM hbel2 w3
        obtain ⟨k, hkm, rfl, ho, hbM, hbel⟩ := hrel
        by_cases hlk : k < m
        · have h1 := ho.cell (at0 + k) (by rw [Cc.xorTo_length]; omega)
          rw [Cc.xorTo_at _ _ _ (by omega)] at h1
          have h2 := ho.frozen (at0 + k) (by rw [Cc.xorTo_length]; omega)
          have h3 := hbM.cell k
          rw [Bs_at _ _ (by omega), HM.out k (by omega)] at h3
          have HS : Hid ((Cc.xorTo (Cc.ks key nonce) l (at0 + k)).set (at0 + k) (l.getD (at0 + k) 0 ^^^ Cc.ks key nonce (at0 + k)) = Cc.xorTo (Cc.ks key nonce) l (at0 + k + 1)) := Cc.xorTo_set _ _ _ (by omega)
          generalize l.getD (at0 + k) 0 = x at h1 HS
          generalize Cc.ks key nonce (at0 + k) = y at h3 HS
          have i1 : (k : Int) < m := by omega
          have i2 : IntKind.i64.wrap ((at0 : Int) + (k : Int)) = (at0 : Int) + (k : Int) := by rw [IntKind.wrap_i64]; omega
          have i3 : (at0 : Int) + (k : Int) < data.size := by omega
          have i4 : (k : Int) < 64 := by omega
          have i5 : ((at0 : Int) + (k : Int)).toNat = at0 + k := by omega
          have i6 : (0 : Int) ≤ (at0 : Int) + (k : Int) := by omega
          go_wp2_with fail
          go_region
          go_wp2
          go_roundw
          case rel => exact ⟨k + 1, by omega, by go_num, by rw [xor_byte, ← Nat.add_assoc, ← show _ = _ from HS.out]; exact (ho.set _ _).drew, (hbM.otherCell ho (by omega) _).drew, (hbel.setCell (Nat.le_refl _) _).drew⟩
          case measure => simp [intOf]; omega
        · have hkm' : k = m := by omega
          subst hkm'
          go_wp2
          go_roundw
          case rel =>
            refine ⟨j + 1, by have := HAT.out; omega, int_eq (by have := HAT.out; omega), ?_, hbel⟩
            rcases hm3 with h | h
            · rw [show 64 * (j + 1) = at0 + k by have := HAT.out; omega]; exact ho
            · rw [xorTo_all _ _ (64 * (j + 1)) (by have := HAT.out; omega), ← xorTo_all _ _ (at0 + k) (by omega)]; exact ho
          case measure => simp [intOf]; have := HAT.out; omega
    · rw [xorTo_all _ _ (64 * j) (by omega), hlen] at ho
      have hso := stringOfOwn (n := data.size) ho (by rw [Cc.xorTo_length, hlen])
      go_wp2
      go_ret
      exact ⟨by rw [show R = _ from HT.out]; rfl, hbel⟩

end Go.Proofs.YtclpbaokadfhhaaGreatDoor
