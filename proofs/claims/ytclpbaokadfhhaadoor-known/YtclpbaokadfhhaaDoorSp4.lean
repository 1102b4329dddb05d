/- Contracts of scalar's Of, Bytes. -/
import Derived.Test.YtclpbaokadfhhaaDoorSp2
import Derived.Test.YtclpbaokadfhhaaDoorFby
namespace Go.Proofs.YtclpbaokadfhhaaDoor
open Go.RowKit

theorem S_bitRun (s : List UInt8) (k : Nat) : bits BinOp.and IntKind.u64 (((s.getD (k / 8) 0).toNat : Int) / 2 ^ (k % 8)) 1 = U (Sc.bitOf s k) := by
  generalize hx : s.getD (k / 8) 0 = x
  have h1 : x.toNat / 2 ^ (k % 8) < 256 := Nat.lt_of_le_of_lt (Nat.div_le_self _ _) x.toNat_lt
  have e1 : (x.toNat : Int) / 2 ^ (k % 8) = ((x.toNat / 2 ^ (k % 8) : Nat) : Int) := by simp
  unfold Sc.bitOf
  rw [hx, e1]
  generalize x.toNat / 2 ^ (k % 8) = n at h1
  have e3 : (n : Int) = U (BitVec.ofNat 64 n) := U_of n (by omega)
  have e4 : (1 : Int) = U 1 := rfl
  rw [e3, e4, U_and]
  unfold U
  congr 1
  rw [BitVec.toNat_and, BitVec.toNat_ofNat, BitVec.toNat_ofNat, Nat.mod_eq_of_lt (by omega), Nat.mod_eq_of_lt (by omega)]
  show n &&& 1 = n % 2
  exact Nat.and_one_is_mod n

set_option maxRecDepth 100000 in
set_option maxHeartbeats 4000000 in
theorem S_of (s : ByteArray) (w : World) (hs : s.size ≤ 1000000) :
    Calls Tryd.prog 33 #[.string s] w fun e w' => e = .returned (.agg (Ws (Sc.of s.data.toList))) ∧ Below w.heap.size w w' := by
  have hsl : s.data.toList.length = s.size := by simp
  have HE : Hid (Sc.of s.data.toList = Sc.ofTo s.data.toList (8 * s.size)) := by
    have : Sc.of s.data.toList = Sc.ofTo s.data.toList (8 * s.size) := by rw [Sc.of, hsl]
    exact this
  generalize Sc.of s.data.toList = R at HE ⊢
  have hb1 : Blk ((w.alloc (.cells (Ws [0, 0, 0, 0]) 52)).alloc (.cells (Ws [0, 0, 0, 0]) 52)) w.heap.size (Ws [0, 0, 0, 0]) 52 := heap_alloc2_old w _ _
  have hb2 : Blk ((w.alloc (.cells (Ws [0, 0, 0, 0]) 52)).alloc (.cells (Ws [0, 0, 0, 0]) 52)) (w.heap.size + 1) (Ws [0, 0, 0, 0]) 52 := heap_alloc2_new w _ _
  have hbel : Below w.heap.size w ((w.alloc (.cells (Ws [0, 0, 0, 0]) 52)).alloc (.cells (Ws [0, 0, 0, 0]) 52)) := ((Below.refl _ _).alloc (Nat.le_refl _) _).alloc (by simp) _
  have hw8 : IntKind.i64.wrap (8 * (s.size : Int)) = 8 * (s.size : Int) := by rw [IntKind.wrap_i64]; omega
  have hw9 : IntKind.i64.wrap (8 * (s.size : Int) - 1) = 8 * (s.size : Int) - 1 := by rw [IntKind.wrap_i64]; omega
  go_enter Tryd.func33, Tryd.ntmps33
  go_wp2_with fail
  rw [SZ4]
  generalize (w.alloc (.cells (Ws [0, 0, 0, 0]) 52)).alloc (.cells (Ws [0, 0, 0, 0]) 52) = w1 at hb1 hb2 hbel ⊢
  go_loopw [4] (fun c wr => ∃ n : Nat, n ≤ 8 * s.size ∧ c = .int .i64 (8 * (s.size : Int) - 1 - (n : Int)) ∧ Blk wr (w.heap.size + 1) (Ws (Sc.ofTo s.data.toList n)) 52 ∧ Blk wr w.heap.size (Ws [0, 0, 0, 0]) 52 ∧ Below w.heap.size w wr) (fun c _ => ((intOf c) + 1).toNat)
  case atStart => exact ⟨0, by omega, by simp, hb2, hb1, hbel⟩
  case round =>
    clear hb1 hb2 hbel w1
    obtain ⟨n, hn, rfl, hb2, hb1, hbel⟩ := hrel
    have hlS := Sc.ofTo_length s.data.toList n
    by_cases hlt : n < 8 * s.size
    · have HS : Hid (Sc.ofTo s.data.toList (n + 1) = Sc.plus (Sc.plus (Sc.ofTo s.data.toList n) (Sc.ofTo s.data.toList n)) [Sc.bitOf s.data.toList (8 * s.size - 1 - n), 0, 0, 0]) := by
        have : Sc.ofTo s.data.toList (n + 1) = Sc.plus (Sc.plus (Sc.ofTo s.data.toList n) (Sc.ofTo s.data.toList n)) [Sc.bitOf s.data.toList (8 * s.size - 1 - n), 0, 0, 0] := by rw [Sc.ofTo, hsl]
        exact this
      obtain ⟨at0, hat⟩ : ∃ at0 : Nat, at0 = 8 * s.size - 1 - n := ⟨_, rfl⟩
      rw [← hat] at HS
      have hc : (8 * (s.size : Int) - 1 - (n : Int)) = (at0 : Int) := by omega
      rw [hc]
      have hat2 : at0 < 8 * s.size := by omega
      clear hat
      replace hc : Hid (8 * (s.size : Int) - 1 - (n : Int) = (at0 : Int)) := hc
      have i3 : (0 : Int) ≤ (at0 : Int) := by omega
      have hix := byte_run s (at0 / 8) (by omega)
      have hix2 : ∀ wx : World, (Instr.index 9 (.string s) (.int .i64 ((at0 : Int) / 8))).run Tryd.prog wx = .ok (.int .u8 ((s.data.toList.getD (at0 / 8) 0).toNat : Int)) wx := by
        intro wx
        have : ((at0 : Int) / 8) = ((at0 / 8 : Nat) : Int) := by omega
        rw [this]
        exact hix wx
      have hbit := S_bitRun s.data.toList at0
      generalize s.data.toList.getD (at0 / 8) 0 = x at hix hix2 hbit
      generalize Sc.bitOf s.data.toList at0 = bit at hbit HS
      have i1 : IntKind.i64.wrap ((at0 : Int) / 8) = ((at0 / 8 : Nat) : Int) := by rw [IntKind.wrap_i64]; omega
      have i2 : (at0 : Int).tmod 8 = ((at0 % 8 : Nat) : Int) := by rw [Int.tmod_eq_emod_of_nonneg (by omega)]; omega
      have i4 : ((at0 % 8 : Nat) : Int) < 8 := by omega
      have hbit2 : bits BinOp.and IntKind.u64 (IntKind.u64.wrap ((x.toNat : Int) / 2 ^ (at0 % 8))) 1 = U bit := by
        have h1 : x.toNat / 2 ^ (at0 % 8) < 256 := Nat.lt_of_le_of_lt (Nat.div_le_self _ _) x.toNat_lt
        have e1 : (x.toNat : Int) / 2 ^ (at0 % 8) = ((x.toNat / 2 ^ (at0 % 8) : Nat) : Int) := by simp
        have e2 : IntKind.u64.wrap ((x.toNat / 2 ^ (at0 % 8) : Nat) : Int) = ((x.toNat / 2 ^ (at0 % 8) : Nat) : Int) := by
          generalize x.toNat / 2 ^ (at0 % 8) = n at h1
          rw [IntKind.wrap_u64]; omega
        rw [← hbit, e1, e2]
      generalize hS : Sc.ofTo s.data.toList n = S at hb2 hlS HS
      clear hS
      have H1 : Hid (∀ wx : World, Calls Tryd.prog 37 #[.agg (Ws S), .agg (Ws S)] wx fun e w' => e = .returned (.agg (Ws (Sc.plus S S))) ∧ Below wx.heap.size wx w') := fun wx => S_plus S S wx hlS hlS
      have lP : (Sc.plus S S).length = 4 := by rw [Sc.plus_length, hlS]
      generalize Sc.plus S S = P at H1 lP HS
      have H2 : Hid (∀ wx : World, Calls Tryd.prog 37 #[.agg (Ws P), .agg #[.int .u64 (U bit), .int .u64 0, .int .u64 0, .int .u64 0]] wx fun e w' => e = .returned (.agg (Ws (Sc.plus P [bit, 0, 0, 0]))) ∧ Below wx.heap.size wx w') := fun wx => S_plus P [bit, 0, 0, 0] wx lP rfl
      have lT : (Sc.plus P [bit, 0, 0, 0]).length = 4 := by rw [Sc.plus_length, lP]
      generalize Sc.plus P [bit, 0, 0, 0] = T at H2 lT HS
      have sS : (Ws S).size = 4 := by rw [Ws_size, hlS]
      have sT : (Ws T).size = 4 := by rw [Ws_size, lT]
      clear lP
      have g2 := hb2
      unfold Blk at g2
      go_wp2_with (first
        | (refine wpList_load_row rfl 52 _ rfl (w.heap.size + 1) rfl 52 _ (0, 0) _ g2 Tryd.underlying52 rfl (by rw [sS]; exact Tryd.infoS4) ?_))
      refine (H1.out _).mono ?_
      rintro e x1 ⟨rfl, k1⟩
      replace hb2 := hb2.keep k1
      replace hb1 := hb1.keep k1
      replace hbel := hbel.trans (k1.mono hbel.size)
      clear k1 g2
      go_wp2_with fail
      refine (H2.out _).mono ?_
      rintro e x2 ⟨rfl, k2⟩
      replace hb2 := hb2.keep k2
      replace hb1 := hb1.keep k2
      replace hbel := hbel.trans (k2.mono hbel.size)
      clear k2
      have hst := storeRow (l := T) hb2 (by rw [sS, lT])
      go_wp2
      go_roundw
      case rel =>
        refine ⟨n + 1, by omega, by have := hc.out; go_num, ?_, hb1.other (by omega) _, below_setRow hbel (by omega) _⟩
        rw [show Sc.ofTo s.data.toList (n + 1) = _ from HS.out]
        exact hb2.row _
      case measure => have := hc.out; simp [intOf]; try omega
    · have hk8 : n = 8 * s.size := by omega
      have hc : (8 * (s.size : Int) - 1 - (n : Int)) = -1 := by omega
      rw [hc]
      rw [← hk8] at HE
      generalize Sc.ofTo s.data.toList n = S at hb2 hlS HE
      have g0 := hb2
      unfold Blk at g0
      have sS : (Ws S).size = 4 := by rw [Ws_size, hlS]
      have hst := storeRow (l := S) hb1 (by rw [hlS]; rfl)
      go_wp2_with (first
        | (refine wpList_load_row rfl 52 _ rfl (w.heap.size + 1) rfl 52 _ (0, 0) _ g0 Tryd.underlying52 rfl (by rw [sS]; exact Tryd.infoS4) ?_))
      refine bodyPost_ret (v := .agg (Ws S)) ?_ rfl ⟨by rw [show R = _ from HE.out], below_setRow hbel (by omega) _⟩
      exact results_cell_row rfl _ _ w.heap.size 52 _ (0, 0) _ rfl (hb1.row _) Tryd.underlying52 rfl (by rw [sS]; exact Tryd.infoS4)

set_option maxRecDepth 100000 in
set_option maxHeartbeats 4000000 in
theorem S_bytes (a : List (BitVec 64)) (w : World) (ha : a.length = 4) :
    Calls Tryd.prog 40 #[.agg (Ws a)] w fun e w' => e = .returned (.string ⟨(Ff.bytesTo a 32).toArray⟩) ∧ Below w.heap.size w w' := by
  have sa : (Ws a).size = 4 := by rw [Ws_size, ha]
  have hz := zero32
  generalize hR : Ff.bytesTo a 32 = R
  replace hR : Hid (Ff.bytesTo a 32 = R) := hR
  have hW4 : Blk ((w.alloc (.cells (Ws a) 52)).alloc (.cells (Bs (zeros 32)) 86)) w.heap.size (Ws a) 52 := heap_alloc2_old w _ _
  have hO4 : Blk ((w.alloc (.cells (Ws a) 52)).alloc (.cells (Bs (zeros 32)) 86)) (w.heap.size + 1) (Bs (zeros 32)) 86 := heap_alloc2_new w _ _
  have bel4 : Below w.heap.size w ((w.alloc (.cells (Ws a) 52)).alloc (.cells (Bs (zeros 32)) 86)) := ((Below.refl _ _).alloc (Nat.le_refl _) _).alloc (by simp) _
  go_enter Tryd.func40, Tryd.ntmps40
  go_wp2_with fail
  generalize (w.alloc (.cells (Ws a) 52)).alloc (.cells (Bs (zeros 32)) 86) = w4 at hW4 hO4 bel4 ⊢
  clear hz
  go_loopw [5] (fun c wr => ∃ k : Nat, k ≤ 32 ∧ c = .int .i64 (k : Int) ∧ Blk wr w.heap.size (Ws a) 52 ∧ Blk wr (w.heap.size + 1) (Bs (Ff.bytesTo a k)) 86 ∧ Below w.heap.size w wr) (fun c _ => 32 - (intOf c).toNat)
  case atStart => exact ⟨0, by omega, rfl, hW4, hO4, bel4⟩
  case round =>
    clear hW4 hO4 bel4
    obtain ⟨k, hk, rfl, hW4, hO4, bel4⟩ := hrel
    have hl := Ff.bytesTo_length a k
    by_cases hlt : k < 32
    · have HB : Hid (Ff.bytesTo a (k + 1) = (Ff.bytesTo a k).set k ((a.getD (k / 8) 0 >>> (k % 8 * 8)).toNat.toUInt8)) := by
        have : Ff.bytesTo a (k + 1) = (Ff.bytesTo a k).set k ((a.getD (k / 8) 0 >>> (k % 8 * 8)).toNat.toUInt8) := by rw [Ff.bytesTo]; rfl
        exact this
      have cw := hW4.cell (k / 8)
      rw [Ws_at _ _ (show k / 8 < a.length by omega)] at cw
      have co := hO4.cell k
      rw [Bs_at _ _ (by omega)] at co
      have fo := hO4.frozen k
      have i1 : IntKind.i64.wrap ((k : Int) / 8) = ((k / 8 : Nat) : Int) := by rw [IntKind.wrap_i64]; omega
      have i2 : IntKind.i64.wrap ((k : Int).tmod 8 * 8) = ((k % 8 * 8 : Nat) : Int) := by rw [IntKind.wrap_i64, Int.tmod_eq_emod_of_nonneg (by omega)]; omega
      have q2 : ((k / 8 : Nat) : Int) < 4 := by omega
      have s2 : ((k % 8 * 8 : Nat) : Int) < 64 := by omega
      generalize hq : k / 8 = q at *
      generalize hsf : k % 8 * 8 = sft at *
      replace hq : Hid (k / 8 = q) := hq
      replace hsf : Hid (k % 8 * 8 = sft) := hsf
      generalize a.getD q 0 = y at cw HB
      generalize (Ff.bytesTo a k).getD k 0 = z at co
      have sh : U y / 2 ^ sft = U (y >>> sft) := U_shr y sft
      have lb := low_byte (y >>> sft)
      have lb2 : IntKind.u8.wrap (U y / 2 ^ sft) = ((y >>> sft).toNat.toUInt8.toNat : Int) := by rw [sh, lb]
      generalize (y >>> sft).toNat.toUInt8 = v at HB lb lb2
      clear lb sh
      have hlt' : (k : Int) < 32 := by omega
      go_wp2
      go_roundw
      case rel =>
        have e : U y / 2 ^ (k % 8 * 8) % 256 = (v.toNat : Int) := by rw [hsf.out, ← IntKind.wrap_u8, lb2]
        rw [e, hO4.set, Bs_set]
        refine ⟨k + 1, by omega, by go_num, hW4.other (by omega) _, ?_, below_setRow bel4 (by omega) _⟩
        rw [HB.out]
        exact hO4.row _
      case measure => simp [intOf]; omega
    · have hk32 : k = 32 := by omega
      subst hk32
      have hso := stringOf (cap := 32) hO4 32 hl.symm
      generalize Ff.bytesTo a 32 = T at hso hR
      go_wp2
      go_ret
      exact ⟨by rw [← show T = R from hR.out]; rfl, bel4⟩
end Go.Proofs.YtclpbaokadfhhaaDoor
