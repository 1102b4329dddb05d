/- Contract of the document's own mixing of one block. -/
import Derived.Test.YtclpbaokadfhhaaGreatDoorXr
import Derived.Deep.RegionHeld3
namespace Go.Proofs.YtclpbaokadfhhaaGreatDoor
open Go.RowKit
theorem wd_congr (f g : Nat → UInt8) (k : Nat) (h : ∀ i, i < k → f i = g i) : Sha.wd f k = Sha.wd g k := by
  induction k with
  | zero => rfl
  | succ k ih => rw [Sha.wd, Sha.wd, ih (fun i hi => h i (by omega)), h k (by omega)]
theorem extract_getD (s : ByteArray) (a b i : Nat) (h : a + i < b) (_hb : b ≤ s.size) : (s.extract a b).data.toList.getD i 0 = s.data.toList.getD (a + i) 0 := by
  have h2 : i < b - a := by omega
  simp [List.getD, List.getElem?_drop, List.getElem?_take, ByteArray.data_extract]
  rw [if_pos (by omega)]
theorem sch_step (f : Nat → BitVec 64) (k : Nat) (h : 16 ≤ k) : IntKind.u64.wrap (IntKind.u64.wrap (IntKind.u64.wrap (bits BinOp.xor IntKind.u64 (bits BinOp.xor IntKind.u64 (U (Sha.rot (Sha.sch f (k - 2)) 19)) (U (Sha.rot (Sha.sch f (k - 2)) 61))) (U (Sha.sch f (k - 2)) / 64) +
    U (Sha.sch f (k - 7))) + bits BinOp.xor IntKind.u64 (bits BinOp.xor IntKind.u64 (U (Sha.rot (Sha.sch f (k - 15)) 1)) (U (Sha.rot (Sha.sch f (k - 15)) 8))) (U (Sha.sch f (k - 15)) / 128)) + U (Sha.sch f (k - 16))) = U (Sha.sch f k) := by
  rw [U_xor, U_xor, U_shr' _ 64 6 (by decide), U_shr' _ 128 7 (by decide), U_xor, U_xor, U_add, U_add, U_add, Sha.sch_ge f k h]; rfl
theorem ch_eq (e f g : BitVec 64) : bits BinOp.or IntKind.u64 (bits BinOp.and IntKind.u64 (U e) (U f)) (bits BinOp.and IntKind.u64 (bits BinOp.xor IntKind.u64 (U e) 18446744073709551615) (U g)) = U (Sha.ch e f g) := by
  rw [show (18446744073709551615 : Int) = U (BitVec.allOnes 64) by rw [← U_max]; decide, U_xor, U_and, U_and, U_or, BitVec.xor_comm, U_not]; rfl
theorem maj_eq (a b c : BitVec 64) : bits BinOp.or IntKind.u64 (bits BinOp.or IntKind.u64 (bits BinOp.and IntKind.u64 (U a) (U b)) (bits BinOp.and IntKind.u64 (U a) (U c))) (bits BinOp.and IntKind.u64 (U b) (U c)) = U (Sha.maj a b c) := by
  rw [U_and, U_and, U_or, U_and, U_or]; rfl
theorem rnd_arr (k x : BitVec 64) (t : Sha.St) : (#[Value.int IntKind.u64 (IntKind.u64.wrap (IntKind.u64.wrap (IntKind.u64.wrap (IntKind.u64.wrap (IntKind.u64.wrap (U t.h + bits BinOp.xor IntKind.u64 (bits BinOp.xor IntKind.u64 (U (Sha.rot t.e 14)) (U (Sha.rot t.e 18))) (U (Sha.rot t.e 41))) + U (Sha.ch t.e t.f t.g)) + U k) + U x) +
      IntKind.u64.wrap (bits BinOp.xor IntKind.u64 (bits BinOp.xor IntKind.u64 (U (Sha.rot t.a 28)) (U (Sha.rot t.a 34))) (U (Sha.rot t.a 39)) + U (Sha.maj t.a t.b t.c)))),
    Value.int IntKind.u64 (U t.a), Value.int IntKind.u64 (U t.b), Value.int IntKind.u64 (U t.c),
    Value.int IntKind.u64 (IntKind.u64.wrap (U t.d + IntKind.u64.wrap (IntKind.u64.wrap (IntKind.u64.wrap (IntKind.u64.wrap (U t.h + bits BinOp.xor IntKind.u64 (bits BinOp.xor IntKind.u64 (U (Sha.rot t.e 14)) (U (Sha.rot t.e 18))) (U (Sha.rot t.e 41))) + U (Sha.ch t.e t.f t.g)) + U k) + U x))),
    Value.int IntKind.u64 (U t.e), Value.int IntKind.u64 (U t.f), Value.int IntKind.u64 (U t.g)] : Array Value) = Ws (Sha.rnd k x t).list := by
  rw [U_xor, U_xor, U_xor, U_xor, U_add, U_add, U_add, U_add, U_add, U_add, U_add]; rfl
set_option maxRecDepth 100000 in
set_option maxHeartbeats 4000000 in
theorem mixed_any (s8 : Sha.St) (s : ByteArray) (kb : Nat) (w : World) (hs : s.size = 128) (hk : ∀ i, i < 80 → w.cell? ⟨kb, i, none⟩ = some (.int .u64 (U (Sha.K i)))) :
    Calls Tryz.prog 78 #[.agg (Ws s8.list), .string s, .slice (some ⟨kb, 0, none⟩) 80 80] w fun e w' =>
      e = .returned (.agg (Ws (Sha.comp Sha.K s8 (fun i => s.data.toList.getD i 0)).list)) ∧ Below w.heap.size w w' := by
  have hkb : kb < w.heap.size := block_lt_of_cell (hk 0 (by omega))
  have HK : Hid (∀ i, i < 80 → w.cell? ⟨kb, i, none⟩ = some (.int .u64 (U (Sha.K i)))) := hk
  clear hk
  generalize hW : (Sha.sch fun t => Sha.wd (fun i => s.data.toList.getD (8 * t + i) 0) 8) = W
  have HW : Hid _ := hW
  have HR : Hid (Sha.comp Sha.K s8 (fun i => s.data.toList.getD i 0) = s8.plus (Sha.rnds Sha.K W s8 80)) := by rw [← hW]; rfl
  clear hW
  generalize Sha.comp Sha.K s8 (fun i => s.data.toList.getD i 0) = R at HR ⊢
  generalize hT : Sha.rnds Sha.K W s8 80 = T at HR
  have HT : Hid _ := hT
  clear hT
  have hws : (Ws s8.list).size = 8 := by rw [Ws_size]; rfl
  have hz := zero80
  have hb1 := Blk.alloc (Blk.alloc (Blk.new w (Ws s8.list) 101) (.cells (Ws [0, 0, 0, 0, 0, 0, 0, 0]) 101)) (.cells (Ws Sha.none80) 146)
  have hb2 := Blk.alloc (Blk.new (w.alloc (.cells (Ws s8.list) 101)) (Ws [0, 0, 0, 0, 0, 0, 0, 0]) 101) (.cells (Ws Sha.none80) 146)
  have hb3 := Blk.new ((w.alloc (.cells (Ws s8.list) 101)).alloc (.cells (Ws [0, 0, 0, 0, 0, 0, 0, 0]) 101)) (Ws Sha.none80) 146
  have hbel : Below w.heap.size w (((w.alloc (.cells (Ws s8.list) 101)).alloc (.cells (Ws [0, 0, 0, 0, 0, 0, 0, 0]) 101)).alloc (.cells (Ws Sha.none80) 146)) :=
    (((Below.refl _ _).alloc (Nat.le_refl _) _).alloc (by simp) _).alloc (by simp; omega) _
  rw [show (w.alloc (.cells (Ws s8.list) 101)).heap.size = w.heap.size + 1 by simp] at hb2
  rw [show ((w.alloc (.cells (Ws s8.list) 101)).alloc (.cells (Ws [0, 0, 0, 0, 0, 0, 0, 0]) 101)).heap.size = w.heap.size + 1 + 1 by simp] at hb3
  go_enter Tryz.func78, Tryz.ntmps78
  go_wp2_with fail
  rw [show (#[Value.int IntKind.u64 0, Value.int IntKind.u64 0, Value.int IntKind.u64 0, Value.int IntKind.u64 0,
      Value.int IntKind.u64 0, Value.int IntKind.u64 0, Value.int IntKind.u64 0, Value.int IntKind.u64 0] : Array Value) = Ws [0, 0, 0, 0, 0, 0, 0, 0] from rfl]
  generalize ((w.alloc (.cells (Ws s8.list) 101)).alloc (.cells (Ws [0, 0, 0, 0, 0, 0, 0, 0]) 101)).alloc (.cells (Ws Sha.none80) 146) = w1 at hb1 hb2 hb3 hbel ⊢
  go_loopw [8] (fun i wr => ∃ k : Nat, k ≤ 80 ∧ i = .int .i64 k ∧ Blk wr (w.heap.size + 1 + 1) (Ws (Sha.rowTo W k)) 146 ∧ Blk wr w.heap.size (Ws s8.list) 101 ∧ Blk wr (w.heap.size + 1) (Ws [0, 0, 0, 0, 0, 0, 0, 0]) 101 ∧ Below w.heap.size w wr) (fun i _ => 80 - (intOf i).toNat)
  case atStart => exact ⟨0, by omega, rfl, by rw [Sha.rowTo_zero]; exact hb3, hb1, hb2, hbel⟩
  case round =>
    clear hb1 hb2 hb3 hbel
    obtain ⟨k, hk, rfl, hb3, hb1, hb2, hbel⟩ := hrel
    by_cases hlt : k < 80
    · have i0 : (k : Int) < 80 := by omega
      have g1 := hb3.cell k
      rw [Ws_at _ _ (by rw [Sha.rowTo_length]; omega)] at g1
      have g2 := hb3.frozen k
      by_cases h16 : k < 16
      · have i16 : (k : Int) < 16 := by omega
        have hex : (s.extract (8 * k) (8 * k + 8)).size = 8 := by simp; omega
        have HV : Hid (Sha.wd (fun i => (s.extract (8 * k) (8 * k + 8)).data.toList.getD i 0) 8 = W k) := by
          show _ = _
          rw [← show (Sha.sch fun t => Sha.wd (fun i => s.data.toList.getD (8 * t + i) 0) 8) = W from HW.out, Sha.sch_lt _ _ h16]
          exact wd_congr _ _ _ (fun i hi => extract_getD s _ _ i (by omega) (by omega))
        go_wp2_with fail
        refine (rword_any _ _ hex).mono ?_
        rintro e w' ⟨rfl, rfl⟩
        rw [show Sha.wd (fun i => (s.extract (8 * k) (8 * k + 8)).data.toList.getD i 0) 8 = W k from HV.out]
        go_wp2
        have R := rowTo_store (w := w) (B := w.heap.size + 1 + 1) (k := k) (x := U (W k)) (by omega) hb3 (by omega) hbel rfl
        go_roundw
        case rel => exact ⟨k + 1, by omega, by go_num, R.1, R.2.1 _ _ _ (by omega) hb1, R.2.1 _ _ _ (by omega) hb2, R.2.2⟩
        case measure => simp [intOf]; omega
      · have i16 : ¬ (k : Int) < 16 := by omega
        have c2 := hb3.cell (k - 2)
        rw [Ws_at _ _ (by rw [Sha.rowTo_length]; omega), Sha.rowTo_get _ _ _ (by omega) hk] at c2
        have c7 := hb3.cell (k - 7)
        rw [Ws_at _ _ (by rw [Sha.rowTo_length]; omega), Sha.rowTo_get _ _ _ (by omega) hk] at c7
        have c15 := hb3.cell (k - 15)
        rw [Ws_at _ _ (by rw [Sha.rowTo_length]; omega), Sha.rowTo_get _ _ _ (by omega) hk] at c15
        have c16 := hb3.cell (k - 16)
        rw [Ws_at _ _ (by rw [Sha.rowTo_length]; omega), Sha.rowTo_get _ _ _ (by omega) hk] at c16
        have i2c : ((k : Int) - 2).toNat = k - 2 := by omega
        have i7c : ((k : Int) - 7).toNat = k - 7 := by omega
        have i15c : ((k : Int) - 15).toNat = k - 15 := by omega
        have i16c : ((k : Int) - 16).toNat = k - 16 := by omega
        have j2 : IntKind.i64.wrap ((k : Int) - 2) = (k : Int) - 2 := by rw [IntKind.wrap_i64]; omega
        have j7 : IntKind.i64.wrap ((k : Int) - 7) = (k : Int) - 7 := by rw [IntKind.wrap_i64]; omega
        have j15 : IntKind.i64.wrap ((k : Int) - 15) = (k : Int) - 15 := by rw [IntKind.wrap_i64]; omega
        have j16 : IntKind.i64.wrap ((k : Int) - 16) = (k : Int) - 16 := by rw [IntKind.wrap_i64]; omega
        have l2 : (2 : Int) ≤ (k : Int) ∧ (k : Int) - 2 < 80 := by omega
        have l7 : (7 : Int) ≤ (k : Int) ∧ (k : Int) - 7 < 80 := by omega
        have l15 : (15 : Int) ≤ (k : Int) ∧ (k : Int) - 15 < 80 := by omega
        have l16 : (16 : Int) ≤ (k : Int) ∧ (k : Int) - 16 < 80 := by omega
        obtain ⟨l2a, l2b⟩ := l2
        obtain ⟨l7a, l7b⟩ := l7
        obtain ⟨l15a, l15b⟩ := l15
        obtain ⟨l16a, l16b⟩ := l16
        have q7 : ∀ (wx : World) (v : Value), (wx.setCell ⟨w.heap.size + 1 + 1, k, none⟩ v).cell? ⟨w.heap.size + 1 + 1, k - 7, none⟩ = wx.cell? ⟨w.heap.size + 1 + 1, k - 7, none⟩ := fun wx v => cell_set_off _ _ _ _ _ (by omega)
        have q16 : ∀ (wx : World) (v : Value), (wx.setCell ⟨w.heap.size + 1 + 1, k, none⟩ v).cell? ⟨w.heap.size + 1 + 1, k - 16, none⟩ = wx.cell? ⟨w.heap.size + 1 + 1, k - 16, none⟩ := fun wx v => cell_set_off _ _ _ _ _ (by omega)
        go_wp2_with (go_at_call 142; refine (rright_any _ _ _ (by decide) (by decide)).mono ?_; rintro e w' ⟨rfl, nq, rfl⟩)
        go_region_held3 (fun w' => w'.cell? ⟨w.heap.size + 1 + 1, k - 7, none⟩ = some (.int .u64 (U (W (k - 7)))) ∧ w'.cell? ⟨w.heap.size + 1 + 1, k - 16, none⟩ = some (.int .u64 (U (W (k - 16))))) (go_keep) (fail)
        go_wp2
        have hx := sch_step (fun t => Sha.wd (fun i => s.data.toList.getD (8 * t + i) 0) 8) k (by omega)
        rw [show (Sha.sch fun t => Sha.wd (fun i => s.data.toList.getD (8 * t + i) 0) 8) = W from HW.out] at hx
        have R := fun n => rowTo_store (w := w) (wr := wr.drewN n) (B := w.heap.size + 1 + 1) (k := k) (W := W) (by omega) (hb3.drewN n) (by omega) (below_drewN hbel n) hx
        clear hx
        go_roundw
        case rel => exact ⟨k + 1, by omega, by go_num, (R _).1, (R _).2.1 _ _ _ (by omega) (hb1.drewN _), (R _).2.1 _ _ _ (by omega) (hb2.drewN _), (R _).2.2⟩
        case measure => simp [intOf]; omega
    · have hk80 : k = 80 := by omega
      subst hk80
      rw [show ((80 : Nat) : Int) = 80 from rfl]
      have g1 := hb1
      unfold Blk at g1
      have hsz : ∀ s : Sha.St, (Ws s.list).size = 8 := fun s => by rw [Ws_size]; rfl
      have hst := storeRow (l := s8.list) (Blk.new wr #[.int .u64 0, .int .u64 0, .int .u64 0, .int .u64 0, .int .u64 0, .int .u64 0, .int .u64 0, .int .u64 0] 101) rfl
      rw [World.setRow_alloc_new] at hst
      have hbV := Blk.new wr (Ws s8.list) 101
      have hc3 := hb3.alloc (.cells (Ws s8.list) 101)
      have hc1 := hb1.alloc (.cells (Ws s8.list) 101)
      have hc2 := hb2.alloc (.cells (Ws s8.list) 101)
      have hbel2 : Below w.heap.size w (wr.alloc (.cells (Ws s8.list) 101)) := hbel.alloc hbel.size _
      have hV := hb3.lt
      clear hb1 hb2 hb3
      go_wp2_with (refine wpList_load_row rfl 101 _ rfl w.heap.size rfl 101 _ (0, 0) _ g1 Tryz.underlying101 rfl (by rw [hsz]; exact Tryz.info8) ?_)
      generalize wr.alloc (.cells (Ws s8.list) 101) = w2 at hbV hc1 hc2 hc3 hbel2 ⊢
      generalize wr.heap.size = V0 at hbV hV ⊢
      clear hst g1 hbel
      go_loopw [14] (fun i wr => ∃ k : Nat, k ≤ 80 ∧ i = .int .i64 k ∧ Blk wr V0 (Ws (Sha.rnds Sha.K W s8 k).list) 101 ∧ Blk wr (w.heap.size + 1 + 1) (Ws (Sha.rowTo W 80)) 146 ∧ Blk wr w.heap.size (Ws s8.list) 101 ∧ Blk wr (w.heap.size + 1) (Ws [0, 0, 0, 0, 0, 0, 0, 0]) 101 ∧ Below w.heap.size w wr) (fun i _ => 80 - (intOf i).toNat)
      case atStart => exact ⟨0, by omega, rfl, hbV, hc3, hc1, hc2, hbel2⟩
      case round =>
        clear hbV hc1 hc2 hc3 hbel2
        obtain ⟨k, hk, rfl, hbV, hb3, hb1, hb2, hbel⟩ := hrel
        by_cases hlt : k < 80
        · have i0 : (k : Int) < 80 := by omega
          have hkc : wr.cell? ⟨kb, k, none⟩ = some (.int .u64 (U (Sha.K k))) := by rw [hbel.cell (p := ⟨kb, k, none⟩) hkb]; exact HK.out k hlt
          have hwc := hb3.cell k
          rw [Ws_at _ _ (by rw [Sha.rowTo_length]; omega), Sha.rowTo_get _ _ _ (by omega) (by omega)] at hwc
          have HS : Hid (Sha.rnds Sha.K W s8 (k + 1) = Sha.rnd (Sha.K k) (W k) (Sha.rnds Sha.K W s8 k)) := rfl
          generalize Sha.rnds Sha.K W s8 k = t8 at hbV HS
          obtain ⟨c0, c1, c2, c3, c4, c5, c6, c7⟩ := cells8 hbV
          have gV := hbV
          unfold Blk at gV
          go_wp2_with fail
          rw [ch_eq t8.e t8.f t8.g, maj_eq t8.a t8.b t8.c]
          go_quiet ((go_at_call 142; exact Calls.quiet_of (rright_any _ _ _ (by decide) (by decide))))
          go_wp2_with fail
          refine (rright_any _ _ _ (by decide) (by decide)).mono ?_; rintro e w' ⟨rfl, nq, rfl⟩
          go_wp2_with fail
          refine (rright_any _ _ _ (by decide) (by decide)).mono ?_; rintro e w' ⟨rfl, nq, rfl⟩
          go_wp2_with fail
          refine (rright_any _ _ _ (by decide) (by decide)).mono ?_; rintro e w' ⟨rfl, nq, rfl⟩
          go_wp2_with (refine wpList_store_row rfl 101 _ _ rfl V0 _ rfl rfl 101 _ gV ?h1 ?h2 ?h3 ?_)
          case h1 => exact Tryz.info8
          case h2 => rw [Ws_size]; rfl
          case h3 => rw [rnd_arr]; exact Ws_one _
          rw [rnd_arr]
          go_roundw
          case rel =>
            refine ⟨k + 1, by omega, by go_num, ?_, (hb3.drewN _).other (by omega) _, (hb1.drewN _).other (by omega) _, (hb2.drewN _).other (by omega) _, below_setRow (below_drewN hbel _) (by omega) _⟩
            rw [show Sha.rnds Sha.K W s8 (k + 1) = Sha.rnd (Sha.K k) (W k) t8 from HS.out]; exact (hbV.drewN _).row _
          case measure => simp [intOf]; omega
        · have hk80 : k = 80 := by omega
          subst hk80
          rw [show ((80 : Nat) : Int) = 80 from rfl]
          rw [show Sha.rnds Sha.K W s8 80 = T from HT.out] at hbV
          clear hb3
          go_wp2
          go_loopw [21] (fun i wr => ∃ k : Nat, k ≤ 8 ∧ i = .int .i64 k ∧ Blk wr w.heap.size (Ws (Sha.grown s8 T k)) 101 ∧ Blk wr V0 (Ws T.list) 101 ∧ Blk wr (w.heap.size + 1) (Ws [0, 0, 0, 0, 0, 0, 0, 0]) 101 ∧ Below w.heap.size w wr) (fun i _ => 8 - (intOf i).toNat)
          case atStart => exact ⟨0, by omega, rfl, hb1, hbV, hb2, hbel⟩
          case round =>
            clear hb1 hb2 hbV hbel
            obtain ⟨k, hk, rfl, hb1, hbV, hb2, hbel⟩ := hrel
            by_cases hlt : k < 8
            · have hg := Sha.grown_at s8 T k hlt
              have hc := hb1.cell k
              rw [Ws_at _ _ hg.2, hg.1] at hc
              have hv := hbV.cell k
              rw [Ws_at _ _ (by rw [St_len]; exact hlt)] at hv
              have hf := hb1.frozen k
              clear hg
              have hset := Sha.grown_set s8 T k hlt
              generalize s8.list.getD k 0 = x1 at hc hset
              generalize T.list.getD k 0 = x2 at hv hset
              have HS : Hid _ := hset
              clear hset
              have i0 : (k : Int) < 8 := by omega
              go_wp2_with fail
              go_region
              all_goals
                go_wp2
                go_roundw
                case rel =>
                  refine ⟨k + 1, by omega, by go_num, ?_, ?_, ?_, (hbel.setCell (Nat.le_refl _) _).drew⟩
                  · rw [hb1.set, U_add, Ws_set, show _ = _ from HS.out]; exact hb1.row _
                  · rw [hb1.set]; exact hbV.other (by omega) _
                  · rw [hb1.set]; exact hb2.other (by omega) _
                case measure => simp [intOf]; omega
            · have hk8 : k = 8 := by omega
              subst hk8
              have g0 := hb1; have g1 := hb2
              unfold Blk at g0 g1
              have e8 : (Ws (Sha.grown s8 T 8)).size = 8 := by rw [Ws_size]; rfl
              go_wp2_with (first
                | (refine wpList_load_row rfl 101 _ rfl w.heap.size rfl 101 _ (0, 0) _ g0 Tryz.underlying101 rfl (by rw [e8]; exact Tryz.info8) ?_)
                | (refine wpList_store_row rfl 101 _ _ rfl (w.heap.size + 1) _ rfl rfl 101 _ g1 (by rw [e8]; exact Tryz.info8) (by rw [e8]; rfl) (Ws_one _) ?_))
              refine bodyPost_ret (v := .agg (Ws (Sha.grown s8 T 8))) ?_ rfl ⟨by rw [show R = _ from HR.out]; rfl, below_setRow hbel (by omega) _⟩
              exact results_cell_row rfl _ _ (w.heap.size + 1) 101 _ (0, 0) _ rfl (hb2.row _) Tryz.underlying101 rfl (by rw [e8]; exact Tryz.info8)
end Go.Proofs.YtclpbaokadfhhaaGreatDoor
