/- Contract of stir. -/
import Derived.Test.YtclpbaokadfhhaaDoorSpread
import Derived.Deep.QuietTactic
import Derived.BigQuiet
namespace Go.Proofs.YtclpbaokadfhhaaDoor
open Go.RowKit

structure Sha.St where
  (a b c d e f g h : BitVec 64)
/-- one round, with its constant and its word -/
def Sha.rnd (k w : BitVec 64) (s : Sha.St) : Sha.St :=
  let x := s.h + Sha.bg1 s.e + Sha.ch s.e s.f s.g + k + w
  let y := Sha.bg0 s.a + Sha.maj s.a s.b s.c
  ⟨x + y, s.a, s.b, s.c, s.d + x, s.e, s.f, s.g⟩
def Sha.rnds (K W : Nat → BitVec 64) (s : Sha.St) : Nat → Sha.St
  | 0 => s
  | n + 1 => Sha.rnd (K n) (W n) (Sha.rnds K W s n)
def Sha.St.list (s : Sha.St) : List (BitVec 64) := [s.a, s.b, s.c, s.d, s.e, s.f, s.g, s.h]
def Sha.St.plus (s t : Sha.St) : Sha.St := ⟨s.a + t.a, s.b + t.b, s.c + t.c, s.d + t.d, s.e + t.e, s.f + t.f, s.g + t.g, s.h + t.h⟩

/-- the table of the constants lies in the first block -/
def Tab (K : Nat → BitVec 64) (w : World) : Prop := ∀ i, i < 80 → w.cell? ⟨0, i, none⟩ = some (.int .u64 (U (K i)))
theorem Tab.lt {K : Nat → BitVec 64} {w : World} (h : Tab K w) : 0 < w.heap.size := block_lt_of_cell (h 0 (by omega))
theorem Tab.below {K : Nat → BitVec 64} {w w' : World} (h : Tab K w) (hb : Below w.heap.size w w') : Tab K w' := fun i hi => by
  rw [hb.cell (p := ⟨0, i, none⟩) h.lt]; exact h i hi

/-- the sums, of which the first k have grown -/
def Sha.grown (s T : Sha.St) (k : Nat) : List (BitVec 64) := (s.plus T).list.take k ++ s.list.drop k
theorem Sha.grown_length (s T : Sha.St) (k : Nat) (hk : k ≤ 8) : (Sha.grown s T k).length = 8 := by
  simp [Sha.grown, Sha.St.list]; omega
theorem Sha.grown_at (s T : Sha.St) (k : Nat) (hk : k < 8) : (Sha.grown s T k).getD k 0 = s.list.getD k 0 ∧ k < (Sha.grown s T k).length := by
  refine ⟨?_, by rw [Sha.grown_length _ _ _ (by omega)]; exact hk⟩
  obtain rfl | rfl | rfl | rfl | rfl | rfl | rfl | rfl : k = 0 ∨ k = 1 ∨ k = 2 ∨ k = 3 ∨ k = 4 ∨ k = 5 ∨ k = 6 ∨ k = 7 := by omega
  all_goals rfl
theorem Sha.grown_set (s T : Sha.St) (k : Nat) (hk : k < 8) : (Sha.grown s T k).set k (s.list.getD k 0 + T.list.getD k 0) = Sha.grown s T (k + 1) := by
  match k, hk with
  | 0, _ => rfl
  | 1, _ => rfl
  | 2, _ => rfl
  | 3, _ => rfl
  | 4, _ => rfl
  | 5, _ => rfl
  | 6, _ => rfl
  | 7, _ => rfl
theorem index8 (T : Sha.St) (k : Nat) (hk : k < 8) (w : World) :
    (Instr.index 43 (.agg #[.int .u64 (U T.a), .int .u64 (U T.b), .int .u64 (U T.c), .int .u64 (U T.d), .int .u64 (U T.e), .int .u64 (U T.f), .int .u64 (U T.g), .int .u64 (U T.h)]) (.int .i64 k)).run Tryd.prog w = .ok (.int .u64 (U (T.list.getD k 0))) w := by
  obtain rfl | rfl | rfl | rfl | rfl | rfl | rfl | rfl : k = 0 ∨ k = 1 ∨ k = 2 ∨ k = 3 ∨ k = 4 ∨ k = 5 ∨ k = 6 ∨ k = 7 := by omega
  all_goals kernel_rfl
theorem Tryd.info8 : (Tryd.prog.info? 43).map (·.size) = some 8 := by kernel_rfl

theorem rnd_e (K W : Nat → BitVec 64) (s : Sha.St) (k : Nat) : IntKind.u64.wrap (U (Sha.rnds K W s k).d + IntKind.u64.wrap (IntKind.u64.wrap (IntKind.u64.wrap (IntKind.u64.wrap (U (Sha.rnds K W s k).h + U (Sha.bg1 (Sha.rnds K W s k).e)) +
    U (Sha.ch (Sha.rnds K W s k).e (Sha.rnds K W s k).f (Sha.rnds K W s k).g)) + U (K k)) + U (W k))) = U (Sha.rnds K W s (k + 1)).e := by
  rw [U_add, U_add, U_add, U_add, U_add]; rfl
theorem rnd_a (K W : Nat → BitVec 64) (s : Sha.St) (k : Nat) : IntKind.u64.wrap (IntKind.u64.wrap (IntKind.u64.wrap (IntKind.u64.wrap (IntKind.u64.wrap (U (Sha.rnds K W s k).h + U (Sha.bg1 (Sha.rnds K W s k).e)) +
    U (Sha.ch (Sha.rnds K W s k).e (Sha.rnds K W s k).f (Sha.rnds K W s k).g)) + U (K k)) + U (W k)) + IntKind.u64.wrap (U (Sha.bg0 (Sha.rnds K W s k).a) + U (Sha.maj (Sha.rnds K W s k).a (Sha.rnds K W s k).b (Sha.rnds K W s k).c))) = U (Sha.rnds K W s (k + 1)).a := by
  rw [U_add, U_add, U_add, U_add, U_add, U_add]; rfl

set_option maxRecDepth 100000 in
set_option maxHeartbeats 2000000 in
theorem stir_any (K W : Nat → BitVec 64) (s : Sha.St) (w : World) (hK : Tab K w) :
    Calls Tryd.prog 28 #[.agg (Ws s.list), .agg (Ws (Sha.rowTo W 80))] w fun e w' =>
      e = .returned (.agg (Ws (s.plus (Sha.rnds K W s 80)).list)) ∧ Below w.heap.size w w' := by
  generalize hT : Sha.rnds K W s 80 = T
  have HT : Hid _ := hT
  clear hT
  have hws : (Ws s.list).size = 8 := by rw [Ws_size]; rfl
  have hww : (Ws (Sha.rowTo W 80)).size = 80 := by rw [Ws_size, Sha.rowTo_length]
  have hb1 := Blk.alloc (Blk.alloc (Blk.new w (Ws s.list) 43) (.cells (Ws (Sha.rowTo W 80)) 47)) (.cells (Ws [0, 0, 0, 0, 0, 0, 0, 0]) 43)
  have hb2 := Blk.alloc (Blk.new (w.alloc (.cells (Ws s.list) 43)) (Ws (Sha.rowTo W 80)) 47) (.cells (Ws [0, 0, 0, 0, 0, 0, 0, 0]) 43)
  have hb3 := Blk.new ((w.alloc (.cells (Ws s.list) 43)).alloc (.cells (Ws (Sha.rowTo W 80)) 47)) (Ws [0, 0, 0, 0, 0, 0, 0, 0]) 43
  have hbel : Below w.heap.size w (((w.alloc (.cells (Ws s.list) 43)).alloc (.cells (Ws (Sha.rowTo W 80)) 47)).alloc (.cells (Ws [0, 0, 0, 0, 0, 0, 0, 0]) 43)) :=
    (((Below.refl _ _).alloc (Nat.le_refl _) _).alloc (by simp) _).alloc (by simp; omega) _
  have hsz : (((w.alloc (.cells (Ws s.list) 43)).alloc (.cells (Ws (Sha.rowTo W 80)) 47)).alloc (.cells (Ws [0, 0, 0, 0, 0, 0, 0, 0]) 43)).heap.size = w.heap.size + 3 := by simp
  rw [show (w.alloc (.cells (Ws s.list) 43)).heap.size = w.heap.size + 1 by simp] at hb2
  rw [show ((w.alloc (.cells (Ws s.list) 43)).alloc (.cells (Ws (Sha.rowTo W 80)) 47)).heap.size = w.heap.size + 1 + 1 by simp] at hb3
  clear hsz
  go_enter Tryd.func28, Tryd.ntmps28
  go_wp2_with fail
  rw [show (#[Value.int IntKind.u64 0, Value.int IntKind.u64 0, Value.int IntKind.u64 0, Value.int IntKind.u64 0,
      Value.int IntKind.u64 0, Value.int IntKind.u64 0, Value.int IntKind.u64 0, Value.int IntKind.u64 0] : Array Value) = Ws [0, 0, 0, 0, 0, 0, 0, 0] from rfl]
  generalize ((w.alloc (.cells (Ws s.list) 43)).alloc (.cells (Ws (Sha.rowTo W 80)) 47)).alloc (.cells (Ws [0, 0, 0, 0, 0, 0, 0, 0]) 43) = w1 at hb1 hb2 hb3 hbel ⊢
  have c0 : w1.cell? ⟨w.heap.size, 0, none⟩ = some (.int .u64 (U s.a)) := hb1.cell 0
  have c1 : w1.cell? ⟨w.heap.size, 1, none⟩ = some (.int .u64 (U s.b)) := hb1.cell 1
  have c2 : w1.cell? ⟨w.heap.size, 2, none⟩ = some (.int .u64 (U s.c)) := hb1.cell 2
  have c3 : w1.cell? ⟨w.heap.size, 3, none⟩ = some (.int .u64 (U s.d)) := hb1.cell 3
  have c4 : w1.cell? ⟨w.heap.size, 4, none⟩ = some (.int .u64 (U s.e)) := hb1.cell 4
  have c5 : w1.cell? ⟨w.heap.size, 5, none⟩ = some (.int .u64 (U s.f)) := hb1.cell 5
  have c6 : w1.cell? ⟨w.heap.size, 6, none⟩ = some (.int .u64 (U s.g)) := hb1.cell 6
  have c7 : w1.cell? ⟨w.heap.size, 7, none⟩ = some (.int .u64 (U s.h)) := hb1.cell 7
  go_quiet (fail)
  go_wp2_with fail
  go_quiet (fail)
  go_wp2_with fail
  clear c0 c1 c2 c3 c4 c5 c6 c7
  go_loopw [5, 6, 7, 8, 9, 10, 11, 12, 34] (fun a b c d e f g h i wr => ∃ k : Nat, k ≤ 80 ∧ i = .int .i64 k ∧ a = .int .u64 (U (Sha.rnds K W s k).a) ∧ b = .int .u64 (U (Sha.rnds K W s k).b) ∧ c = .int .u64 (U (Sha.rnds K W s k).c) ∧ d = .int .u64 (U (Sha.rnds K W s k).d) ∧ e = .int .u64 (U (Sha.rnds K W s k).e) ∧ f = .int .u64 (U (Sha.rnds K W s k).f) ∧ g = .int .u64 (U (Sha.rnds K W s k).g) ∧ h = .int .u64 (U (Sha.rnds K W s k).h) ∧
      Blk wr w.heap.size (Ws s.list) 43 ∧ Blk wr (w.heap.size + 1) (Ws (Sha.rowTo W 80)) 47 ∧ Blk wr (w.heap.size + 1 + 1) (Ws [0, 0, 0, 0, 0, 0, 0, 0]) 43 ∧ Below w.heap.size w wr) (fun _ _ _ _ _ _ _ _ i _ => 80 - (intOf i).toNat)
  case atStart => exact ⟨0, by omega, rfl, rfl, rfl, rfl, rfl, rfl, rfl, rfl, rfl, hb1, hb2, hb3, below_drewN (below_drewN hbel _) _⟩
  case round =>
    clear hb1 hb2 hb3 hbel
    obtain ⟨k, hk, rfl, rfl, rfl, rfl, rfl, rfl, rfl, rfl, rfl, hb1, hb2, hb3, hbel⟩ := hrel
    by_cases hlt : k < 80
    · have hkc := hK.below hbel k hlt
      have hwc := hb2.cell k
      rw [Ws_at _ _ (by rw [Sha.rowTo_length]; omega), Sha.rowTo_get _ _ _ (by omega) (by omega)] at hwc
      have i0 : (k : Int) < 80 := by omega
      go_wp2_with fail
      go_quiet (first | (go_at_call 48; exact Calls.quiet_of_same (bigOne_any _ _)) | (go_at_call 49; exact Calls.quiet_of_same (choose_any _ _ _ _)))
      go_wp2_with (first | (go_at_call 50; refine (bigZero_any _ _).mono ?_; rintro e w' ⟨rfl, rfl⟩) | (go_at_call 51; refine (majority_any _ _ _ _).mono ?_; rintro e w' ⟨rfl, rfl⟩))
      go_roundw
      case rel => exact ⟨k + 1, by omega, by go_num, int_eq (rnd_a K W s k), rfl, rfl, rfl, int_eq (rnd_e K W s k), rfl, rfl, rfl, hb1.drewN _, hb2.drewN _, hb3.drewN _, below_drewN hbel _⟩
      case measure => simp [intOf]; omega
    · have hk80 : k = 80 := by omega
      subst hk80
      rw [show ((80 : Nat) : Int) = 80 from rfl]
      clear hlt hk hb2
      rw [show Sha.rnds K W s 80 = T from HT.out]
      go_wp2
      go_loopw [83] (fun i wr => ∃ k : Nat, k ≤ 8 ∧ i = .int .i64 k ∧ Blk wr w.heap.size (Ws (Sha.grown s T k)) 43 ∧ Blk wr (w.heap.size + 1 + 1) (Ws [0, 0, 0, 0, 0, 0, 0, 0]) 43 ∧ Below w.heap.size w wr) (fun i _ => 8 - (intOf i).toNat)
      case atStart => exact ⟨0, by omega, rfl, hb1, hb3, hbel⟩
      case round =>
        clear hb1 hb3 hbel
        obtain ⟨k, hk, rfl, hb1, hb3, hbel⟩ := hrel
        by_cases hlt : k < 8
        · have hix := index8 T k hlt
          have hg := Sha.grown_at s T k hlt
          have hc := hb1.cell k
          rw [Ws_at _ _ hg.2, hg.1] at hc
          have hf := hb1.frozen k
          clear hg
          have hset := Sha.grown_set s T k hlt
          simp only [List.getD_eq_getElem?_getD] at hset
          have HS : Hid ((Sha.grown s T k).set k (s.list[k]?.getD 0#64 + T.list[k]?.getD 0#64) = Sha.grown s T (k + 1)) := hset
          clear hset
          have i0 : (k : Int) < 8 := by omega
          go_wp2
          go_roundw
          case rel =>
            refine ⟨k + 1, by omega, by go_num, ?_, ?_, hbel.setCell (Nat.le_refl _) _⟩
            · rw [hb1.set, U_add, Ws_set, show _ = _ from HS.out]; exact hb1.row _
            · rw [hb1.set]; exact hb3.other (by omega) _
          case measure => simp [intOf]; omega
        · have hk8 : k = 8 := by omega
          subst hk8
          have g0 := hb1; have g1 := hb3
          unfold Blk at g0 g1
          have e8 : (Ws (Sha.grown s T 8)).size = 8 := by rw [Ws_size]; rfl
          go_wp2_with (first
            | (refine wpList_load_row rfl 43 _ rfl w.heap.size rfl 43 _ (0, 0) _ g0 Tryd.underlying43 rfl (by rw [e8]; exact Tryd.info8) ?_)
            | (refine wpList_store_row rfl 43 _ _ rfl (w.heap.size + 1 + 1) _ rfl rfl 43 _ g1 (by rw [e8]; exact Tryd.info8) (by rw [e8]; rfl) (Ws_one _) ?_))
          refine bodyPost_ret (v := .agg (Ws (Sha.grown s T 8))) ?_ rfl ⟨rfl, below_setRow hbel (by omega) _⟩
          exact results_cell_row rfl _ _ (w.heap.size + 1 + 1) 43 _ (0, 0) _ rfl (hb3.row _) Tryd.underlying43 rfl (by rw [e8]; exact Tryd.info8)

end Go.Proofs.YtclpbaokadfhhaaDoor
