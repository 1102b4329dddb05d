/- Contracts of squareRoots, tell. -/
import Derived.Test.YtclpbaokadfhhaaDoorStir
import Derived.Test.YtclpbaokadfhhaaDoorRow
import Derived.Deep.OwnRows
import Derived.Laws.IdiomStrings
namespace Go.Proofs.YtclpbaokadfhhaaDoor
open Go.RowKit

/-- the eight words at the start -/
def Sha.first : Sha.St := ⟨7640891576956012808, 13503953896175478587, 4354685564936845355, 11912009170470909681, 5840696475078001361, 11170449401992604703, 2270897969802886507, 6620516959819538809⟩
theorem first_ws : (#[.int .u64 7640891576956012808, .int .u64 13503953896175478587, .int .u64 4354685564936845355, .int .u64 11912009170470909681, .int .u64 5840696475078001361, .int .u64 11170449401992604703, .int .u64 2270897969802886507, .int .u64 6620516959819538809] : Array Value) = Ws Sha.first.list := by kernel_rfl

set_option maxRecDepth 100000 in
set_option maxHeartbeats 400000 in
theorem squareRoots_any (w : World) :
    Calls Tryd.prog 26 #[] w fun e w' => e = .returned (.agg (Ws Sha.first.list)) ∧ w' = w.alloc (.cells (Ws Sha.first.list) 43) := by
  go_enter Tryd.func26, Tryd.ntmps26
  go_wp2
  rw [first_ws]
  refine bodyPost_ret (v := .agg (Ws Sha.first.list)) ?_ rfl ⟨rfl, rfl⟩
  exact results_cell_row rfl _ _ w.heap.size 43 _ (0, 0) _ rfl (Blk.new w _ _) Tryd.underlying43 rfl (by rw [Ws_size]; exact Tryd.info8)

/-- the words told one behind the other, k of them -/
def Sha.tellTo (s : Sha.St) : Nat → List UInt8
  | 0 => zeros 64
  | k + 1 => Sha.put (Sha.tellTo s k) (k * 8) (s.list.getD k 0) 8
theorem Sha.tellTo_length (s : Sha.St) (k : Nat) : (Sha.tellTo s k).length = 64 := by
  induction k with
  | zero => rfl
  | succ k ih => simp only [Sha.tellTo, Sha.put_length, ih]

set_option maxRecDepth 100000 in
set_option maxHeartbeats 1000000 in
theorem tell_any (s : Sha.St) (w : World) :
    Calls Tryd.prog 30 #[.agg (Ws s.list)] w fun e w' => e = .returned (.string ⟨(Sha.tellTo s 8).toArray⟩) ∧ Below w.heap.size w w' := by
  have hws : (Ws s.list).size = 8 := by rw [Ws_size]; rfl
  have hmk := makeBytes 64 (by omega)
  rw [show ((64 : Nat) : Int) = 64 from rfl] at hmk
  have g0 := heap_alloc2_old w (.cells (Ws s.list) 43) (.cells (Bs (zeros 64)) 5)
  have hb0 : Blk ((w.alloc (.cells (Ws s.list) 43)).alloc (.cells (Bs (zeros 64)) 5)) (w.heap.size + 1) (Bs (zeros 64)) 5 := heap_alloc2_new w _ _
  have hbel : Below w.heap.size w ((w.alloc (.cells (Ws s.list) 43)).alloc (.cells (Bs (zeros 64)) 5)) := ((Below.refl _ _).alloc (Nat.le_refl _) _).alloc (by simp) _
  have G0 : Hid _ := g0
  clear g0
  go_enter Tryd.func30, Tryd.ntmps30
  go_wp2_with (refine wpList_load_row rfl 43 _ rfl w.heap.size rfl 43 _ (0, 0) _ G0.out Tryd.underlying43 rfl (by rw [hws]; exact Tryd.info8) ?_)
  go_loopw [8] (fun i wr => ∃ k : Nat, k ≤ 8 ∧ i = .int .i64 k ∧ Blk wr (w.heap.size + 1) (Bs (Sha.tellTo s k)) 5 ∧ Below w.heap.size w wr) (fun i _ => 8 - (intOf i).toNat)
  case atStart => exact ⟨0, by omega, rfl, hb0, hbel⟩
  case round =>
    clear hb0 hbel
    obtain ⟨k, hk, rfl, hb, hbel⟩ := hrel
    by_cases hlt : k < 8
    · have hix : ∀ wx, (Instr.index 43 (.agg (Ws s.list)) (.int .i64 k)).run Tryd.prog wx = .ok (.int .u64 (U (s.list.getD k 0))) wx := index8 s k hlt
      have i0 : (k : Int) < 8 := by omega
      go_wp2_with fail
      refine (putWord_any (w.heap.size + 1) (k * 8) _ _ 5 (Sha.tellTo s k) (s.list[k]?.getD 0#64) wr (by omega) (by omega) (by omega) hb (by rw [Sha.tellTo_length]; omega)).mono ?_
      rintro e w' ⟨rfl, rfl⟩
      go_wp2
      go_roundw
      case rel =>
        refine ⟨k + 1, by omega, by go_num, ?_, below_setRow hbel (by omega) _⟩
        have := hb.row (Bs (Sha.put (Sha.tellTo s k) (k * 8) (s.list[k]?.getD 0#64) 8))
        rw [show Sha.tellTo s (k + 1) = Sha.put (Sha.tellTo s k) (k * 8) (s.list[k]?.getD 0#64) 8 by rw [Sha.tellTo, List.getD_eq_getElem?_getD]; rfl]
        exact this
      case measure => simp [intOf]; omega
    · have : k = 8 := by omega
      subst this
      have hs := stringOf (cap := 64) hb 64 (Sha.tellTo_length s 8).symm
      go_wp2
      go_ret
      exact ⟨rfl, hbel⟩

end Go.Proofs.YtclpbaokadfhhaaDoor
