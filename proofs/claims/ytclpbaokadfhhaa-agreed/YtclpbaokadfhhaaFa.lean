/- Contracts of field's carry, carried, lowest. -/
import Derived.Test.YtclpbaokadfhhaaRow
import Derived.Test.YtclpbaokadfhhaaFt
import Derived.Deep.QuietTactic
import Derived.BigQuiet
import Derived.Laws.Externs
namespace Go.Proofs.Ytclpbaokadfhhaa
open Go.RowKit

theorem results_cell_slot {P : Program} {fn : Func} {p q : Tmp} {ty : TypeId} (h : fn.results = #[.cell p ty, .tmp q]) (tmps : Array Value) (w : World) (g : Nat) (t : TypeId) (cs : Array Value) (fr : Nat × Nat) (d : TypeDesc) (v : Value)
    (hp : tmps.getD p undef = .pointer (some ⟨g, 0, none⟩)) (hq : tmps.getD q undef = v) (hg : w.heap[g]? = some (.cells cs t fr))
    (hu : P.underlying ty = some d) (hd : (match d with | .struct _ | .array _ _ => true | _ => false) = true) (hi : (P.info? ty).map (·.size) = some cs.size) :
    (results fn tmps).run P w = .ok (.tuple #[.agg cs, v]) w := by
  have hp' : tmps[p]?.getD undef = .pointer (some ⟨g, 0, none⟩) := by simpa using hp
  have hq' : tmps[q]?.getD undef = v := by simpa using hq
  simp [results, h, hp', hq', asAddr, run_loadVar_row w g t ty cs fr d hg hu hd hi]
theorem results_cell_cell {P : Program} {fn : Func} {p q : Tmp} {ty : TypeId} (h : fn.results = #[.cell p ty, .cell q ty]) (tmps : Array Value) (w : World) (g g' : Nat) (t : TypeId) (cs cs' : Array Value) (d : TypeDesc)
    (hp : tmps.getD p undef = .pointer (some ⟨g, 0, none⟩)) (hq : tmps.getD q undef = .pointer (some ⟨g', 0, none⟩)) (hg : w.heap[g]? = some (.cells cs t (0, 0))) (hg' : w.heap[g']? = some (.cells cs' t (0, 0)))
    (hu : P.underlying ty = some d) (hd : (match d with | .struct _ | .array _ _ => true | _ => false) = true) (hi : (P.info? ty).map (·.size) = some cs.size) (hi' : (P.info? ty).map (·.size) = some cs'.size) :
    (results fn tmps).run P w = .ok (.tuple #[.agg cs, .agg cs']) w := by
  have hp' : tmps[p]?.getD undef = .pointer (some ⟨g, 0, none⟩) := by simpa using hp
  have hq' : tmps[q]?.getD undef = .pointer (some ⟨g', 0, none⟩) := by simpa using hq
  simp [results, h, hp', hq', asAddr, run_loadVar_row w g t ty cs (0, 0) d hg hu hd hi, run_loadVar_row w g' t ty cs' (0, 0) d hg' hu hd hi']

theorem Try.infoF5 : (Try.prog.info? 47).map (·.size) = some 5 := by kernel_rfl
theorem F_and51 (x : BitVec 64) : bits BinOp.and IntKind.u64 (U x) 2251799813685247 = U (x &&& Ff.M51) := by
  rw [show (2251799813685247 : Int) = U Ff.M51 by decide, U_and]
theorem F_shr (x : BitVec 64) (k : Int) (n : Nat) (h : (2 : Int) ^ n = k) : U x / k = U (x >>> n) := by rw [← h, U_shr]
theorem F_shl (x : BitVec 64) (k : Int) (n : Nat) (h : (2 : Int) ^ n = k) : IntKind.u64.wrap (U x * k) = U (x <<< n) := by rw [← h, U_shl]
theorem F_mul19 (x : BitVec 64) : IntKind.u64.wrap (19 * U x) = U (19 * x) := by
  rw [IntKind.wrap_u64]; unfold U; rw [BitVec.toNat_mul]; simp
theorem Fcells {w : World} {b t : Nat} {x0 x1 x2 x3 x4 : BitVec 64} (h : Blk w b (Ws [x0, x1, x2, x3, x4]) t) :
    w.cell? ⟨b, 0, none⟩ = some (.int .u64 (U x0)) ∧ w.cell? ⟨b, 1, none⟩ = some (.int .u64 (U x1)) ∧ w.cell? ⟨b, 2, none⟩ = some (.int .u64 (U x2)) ∧ w.cell? ⟨b, 3, none⟩ = some (.int .u64 (U x3)) ∧ w.cell? ⟨b, 4, none⟩ = some (.int .u64 (U x4)) :=
  ⟨h.cell 0, h.cell 1, h.cell 2, h.cell 3, h.cell 4⟩
theorem FZ5 : (#[.int .u64 0, .int .u64 0, .int .u64 0, .int .u64 0, .int .u64 0] : Array Value) = Ws [0, 0, 0, 0, 0] := rfl

set_option maxRecDepth 100000 in
set_option maxHeartbeats 1000000 in
theorem F_carry (a : List (BitVec 64)) (o0 : BitVec 64) (w : World) (ha : a.length = 5) :
    Calls Try.prog 58 #[.agg (Ws a), .int .u64 (U o0)] w fun e w' => e = .returned (.tuple #[.agg (Ws (Ff.carry a o0).1), .int .u64 (U (Ff.carry a o0).2)]) ∧ Below w.heap.size w w' := by
  have sa : (Ws a).size = 5 := by rw [Ws_size, ha]
  have hb1 : Blk ((w.alloc (.cells (Ws a) 47)).alloc (.cells (Ws [0, 0, 0, 0, 0]) 47)) w.heap.size (Ws a) 47 := heap_alloc2_old w _ _
  have hb2 : Blk ((w.alloc (.cells (Ws a) 47)).alloc (.cells (Ws [0, 0, 0, 0, 0]) 47)) (w.heap.size + 1) (Ws [0, 0, 0, 0, 0]) 47 := heap_alloc2_new w _ _
  have hbel : Below w.heap.size w ((w.alloc (.cells (Ws a) 47)).alloc (.cells (Ws [0, 0, 0, 0, 0]) 47)) := ((Below.refl _ _).alloc (Nat.le_refl _) _).alloc (by simp) _
  have HE : Hid (Ff.carry a o0 = Ff.carTo a o0 5) := by
    have : Ff.carry a o0 = Ff.carTo a o0 5 := rfl
    exact this
  generalize Ff.carry a o0 = R at HE ⊢
  go_enter Try.func58, Try.ntmps58
  go_wp2_with fail
  rw [FZ5]
  generalize (w.alloc (.cells (Ws a) 47)).alloc (.cells (Ws [0, 0, 0, 0, 0]) 47) = w1 at hb1 hb2 hbel ⊢
  go_loopw [1, 7] (fun o i wr => ∃ k : Nat, k ≤ 5 ∧ i = .int .i64 k ∧ o = .int .u64 (U (Ff.carTo a o0 k).2) ∧ Blk wr w.heap.size (Ws (Ff.carTo a o0 k).1) 47 ∧ Blk wr (w.heap.size + 1) (Ws [0, 0, 0, 0, 0]) 47 ∧ Below w.heap.size w wr) (fun _ i _ => 5 - (intOf i).toNat)
  case atStart => exact ⟨0, by omega, rfl, rfl, hb1, hb2, hbel⟩
  case round =>
    clear hb1 hb2 hbel w1
    obtain ⟨k, hk, rfl, rfl, hb1, hb2, hbel⟩ := hrel
    by_cases hlt : k < 5
    · have HS : Hid (Ff.carTo a o0 (k + 1) = (((Ff.carTo a o0 k).1.set k ((Ff.carTo a o0 k).1.getD k 0 + (Ff.carTo a o0 k).2)).set k (((Ff.carTo a o0 k).1.getD k 0 + (Ff.carTo a o0 k).2) &&& Ff.M51), ((Ff.carTo a o0 k).1.getD k 0 + (Ff.carTo a o0 k).2) >>> 51)) := by
        have : Ff.carTo a o0 (k + 1) = (((Ff.carTo a o0 k).1.set k ((Ff.carTo a o0 k).1.getD k 0 + (Ff.carTo a o0 k).2)).set k (((Ff.carTo a o0 k).1.getD k 0 + (Ff.carTo a o0 k).2) &&& Ff.M51), ((Ff.carTo a o0 k).1.getD k 0 + (Ff.carTo a o0 k).2) >>> 51) := rfl
        exact this
      have hlL : (Ff.carTo a o0 k).1.length = 5 := by rw [Ff.carTo_length, ha]
      generalize (Ff.carTo a o0 k).1 = L at hb1 HS hlL
      generalize (Ff.carTo a o0 k).2 = o at HS ⊢
      have c1 := hb1.cell k
      rw [Ws_at _ _ (by omega)] at c1
      have f1 := hb1.frozen k
      generalize L.getD k 0 = x at c1 HS
      have i1 : (k : Int) < 5 := by omega
      have a1 := U_add x o
      have a2 := F_and51 (x + o)
      have a3 := F_shr (x + o) 2251799813685248 51 rfl
      generalize x + o = y at a1 a2 a3 HS
      generalize y &&& Ff.M51 = z at a2 HS
      generalize y >>> 51 = q at a3 HS
      go_wp2
      go_roundw
      case rel =>
        rw [hb1.set, (hb1.row _).set, setRow_setRow, Ws_set, Ws_set]
        refine ⟨k + 1, by omega, by go_num, ?_, ?_, hb2.other (by omega) _, below_setRow hbel (by omega) _⟩
        · rw [show Ff.carTo a o0 (k + 1) = _ from HS.out]
        · rw [show Ff.carTo a o0 (k + 1) = _ from HS.out]; exact hb1.row _
      case measure => simp [intOf]; omega
    · have hk8 : k = 5 := by omega
      subst hk8
      rw [show ((5 : Nat) : Int) = 5 from rfl]
      have hlL : (Ff.carTo a o0 5).1.length = 5 := by rw [Ff.carTo_length, ha]
      generalize Ff.carTo a o0 5 = C at hb1 HE hlL ⊢
      obtain ⟨L, o⟩ := C
      have g1 := hb1; have g2 := hb2
      unfold Blk at g1 g2
      have hl : (Ws L).size = 5 := by rw [Ws_size]; exact hlL
      have e0 : (Ws [0, 0, 0, 0, 0]).size = 5 := by rw [Ws_size]; rfl
      go_wp2_with (first
        | (refine wpList_load_row rfl 47 _ rfl w.heap.size rfl 47 _ (0, 0) _ g1 Try.underlying47 rfl (by rw [hl]; exact Try.infoF5) ?_)
        | (refine wpList_store_row rfl 47 _ _ rfl (w.heap.size + 1) _ rfl rfl 47 _ g2 (by rw [hl]; exact Try.infoF5) (by rw [hl, e0]) (Ws_one _) ?_))
      refine bodyPost_ret (v := .tuple #[.agg (Ws L), .int .u64 (U o)]) ?_ rfl ⟨by rw [show R = _ from HE.out], below_setRow hbel (by omega) _⟩
      exact results_cell_slot rfl _ _ (w.heap.size + 1) 47 _ (0, 0) _ _ rfl rfl (hb2.row _) Try.underlying47 rfl (by rw [hl]; exact Try.infoF5)

end Go.Proofs.Ytclpbaokadfhhaa
