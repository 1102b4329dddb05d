/- Several texts as one: Fa, Fb, Fc, Fp, Fs. -/
import Derived.Test.YtclpbaokadfhhaaGreatDoorZa
import Derived.Test.YtclpbaokadfhhaaGreatDoorXa
import Derived.Deep.QuietTactic
import Derived.BigQuiet
import Derived.Laws.Externs
import Derived.Deep.RegionWith
namespace Go.Proofs.YtclpbaokadfhhaaGreatDoor
open Go.RowKit

theorem results_cell_slot {P : Program} {fn : Func} {p q : Tmp} {ty : TypeId} (h : fn.results = #[.cell p ty, .tmp q]) (tmps : Array Value) (w : World) (g : Nat) (t : TypeId) (cs : Array Value) (fr : Nat × Nat) (d : TypeDesc) (v : Value)
    (hp : tmps.getD p undef = .pointer (some ⟨g, 0, none⟩)) (hq : tmps.getD q undef = v) (hg : w.heap[g]? = some (.cells cs t fr))
    (hu : P.underlying ty = some d) (hd : (match d with | .struct _ | .array _ _ => true | _ => false) = true) (hi : (P.info? ty).map (·.size) = some cs.size) :
    (results fn tmps).run P w = .ok (.tuple #[.agg cs, v]) w := by
  have hp' : tmps[p]?.getD undef = .pointer (some ⟨g, 0, none⟩) := by simpa using hp
  have hq' : tmps[q]?.getD undef = v := by simpa using hq
  simp [results, h, hp', hq', asAddr, run_loadVar_row w g t ty cs fr d hg hu hd hi]
theorem results_cell_cell {P : Program} {fn : Func} {p q : Tmp} {ty : TypeId} (h : fn.results = #[.cell p ty, .cell q ty]) (tmps : Array Value) (w : World) (g g' : Nat) (t : TypeId) (cs cs' : Array Value) (d : TypeDesc)
    (hp : tmps.getD p undef = .pointer (some ⟨g, 0, none⟩)) (hq : tmps.getD q undef = .pointer (some ⟨g', 0, none⟩)) (hg : w.heap[g]? = some (.cells cs t (0, 0))) (hg' : w.heap[g']? = some (.cells cs' t (0, 0)))
    (hu : P.underlying ty = some d) (hd : (match d with | .struct _ | .array _ _ => true | _ => false) = true) (hi : (P.info? ty).map (·.size) = some cs.size) (hi' : (P.info? ty).map (·.size) = some cs'.size) :
    (results fn tmps).run P w = .ok (.tuple #[.agg cs, .agg cs']) w := by
  have hp' : tmps[p]?.getD undef = .pointer (some ⟨g, 0, none⟩) := by simpa using hp
  have hq' : tmps[q]?.getD undef = .pointer (some ⟨g', 0, none⟩) := by simpa using hq
  simp [results, h, hp', hq', asAddr, run_loadVar_row w g t ty cs (0, 0) d hg hu hd hi, run_loadVar_row w g' t ty cs' (0, 0) d hg' hu hd hi']

theorem Tryz.infoF5 : (Tryz.prog.info? 69).map (·.size) = some 5 := by kernel_rfl
theorem F_and51 (x : BitVec 64) : bits BinOp.and IntKind.u64 (U x) 2251799813685247 = U (x &&& Ff.M51) := by
  rw [show (2251799813685247 : Int) = U Ff.M51 by decide, U_and]
theorem F_shr (x : BitVec 64) (k : Int) (n : Nat) (h : (2 : Int) ^ n = k) : U x / k = U (x >>> n) := by rw [← h, U_shr]
theorem F_shl (x : BitVec 64) (k : Int) (n : Nat) (h : (2 : Int) ^ n = k) : IntKind.u64.wrap (U x * k) = U (x <<< n) := by rw [← h, U_shl]
theorem F_mul19 (x : BitVec 64) : IntKind.u64.wrap (19 * U x) = U (19 * x) := by
  rw [IntKind.wrap_u64]; unfold U; rw [BitVec.toNat_mul]; simp
theorem Fcells {w : World} {b t : Nat} {x0 x1 x2 x3 x4 : BitVec 64} (h : Blk w b (Ws [x0, x1, x2, x3, x4]) t) :
    w.cell? ⟨b, 0, none⟩ = some (.int .u64 (U x0)) ∧ w.cell? ⟨b, 1, none⟩ = some (.int .u64 (U x1)) ∧ w.cell? ⟨b, 2, none⟩ = some (.int .u64 (U x2)) ∧ w.cell? ⟨b, 3, none⟩ = some (.int .u64 (U x3)) ∧ w.cell? ⟨b, 4, none⟩ = some (.int .u64 (U x4)) :=
  ⟨h.cell 0, h.cell 1, h.cell 2, h.cell 3, h.cell 4⟩
theorem FZ5 : (#[.int .u64 0, .int .u64 0, .int .u64 0, .int .u64 0, .int .u64 0] : Array Value) = Ws [0, 0, 0, 0, 0] := rfl

set_option maxRecDepth 100000 in
set_option maxHeartbeats 1000000 in
theorem F_carry (a : List (BitVec 64)) (o0 : BitVec 64) (w : World) (ha : a.length = 5) :
    Calls Tryz.prog 186 #[.agg (Ws a), .int .u64 (U o0)] w fun e w' => e = .returned (.tuple #[.agg (Ws (Ff.carry a o0).1), .int .u64 (U (Ff.carry a o0).2)]) ∧ Below w.heap.size w w' := by
  have sa : (Ws a).size = 5 := by rw [Ws_size, ha]
  have hb1 : Blk ((w.alloc (.cells (Ws a) 69)).alloc (.cells (Ws [0, 0, 0, 0, 0]) 69)) w.heap.size (Ws a) 69 := heap_alloc2_old w _ _
  have hb2 : Blk ((w.alloc (.cells (Ws a) 69)).alloc (.cells (Ws [0, 0, 0, 0, 0]) 69)) (w.heap.size + 1) (Ws [0, 0, 0, 0, 0]) 69 := heap_alloc2_new w _ _
  have hbel : Below w.heap.size w ((w.alloc (.cells (Ws a) 69)).alloc (.cells (Ws [0, 0, 0, 0, 0]) 69)) := ((Below.refl _ _).alloc (Nat.le_refl _) _).alloc (by simp) _
  have HE : Hid (Ff.carry a o0 = Ff.carTo a o0 5) := by
    have : Ff.carry a o0 = Ff.carTo a o0 5 := rfl
    exact this
  generalize Ff.carry a o0 = R at HE ⊢
  go_enter Tryz.func186, Tryz.ntmps186
  go_wp2_with fail
  rw [FZ5]
  generalize (w.alloc (.cells (Ws a) 69)).alloc (.cells (Ws [0, 0, 0, 0, 0]) 69) = w1 at hb1 hb2 hbel ⊢
  go_loopw [1, 7] (fun o i wr => ∃ k : Nat, k ≤ 5 ∧ i = .int .i64 k ∧ o = .int .u64 (U (Ff.carTo a o0 k).2) ∧ Blk wr w.heap.size (Ws (Ff.carTo a o0 k).1) 69 ∧ Blk wr (w.heap.size + 1) (Ws [0, 0, 0, 0, 0]) 69 ∧ Below w.heap.size w wr) (fun _ i _ => 5 - (intOf i).toNat)
  case atStart => exact ⟨0, by omega, rfl, rfl, hb1, hb2, hbel⟩
  case round =>
    clear hb1 hb2 hbel w1
    obtain ⟨k, hk, rfl, rfl, hb1, hb2, hbel⟩ := hrel
    by_cases hlt : k < 5
    · have HS : Hid (Ff.carTo a o0 (k + 1) = (((Ff.carTo a o0 k).1.set k ((Ff.carTo a o0 k).1.getD k 0 + (Ff.carTo a o0 k).2)).set k (((Ff.carTo a o0 k).1.getD k 0 + (Ff.carTo a o0 k).2) &&& Ff.M51), ((Ff.carTo a o0 k).1.getD k 0 + (Ff.carTo a o0 k).2) >>> 51)) := by
        have : Ff.carTo a o0 (k + 1) = (((Ff.carTo a o0 k).1.set k ((Ff.carTo a o0 k).1.getD k 0 + (Ff.carTo a o0 k).2)).set k (((Ff.carTo a o0 k).1.getD k 0 + (Ff.carTo a o0 k).2) &&& Ff.M51), ((Ff.carTo a o0 k).1.getD k 0 + (Ff.carTo a o0 k).2) >>> 51) := rfl
        exact this
      have hlL : (Ff.carTo a o0 k).1.length = 5 := by rw [Ff.carTo_length, ha]
      generalize (Ff.carTo a o0 k).1 = L at hb1 HS hlL
      generalize (Ff.carTo a o0 k).2 = o at HS ⊢
      have c1 := hb1.cell k
      rw [Ws_at _ _ (by omega)] at c1
      have f1 := hb1.frozen k
      generalize L.getD k 0 = x at c1 HS
      have i1 : (k : Int) < 5 := by omega
      have a1 := U_add x o
      have a2 := F_and51 (x + o)
      have a3 := F_shr (x + o) 2251799813685248 51 rfl
      generalize x + o = y at a1 a2 a3 HS
      generalize y &&& Ff.M51 = z at a2 HS
      generalize y >>> 51 = q at a3 HS
      go_wp2
      go_roundw
      case rel =>
        rw [hb1.set, (hb1.row _).set, setRow_setRow, Ws_set, Ws_set]
        refine ⟨k + 1, by omega, by go_num, ?_, ?_, hb2.other (by omega) _, below_setRow hbel (by omega) _⟩
        · rw [show Ff.carTo a o0 (k + 1) = _ from HS.out]
        · rw [show Ff.carTo a o0 (k + 1) = _ from HS.out]; exact hb1.row _
      case measure => simp [intOf]; omega
    · have hk8 : k = 5 := by omega
      subst hk8
      rw [show ((5 : Nat) : Int) = 5 from rfl]
      have hlL : (Ff.carTo a o0 5).1.length = 5 := by rw [Ff.carTo_length, ha]
      generalize Ff.carTo a o0 5 = C at hb1 HE hlL ⊢
      obtain ⟨L, o⟩ := C
      have g1 := hb1; have g2 := hb2
      unfold Blk at g1 g2
      have hl : (Ws L).size = 5 := by rw [Ws_size]; exact hlL
      have e0 : (Ws [0, 0, 0, 0, 0]).size = 5 := by rw [Ws_size]; rfl
      go_wp2_with (first
        | (refine wpList_load_row rfl 69 _ rfl w.heap.size rfl 69 _ (0, 0) _ g1 Tryz.underlying69 rfl (by rw [hl]; exact Tryz.infoF5) ?_)
        | (refine wpList_store_row rfl 69 _ _ rfl (w.heap.size + 1) _ rfl rfl 69 _ g2 (by rw [hl]; exact Tryz.infoF5) (by rw [hl, e0]) (Ws_one _) ?_))
      refine bodyPost_ret (v := .tuple #[.agg (Ws L), .int .u64 (U o)]) ?_ rfl ⟨by rw [show R = _ from HE.out], below_setRow hbel (by omega) _⟩
      exact results_cell_slot rfl _ _ (w.heap.size + 1) 69 _ (0, 0) _ _ rfl rfl (hb2.row _) Tryz.underlying69 rfl (by rw [hl]; exact Tryz.infoF5)

end Go.Proofs.YtclpbaokadfhhaaGreatDoor

namespace Go.Proofs.YtclpbaokadfhhaaGreatDoor
open Go.RowKit

theorem Fset3 {w : World} {b t : Nat} {x0 x1 x2 x3 x4 u v z : BitVec 64} (hb : Blk w b (Ws [x0, x1, x2, x3, x4]) t) :
    ((w.setCell ⟨b, 0, none⟩ (.int .u64 (U u))).setCell ⟨b, 1, none⟩ (.int .u64 (U v))).setCell ⟨b, 0, none⟩ (.int .u64 (U z)) = w.setRow b (Ws [z, v, x2, x3, x4]) := by
  rw [hb.set, (hb.row _).set, setRow_setRow, (hb.row _).set, setRow_setRow]
  rfl
theorem Fset5 {w : World} {b t : Nat} {y0 y1 y2 y3 y4 : BitVec 64} (hb : Blk w b (Ws [y0, y1, y2, y3, y4]) t) (x0 x1 x2 x3 x4 : BitVec 64) :
    ((((w.setCell ⟨b, 0, none⟩ (.int .u64 (U x0))).setCell ⟨b, 1, none⟩ (.int .u64 (U x1))).setCell ⟨b, 2, none⟩ (.int .u64 (U x2))).setCell ⟨b, 3, none⟩ (.int .u64 (U x3))).setCell ⟨b, 4, none⟩ (.int .u64 (U x4)) = w.setRow b (Ws [x0, x1, x2, x3, x4]) := by
  rw [hb.set, (hb.row _).set, setRow_setRow, (hb.row _).set, setRow_setRow, (hb.row _).set, setRow_setRow, (hb.row _).set, setRow_setRow]
  rfl

set_option maxRecDepth 100000 in
set_option maxHeartbeats 1000000 in
theorem F_carried (a : List (BitVec 64)) (w : World) (ha : a.length = 5) :
    Calls Tryz.prog 185 #[.agg (Ws a)] w fun e w' => e = .returned (.agg (Ws (Ff.carried a))) ∧ Below w.heap.size w w' := by
  have sa : (Ws a).size = 5 := by rw [Ws_size, ha]
  have hb1 : Blk ((w.alloc (.cells (Ws a) 69)).alloc (.cells (Ws [0, 0, 0, 0, 0]) 69)) w.heap.size (Ws a) 69 := heap_alloc2_old w _ _
  have hb2 : Blk ((w.alloc (.cells (Ws a) 69)).alloc (.cells (Ws [0, 0, 0, 0, 0]) 69)) (w.heap.size + 1) (Ws [0, 0, 0, 0, 0]) 69 := heap_alloc2_new w _ _
  have hbel : Below w.heap.size w ((w.alloc (.cells (Ws a) 69)).alloc (.cells (Ws [0, 0, 0, 0, 0]) 69)) := ((Below.refl _ _).alloc (Nat.le_refl _) _).alloc (by simp) _
  have HE : Hid (Ff.carried a = Ff.carEnd (Ff.carry a 0).1 (Ff.carry a 0).2) := by
    have : Ff.carried a = Ff.carEnd (Ff.carry a 0).1 (Ff.carry a 0).2 := rfl
    exact this
  have HC : Hid (∀ wx : World, Calls Tryz.prog 186 #[.agg (Ws a), .int .u64 0] wx fun e w' => e = .returned (.tuple #[.agg (Ws (Ff.carry a 0).1), .int .u64 (U (Ff.carry a 0).2)]) ∧ Below wx.heap.size wx w') := fun wx => F_carry a 0 wx ha
  have hlL : (Ff.carry a 0).1.length = 5 := by rw [Ff.carry, Ff.carTo_length, ha]
  generalize Ff.carried a = R at HE ⊢
  generalize (Ff.carry a 0).1 = L at HE HC hlL
  generalize (Ff.carry a 0).2 = o at HE HC
  obtain ⟨x, y, l2, l3, l4, rfl⟩ := Ff.five L hlL
  have HE2 : Hid (Ff.carEnd [x, y, l2, l3, l4] o = [(x + 19 * o) &&& Ff.M51, y + (x + 19 * o) >>> 51, l2, l3, l4]) := by
    have : Ff.carEnd [x, y, l2, l3, l4] o = [(x + 19 * o) &&& Ff.M51, y + (x + 19 * o) >>> 51, l2, l3, l4] := rfl
    exact this
  have g1 := hb1
  unfold Blk at g1
  rw [← FZ5] at g1
  go_enter Tryz.func185, Tryz.ntmps185
  go_wp2_with (first
    | (refine wpList_load_row rfl 69 _ rfl w.heap.size rfl 69 _ (0, 0) _ g1 Tryz.underlying69 rfl (by rw [sa]; exact Tryz.infoF5) ?_))
  rw [FZ5]
  clear g1
  generalize (w.alloc (.cells (Ws a) 69)).alloc (.cells (Ws [0, 0, 0, 0, 0]) 69) = w1 at hb1 hb2 hbel ⊢
  refine (HC.out _).mono ?_
  rintro e w2 ⟨rfl, k2⟩
  replace hb1 := hb1.keep k2
  replace hb2 := hb2.keep k2
  replace hbel := hbel.trans (k2.mono hbel.size)
  have hst := storeRow (l := [x, y, l2, l3, l4]) hb1 (by rw [sa]; rfl)
  have hb3 := hb1.row (Ws [x, y, l2, l3, l4])
  have hb4 := hb2.other (b' := w.heap.size) (by omega) (Ws [x, y, l2, l3, l4])
  have hbel3 := below_setRow hbel (Nat.le_refl _) (Ws [x, y, l2, l3, l4])
  have f0 := hb3.frozen 0
  have f1 := hb3.frozen 1
  obtain ⟨c0, c1, c2, c3, c4⟩ := Fcells hb3
  have s5 : (Ws [x, y, l2, l3, l4]).size = 5 := rfl
  clear hb1 hb2 hbel k2
  have k0 := hb4.frozen 0
  have k1 := hb4.frozen 1
  have k2 := hb4.frozen 2
  have k3 := hb4.frozen 3
  have k4 := hb4.frozen 4
  obtain ⟨d0, d1, d2, d3, d4⟩ := Fcells hb4
  have a0 : IntKind.u64.wrap (19 * U o) = U (19 * o) := F_mul19 o
  generalize 19 * o = p at a0 HE2
  have a1 := U_add x p
  have a2 := F_and51 (x + p)
  have a3 := F_shr (x + p) 2251799813685248 51 rfl
  generalize x + p = u at a1 a2 a3 HE2
  generalize u &&& Ff.M51 = z at a2 HE2
  generalize u >>> 51 = q at a3 HE2
  have a4 := U_add y q
  generalize y + q = v at a4 HE2
  have hb5 : Blk ((((w2.setRow w.heap.size (Ws [x, y, l2, l3, l4])).setCell ⟨w.heap.size, 0, none⟩ (.int .u64 (U u))).setCell ⟨w.heap.size, 1, none⟩ (.int .u64 (U v))).setCell ⟨w.heap.size, 0, none⟩ (.int .u64 (U z))) (w.heap.size + 1) (Ws [0, 0, 0, 0, 0]) 69 := by
    rw [Fset3 hb3]; exact hb4.other (by omega) _
  have hbel5 : Below w.heap.size w ((((w2.setRow w.heap.size (Ws [x, y, l2, l3, l4])).setCell ⟨w.heap.size, 0, none⟩ (.int .u64 (U u))).setCell ⟨w.heap.size, 1, none⟩ (.int .u64 (U v))).setCell ⟨w.heap.size, 0, none⟩ (.int .u64 (U z))) := ((hbel3.setCell (Nat.le_refl _) _).setCell (Nat.le_refl _) _).setCell (Nat.le_refl _) _
  go_wp2
  rw [Fset5 hb5]
  refine bodyPost_ret (v := .agg (Ws [z, v, l2, l3, l4])) ?_ rfl ⟨by rw [show R = _ from HE.out, show Ff.carEnd [x, y, l2, l3, l4] o = _ from HE2.out], below_setRow hbel5 (by omega) _⟩
  exact results_cell_row rfl _ _ (w.heap.size + 1) 69 _ (0, 0) _ rfl (hb5.row _) Tryz.underlying69 rfl Tryz.infoF5

end Go.Proofs.YtclpbaokadfhhaaGreatDoor

namespace Go.Proofs.YtclpbaokadfhhaaGreatDoor
open Go.RowKit

set_option maxRecDepth 100000 in
set_option maxHeartbeats 1000000 in
theorem F_lowest (a : List (BitVec 64)) (w : World) (ha : a.length = 5) :
    Calls Tryz.prog 125 #[.agg (Ws a)] w fun e w' => e = .returned (.agg (Ws (Ff.lowest a))) ∧ Below w.heap.size w w' := by
  have sa : (Ws a).size = 5 := by rw [Ws_size, ha]
  have hb1 : Blk ((w.alloc (.cells (Ws a) 69)).alloc (.cells (Ws [0, 0, 0, 0, 0]) 69)) w.heap.size (Ws a) 69 := heap_alloc2_old w _ _
  have hb2 : Blk ((w.alloc (.cells (Ws a) 69)).alloc (.cells (Ws [0, 0, 0, 0, 0]) 69)) (w.heap.size + 1) (Ws [0, 0, 0, 0, 0]) 69 := heap_alloc2_new w _ _
  have hbel : Below w.heap.size w ((w.alloc (.cells (Ws a) 69)).alloc (.cells (Ws [0, 0, 0, 0, 0]) 69)) := ((Below.refl _ _).alloc (Nat.le_refl _) _).alloc (by simp) _
  have HE : Hid (Ff.lowest a = (Ff.carry (Ff.carried a) (19 * (Ff.carry (Ff.carried a) 19).2)).1) := by
    have : Ff.lowest a = (Ff.carry (Ff.carried a) (19 * (Ff.carry (Ff.carried a) 19).2)).1 := rfl
    exact this
  have H1 : Hid (∀ wx : World, Calls Tryz.prog 185 #[.agg (Ws a)] wx fun e w' => e = .returned (.agg (Ws (Ff.carried a))) ∧ Below wx.heap.size wx w') := fun wx => F_carried a wx ha
  have hlC : (Ff.carried a).length = 5 := by rw [Ff.carried_length, ha]
  generalize Ff.lowest a = R at HE ⊢
  generalize Ff.carried a = C at HE H1 hlC
  have H2 : Hid (∀ wx : World, Calls Tryz.prog 186 #[.agg (Ws C), .int .u64 19] wx fun e w' => e = .returned (.tuple #[.agg (Ws (Ff.carry C 19).1), .int .u64 (U (Ff.carry C 19).2)]) ∧ Below wx.heap.size wx w') := fun wx => F_carry C 19 wx hlC
  have hlD : (Ff.carry C 19).1.length = 5 := by rw [Ff.carry, Ff.carTo_length, hlC]
  generalize (Ff.carry C 19).1 = D at H2 hlD
  generalize (Ff.carry C 19).2 = o at HE H2
  have a0 := F_mul19 o
  generalize 19 * o = p at HE a0
  have H3 : Hid (∀ wx : World, Calls Tryz.prog 186 #[.agg (Ws C), .int .u64 (U p)] wx fun e w' => e = .returned (.tuple #[.agg (Ws (Ff.carry C p).1), .int .u64 (U (Ff.carry C p).2)]) ∧ Below wx.heap.size wx w') := fun wx => F_carry C p wx hlC
  have hlE : (Ff.carry C p).1.length = 5 := by rw [Ff.carry, Ff.carTo_length, hlC]
  generalize (Ff.carry C p).1 = E at HE H3 hlE
  generalize (Ff.carry C p).2 = o2 at H3
  have sC : (Ws C).size = 5 := by rw [Ws_size, hlC]
  have sD : (Ws D).size = 5 := by rw [Ws_size, hlD]
  have sE : (Ws E).size = 5 := by rw [Ws_size, hlE]
  have g1 := hb1
  unfold Blk at g1
  rw [← FZ5] at g1
  go_enter Tryz.func125, Tryz.ntmps125
  go_wp2_with (first
    | (refine wpList_load_row rfl 69 _ rfl w.heap.size rfl 69 _ (0, 0) _ g1 Tryz.underlying69 rfl (by rw [sa]; exact Tryz.infoF5) ?_))
  rw [FZ5]
  clear g1
  generalize (w.alloc (.cells (Ws a) 69)).alloc (.cells (Ws [0, 0, 0, 0, 0]) 69) = w1 at hb1 hb2 hbel ⊢
  refine (H1.out _).mono ?_
  rintro e w2 ⟨rfl, k2⟩
  replace hb1 := hb1.keep k2
  replace hb2 := hb2.keep k2
  replace hbel := hbel.trans (k2.mono hbel.size)
  clear k2
  have hst := storeRow (l := C) hb1 (by rw [sa, hlC])
  have hb3 := hb1.row (Ws C)
  have hb4 := hb2.other (b' := w.heap.size) (by omega) (Ws C)
  have hbel3 := below_setRow hbel (Nat.le_refl _) (Ws C)
  have g3 := hb3
  unfold Blk at g3
  go_wp2_with (first
    | (refine wpList_load_row rfl 69 _ rfl w.heap.size rfl 69 _ (0, 0) _ g3 Tryz.underlying69 rfl (by rw [sC]; exact Tryz.infoF5) ?_))
  clear hst g3 hb1 hb2 hbel
  generalize w2.setRow w.heap.size (Ws C) = w3 at hb3 hb4 hbel3 ⊢
  refine (H2.out _).mono ?_
  rintro e w4 ⟨rfl, k4⟩
  replace hb3 := hb3.keep k4
  replace hb4 := hb4.keep k4
  replace hbel3 := hbel3.trans (k4.mono hbel3.size)
  clear k4
  have hsz : w.heap.size + 1 < w4.heap.size := hb4.lt
  have hn : Blk (w4.alloc (.cells #[.int .u64 0, .int .u64 0, .int .u64 0, .int .u64 0, .int .u64 0] 69)) w4.heap.size #[.int .u64 0, .int .u64 0, .int .u64 0, .int .u64 0, .int .u64 0] 69 := Blk.new _ _ _
  have hst := storeRow (l := D) hn (by rw [hlD]; rfl)
  have hb5 := (hb3.alloc (.cells #[.int .u64 0, .int .u64 0, .int .u64 0, .int .u64 0, .int .u64 0] 69)).other (b' := w4.heap.size) (by omega) (Ws D)
  have hb6 := (hb4.alloc (.cells #[.int .u64 0, .int .u64 0, .int .u64 0, .int .u64 0, .int .u64 0] 69)).other (b' := w4.heap.size) (by omega) (Ws D)
  have hbel5 := below_setRow (hbel3.alloc (by omega) (.cells #[.int .u64 0, .int .u64 0, .int .u64 0, .int .u64 0, .int .u64 0] 69)) (g := w4.heap.size) (by omega) (Ws D)
  have g5 := hb5
  unfold Blk at g5
  go_wp2_with (first
    | (refine wpList_load_row rfl 69 _ rfl w.heap.size rfl 69 _ (0, 0) _ g5 Tryz.underlying69 rfl (by rw [sC]; exact Tryz.infoF5) ?_))
  clear hst hn g5 hb3 hb4 hbel3
  generalize (w4.alloc (.cells #[.int .u64 0, .int .u64 0, .int .u64 0, .int .u64 0, .int .u64 0] 69)).setRow w4.heap.size (Ws D) = w5 at hb5 hb6 hbel5 ⊢
  refine (H3.out _).mono ?_
  rintro e w6 ⟨rfl, k6⟩
  replace hb5 := hb5.keep k6
  replace hb6 := hb6.keep k6
  replace hbel5 := hbel5.trans (k6.mono hbel5.size)
  clear k6
  have hst := storeRow (l := E) hb5 (by rw [sC, hlE])
  have hb7 := hb5.row (Ws E)
  have hb8 := hb6.other (b' := w.heap.size) (by omega) (Ws E)
  have hbel7 := below_setRow hbel5 (Nat.le_refl _) (Ws E)
  have g7 := hb7; have g8 := hb8
  unfold Blk at g7 g8
  have e0 : (Ws [0, 0, 0, 0, 0]).size = 5 := by rw [Ws_size]; rfl
  go_wp2_with (first
    | (refine wpList_load_row rfl 69 _ rfl w.heap.size rfl 69 _ (0, 0) _ g7 Tryz.underlying69 rfl (by rw [sE]; exact Tryz.infoF5) ?_)
    | (refine wpList_store_row rfl 69 _ _ rfl (w.heap.size + 1) _ rfl rfl 69 _ g8 (by rw [sE]; exact Tryz.infoF5) (by rw [sE, e0]) (Ws_one _) ?_))
  refine bodyPost_ret (v := .agg (Ws E)) ?_ rfl ⟨by rw [show R = _ from HE.out], below_setRow hbel7 (by omega) _⟩
  exact results_cell_row rfl _ _ (w.heap.size + 1) 69 _ (0, 0) _ rfl (hb8.row _) Tryz.underlying69 rfl (by rw [sE]; exact Tryz.infoF5)

end Go.Proofs.YtclpbaokadfhhaaGreatDoor

namespace Go.Proofs.YtclpbaokadfhhaaGreatDoor
open Go.RowKit

/-- a sum or a difference is written back -/
theorem F_index5' (x0 x1 x2 x3 x4 : BitVec 64) (k : Nat) (hk : k < 5) (w : World) :
    (Instr.index 68 (.agg (Ws [x0, x1, x2, x3, x4])) (.int .i64 k)).run Tryz.prog w = .ok (.int .u64 (U ([x0, x1, x2, x3, x4].getD k 0))) w := by
  obtain rfl | rfl | rfl | rfl | rfl : k = 0 ∨ k = 1 ∨ k = 2 ∨ k = 3 ∨ k = 4 := by omega
  all_goals kernel_rfl
theorem F_sub (x y : BitVec 64) : IntKind.u64.wrap (U x - U y) = U (x - y) := by
  rw [IntKind.wrap_u64]; unfold U; rw [BitVec.toNat_sub]; have := x.isLt; have := y.isLt; omega

set_option maxRecDepth 100000 in
set_option maxHeartbeats 1000000 in
theorem F_plus (a b : List (BitVec 64)) (w : World) (ha : a.length = 5) (hb : b.length = 5) :
    Calls Tryz.prog 161 #[.agg (Ws a), .agg (Ws b)] w fun e w' => e = .returned (.agg (Ws (Ff.plus a b))) ∧ Below w.heap.size w w' := by
  have sa : (Ws a).size = 5 := by rw [Ws_size, ha]
  have sb : (Ws b).size = 5 := by rw [Ws_size, hb]
  have hb1 := Blk.alloc (Blk.alloc (Blk.new w (Ws a) 69) (.cells (Ws b) 69)) (.cells (Ws [0, 0, 0, 0, 0]) 69)
  have hb2 := Blk.alloc (Blk.new (w.alloc (.cells (Ws a) 69)) (Ws b) 69) (.cells (Ws [0, 0, 0, 0, 0]) 69)
  have hb3 := Blk.new ((w.alloc (.cells (Ws a) 69)).alloc (.cells (Ws b) 69)) (Ws [0, 0, 0, 0, 0]) 69
  have hbel : Below w.heap.size w (((w.alloc (.cells (Ws a) 69)).alloc (.cells (Ws b) 69)).alloc (.cells (Ws [0, 0, 0, 0, 0]) 69)) :=
    (((Below.refl _ _).alloc (Nat.le_refl _) _).alloc (by simp) _).alloc (by simp; omega) _
  rw [show (w.alloc (.cells (Ws a) 69)).heap.size = w.heap.size + 1 by simp] at hb2
  rw [show ((w.alloc (.cells (Ws a) 69)).alloc (.cells (Ws b) 69)).heap.size = w.heap.size + 1 + 1 by simp] at hb3
  go_enter Tryz.func161, Tryz.ntmps161
  go_wp2_with fail
  rw [FZ5]
  generalize ((w.alloc (.cells (Ws a) 69)).alloc (.cells (Ws b) 69)).alloc (.cells (Ws [0, 0, 0, 0, 0]) 69) = w1 at hb1 hb2 hb3 hbel ⊢
  go_loopw [6] (fun i wr => ∃ k : Nat, k ≤ 5 ∧ i = .int .i64 k ∧ Blk wr w.heap.size (Ws (Ff.plusTo a b k)) 69 ∧ Blk wr (w.heap.size + 1) (Ws b) 69 ∧ Blk wr (w.heap.size + 1 + 1) (Ws [0, 0, 0, 0, 0]) 69 ∧ Below w.heap.size w wr) (fun i _ => 5 - (intOf i).toNat)
  case atStart => exact ⟨0, by omega, rfl, hb1, hb2, hb3, hbel⟩
  case round =>
    clear hb1 hb2 hb3 hbel w1
    obtain ⟨k, hk, rfl, hb1, hb2, hb3, hbel⟩ := hrel
    by_cases hlt : k < 5
    · have c1 := hb1.cell k
      rw [Ws_at _ _ (by rw [Ff.plusTo_length]; omega)] at c1
      have c2 := hb2.cell k
      rw [Ws_at _ _ (by omega)] at c2
      have f1 := hb1.frozen k
      have HS : Hid (Ff.plusTo a b (k + 1) = (Ff.plusTo a b k).set k ((Ff.plusTo a b k).getD k 0 + b.getD k 0)) := by
        have : Ff.plusTo a b (k + 1) = (Ff.plusTo a b k).set k ((Ff.plusTo a b k).getD k 0 + b.getD k 0) := rfl
        exact this
      generalize (Ff.plusTo a b k).getD k 0 = x at c1 HS
      generalize b.getD k 0 = y at c2 HS
      have i1 : (k : Int) < 5 := by omega
      go_wp2_with fail
      go_region
      go_wp2
      go_roundw
      case rel =>
        rw [U_add, hb1.set, Ws_set]
        exact ⟨k + 1, by omega, by go_num, by rw [show Ff.plusTo a b (k + 1) = _ from HS.out]; exact hb1.row _, hb2.other (by omega) _, hb3.other (by omega) _, (below_setRow hbel (by omega) _).drew⟩
      case measure => simp [intOf]; omega
    · have hk8 : k = 5 := by omega
      subst hk8
      have HE : Hid (Ff.plus a b = Ff.carried (Ff.plusTo a b 5)) := by
        have : Ff.plus a b = Ff.carried (Ff.plusTo a b 5) := rfl
        exact this
      have hlS : (Ff.plusTo a b 5).length = 5 := by rw [Ff.plusTo_length, ha]
      have hlR : (Ff.carried (Ff.plusTo a b 5)).length = 5 := by rw [Ff.carried_length, hlS]
      have H1 : Hid (∀ wx : World, Calls Tryz.prog 185 #[.agg (Ws (Ff.plusTo a b 5))] wx fun e w' => e = .returned (.agg (Ws (Ff.carried (Ff.plusTo a b 5)))) ∧ Below wx.heap.size wx w') := fun wx => F_carried _ wx hlS
      generalize Ff.carried (Ff.plusTo a b 5) = R at HE H1 hlR
      generalize Ff.plusTo a b 5 = S at hb1 H1 hlS
      have g0 := hb1
      unfold Blk at g0
      have sS : (Ws S).size = 5 := by rw [Ws_size, hlS]
      have sR : (Ws R).size = 5 := by rw [Ws_size, hlR]
      go_wp2_with (first
        | (refine wpList_load_row rfl 69 _ rfl w.heap.size rfl 69 _ (0, 0) _ g0 Tryz.underlying69 rfl (by rw [sS]; exact Tryz.infoF5) ?_))
      refine (H1.out _).mono ?_
      rintro e w2 ⟨rfl, k2⟩
      replace hb3 := hb3.keep k2
      replace hbel := hbel.trans (k2.mono hbel.size)
      have hst := storeRow (l := R) hb3 (by rw [hlR]; rfl)
      go_wp2
      refine bodyPost_ret (v := .agg (Ws R)) ?_ rfl ⟨by rw [show Ff.plus a b = _ from HE.out], below_setRow hbel (by omega) _⟩
      exact results_cell_row rfl _ _ (w.heap.size + 1 + 1) 69 _ (0, 0) _ rfl (hb3.row _) Tryz.underlying69 rfl (by rw [sR]; exact Tryz.infoF5)

set_option maxRecDepth 100000 in
set_option maxHeartbeats 1000000 in
theorem F_minus (a b : List (BitVec 64)) (w : World) (ha : a.length = 5) (hb : b.length = 5) :
    Calls Tryz.prog 162 #[.agg (Ws a), .agg (Ws b)] w fun e w' => e = .returned (.agg (Ws (Ff.minus a b))) ∧ Below w.heap.size w w' := by
  have sa : (Ws a).size = 5 := by rw [Ws_size, ha]
  have sb : (Ws b).size = 5 := by rw [Ws_size, hb]
  have hb1 := Blk.alloc (Blk.alloc (Blk.new w (Ws a) 69) (.cells (Ws b) 69)) (.cells (Ws [0, 0, 0, 0, 0]) 69)
  have hb2 := Blk.alloc (Blk.new (w.alloc (.cells (Ws a) 69)) (Ws b) 69) (.cells (Ws [0, 0, 0, 0, 0]) 69)
  have hb3 := Blk.new ((w.alloc (.cells (Ws a) 69)).alloc (.cells (Ws b) 69)) (Ws [0, 0, 0, 0, 0]) 69
  have hbel : Below w.heap.size w (((w.alloc (.cells (Ws a) 69)).alloc (.cells (Ws b) 69)).alloc (.cells (Ws [0, 0, 0, 0, 0]) 69)) :=
    (((Below.refl _ _).alloc (Nat.le_refl _) _).alloc (by simp) _).alloc (by simp; omega) _
  rw [show (w.alloc (.cells (Ws a) 69)).heap.size = w.heap.size + 1 by simp] at hb2
  rw [show ((w.alloc (.cells (Ws a) 69)).alloc (.cells (Ws b) 69)).heap.size = w.heap.size + 1 + 1 by simp] at hb3
  go_enter Tryz.func162, Tryz.ntmps162
  go_wp2_with fail
  rw [FZ5]
  rw [show (#[.int .u64 9007199254740916, .int .u64 9007199254740988, .int .u64 9007199254740988, .int .u64 9007199254740988, .int .u64 9007199254740988] : Array Value) = Ws Ff.four from rfl]
  generalize ((w.alloc (.cells (Ws a) 69)).alloc (.cells (Ws b) 69)).alloc (.cells (Ws [0, 0, 0, 0, 0]) 69) = w1 at hb1 hb2 hb3 hbel ⊢
  go_loopw [8] (fun i wr => ∃ k : Nat, k ≤ 5 ∧ i = .int .i64 k ∧ Blk wr w.heap.size (Ws (Ff.minusTo a b k)) 69 ∧ Blk wr (w.heap.size + 1) (Ws b) 69 ∧ Blk wr (w.heap.size + 1 + 1) (Ws [0, 0, 0, 0, 0]) 69 ∧ Below w.heap.size w wr) (fun i _ => 5 - (intOf i).toNat)
  case atStart => exact ⟨0, by omega, rfl, hb1, hb2, hb3, hbel⟩
  case round =>
    clear hb1 hb2 hb3 hbel w1
    obtain ⟨k, hk, rfl, hb1, hb2, hb3, hbel⟩ := hrel
    by_cases hlt : k < 5
    · have c1 := hb1.cell k
      rw [Ws_at _ _ (by rw [Ff.minusTo_length]; omega)] at c1
      have c2 := hb2.cell k
      rw [Ws_at _ _ (by omega)] at c2
      have f1 := hb1.frozen k
      have HS : Hid (Ff.minusTo a b (k + 1) = (Ff.minusTo a b k).set k ((Ff.minusTo a b k).getD k 0 + (Ff.four.getD k 0 - b.getD k 0))) := by
        have : Ff.minusTo a b (k + 1) = (Ff.minusTo a b k).set k ((Ff.minusTo a b k).getD k 0 + (Ff.four.getD k 0 - b.getD k 0)) := rfl
        exact this
      have hix : ∀ wx : World, (Instr.index 68 (.agg (Ws Ff.four)) (.int .i64 k)).run Tryz.prog wx = .ok (.int .u64 (U (Ff.four.getD k 0))) wx := F_index5' _ _ _ _ _ k hlt
      generalize (Ff.minusTo a b k).getD k 0 = x at c1 HS
      generalize b.getD k 0 = y at c2 HS
      generalize Ff.four.getD k 0 = z at hix HS
      have i1 : (k : Int) < 5 := by omega
      have a1 := F_sub z y
      generalize z - y = d at a1 HS
      go_wp2_with fail
      go_region
      go_wp2
      go_roundw
      case rel =>
        rw [U_add, hb1.set, Ws_set]
        exact ⟨k + 1, by omega, by go_num, by rw [show Ff.minusTo a b (k + 1) = _ from HS.out]; exact hb1.row _, hb2.other (by omega) _, hb3.other (by omega) _, (below_setRow hbel (by omega) _).drew⟩
      case measure => simp [intOf]; omega
    · have hk8 : k = 5 := by omega
      subst hk8
      have HE : Hid (Ff.minus a b = Ff.carried (Ff.minusTo a b 5)) := by
        have : Ff.minus a b = Ff.carried (Ff.minusTo a b 5) := rfl
        exact this
      have hlS : (Ff.minusTo a b 5).length = 5 := by rw [Ff.minusTo_length, ha]
      have hlR : (Ff.carried (Ff.minusTo a b 5)).length = 5 := by rw [Ff.carried_length, hlS]
      have H1 : Hid (∀ wx : World, Calls Tryz.prog 185 #[.agg (Ws (Ff.minusTo a b 5))] wx fun e w' => e = .returned (.agg (Ws (Ff.carried (Ff.minusTo a b 5)))) ∧ Below wx.heap.size wx w') := fun wx => F_carried _ wx hlS
      generalize Ff.carried (Ff.minusTo a b 5) = R at HE H1 hlR
      generalize Ff.minusTo a b 5 = S at hb1 H1 hlS
      have g0 := hb1
      unfold Blk at g0
      have sS : (Ws S).size = 5 := by rw [Ws_size, hlS]
      have sR : (Ws R).size = 5 := by rw [Ws_size, hlR]
      go_wp2_with (first
        | (refine wpList_load_row rfl 69 _ rfl w.heap.size rfl 69 _ (0, 0) _ g0 Tryz.underlying69 rfl (by rw [sS]; exact Tryz.infoF5) ?_))
      refine (H1.out _).mono ?_
      rintro e w2 ⟨rfl, k2⟩
      replace hb3 := hb3.keep k2
      replace hbel := hbel.trans (k2.mono hbel.size)
      have hst := storeRow (l := R) hb3 (by rw [hlR]; rfl)
      go_wp2
      refine bodyPost_ret (v := .agg (Ws R)) ?_ rfl ⟨by rw [show Ff.minus a b = _ from HE.out], below_setRow hbel (by omega) _⟩
      exact results_cell_row rfl _ _ (w.heap.size + 1 + 1) 69 _ (0, 0) _ rfl (hb3.row _) Tryz.underlying69 rfl (by rw [sR]; exact Tryz.infoF5)

end Go.Proofs.YtclpbaokadfhhaaGreatDoor

namespace Go.Proofs.YtclpbaokadfhhaaGreatDoor
open Go.RowKit

theorem F_neg (x : BitVec 64) : IntKind.u64.wrap (-U x) = U (-x) := by
  rw [IntKind.wrap_u64]; unfold U; rw [BitVec.toNat_neg]; have := x.isLt; omega

set_option maxRecDepth 100000 in
set_option maxHeartbeats 2000000 in
theorem F_swap (bit : BitVec 64) (a b : List (BitVec 64)) (w : World) (ha : a.length = 5) (hb : b.length = 5) :
    Calls Tryz.prog 160 #[.int .u64 (U bit), .agg (Ws a), .agg (Ws b)] w fun e w' => e = .returned (.tuple #[.agg (Ws (Ff.swap bit a b).1), .agg (Ws (Ff.swap bit a b).2)]) ∧ Below w.heap.size w w' := by
  have sa : (Ws a).size = 5 := by rw [Ws_size, ha]
  have sb : (Ws b).size = 5 := by rw [Ws_size, hb]
  have hb1 := Blk.alloc (Blk.alloc (Blk.alloc (Blk.new w (Ws a) 69) (.cells (Ws b) 69)) (.cells (Ws [0, 0, 0, 0, 0]) 69)) (.cells (Ws [0, 0, 0, 0, 0]) 69)
  have hb2 := Blk.alloc (Blk.alloc (Blk.new (w.alloc (.cells (Ws a) 69)) (Ws b) 69) (.cells (Ws [0, 0, 0, 0, 0]) 69)) (.cells (Ws [0, 0, 0, 0, 0]) 69)
  have hb3 := Blk.alloc (Blk.new ((w.alloc (.cells (Ws a) 69)).alloc (.cells (Ws b) 69)) (Ws [0, 0, 0, 0, 0]) 69) (.cells (Ws [0, 0, 0, 0, 0]) 69)
  have hb4 := Blk.new (((w.alloc (.cells (Ws a) 69)).alloc (.cells (Ws b) 69)).alloc (.cells (Ws [0, 0, 0, 0, 0]) 69)) (Ws [0, 0, 0, 0, 0]) 69
  have hbel : Below w.heap.size w ((((w.alloc (.cells (Ws a) 69)).alloc (.cells (Ws b) 69)).alloc (.cells (Ws [0, 0, 0, 0, 0]) 69)).alloc (.cells (Ws [0, 0, 0, 0, 0]) 69)) :=
    ((((Below.refl _ _).alloc (Nat.le_refl _) _).alloc (by simp) _).alloc (by simp; omega) _).alloc (by simp; omega) _
  rw [show (w.alloc (.cells (Ws a) 69)).heap.size = w.heap.size + 1 by simp] at hb2
  rw [show ((w.alloc (.cells (Ws a) 69)).alloc (.cells (Ws b) 69)).heap.size = w.heap.size + 1 + 1 by simp] at hb3
  rw [show (((w.alloc (.cells (Ws a) 69)).alloc (.cells (Ws b) 69)).alloc (.cells (Ws [0, 0, 0, 0, 0]) 69)).heap.size = w.heap.size + 1 + 1 + 1 by simp] at hb4
  have a0 := F_neg bit
  have HE : Hid (Ff.swap bit a b = Ff.swapTo (-bit) a b 5) := by
    have : Ff.swap bit a b = Ff.swapTo (-bit) a b 5 := rfl
    exact this
  generalize -bit = m at a0 HE
  generalize Ff.swap bit a b = R at HE ⊢
  go_enter Tryz.func160, Tryz.ntmps160
  go_wp2_with fail
  rw [FZ5]
  generalize (((w.alloc (.cells (Ws a) 69)).alloc (.cells (Ws b) 69)).alloc (.cells (Ws [0, 0, 0, 0, 0]) 69)).alloc (.cells (Ws [0, 0, 0, 0, 0]) 69) = w1 at hb1 hb2 hb3 hb4 hbel ⊢
  go_loopw [13] (fun i wr => ∃ k : Nat, k ≤ 5 ∧ i = .int .i64 k ∧ Blk wr w.heap.size (Ws (Ff.swapTo m a b k).1) 69 ∧ Blk wr (w.heap.size + 1) (Ws (Ff.swapTo m a b k).2) 69 ∧ Blk wr (w.heap.size + 1 + 1) (Ws [0, 0, 0, 0, 0]) 69 ∧ Blk wr (w.heap.size + 1 + 1 + 1) (Ws [0, 0, 0, 0, 0]) 69 ∧ Below w.heap.size w wr) (fun i _ => 5 - (intOf i).toNat)
  case atStart => exact ⟨0, by omega, rfl, hb1, hb2, hb3, hb4, hbel⟩
  case round =>
    clear hb1 hb2 hb3 hb4 hbel w1
    obtain ⟨k, hk, rfl, hb1, hb2, hb3, hb4, hbel⟩ := hrel
    have hl1 : (Ff.swapTo m a b k).1.length = 5 := by rw [(Ff.swapTo_length m a b k).1, ha]
    have hl2 : (Ff.swapTo m a b k).2.length = 5 := by rw [(Ff.swapTo_length m a b k).2, hb]
    by_cases hlt : k < 5
    · have HS : Hid (Ff.swapTo m a b (k + 1) = ((Ff.swapTo m a b k).1.set k ((Ff.swapTo m a b k).1.getD k 0 ^^^ (m &&& ((Ff.swapTo m a b k).1.getD k 0 ^^^ (Ff.swapTo m a b k).2.getD k 0))), (Ff.swapTo m a b k).2.set k ((Ff.swapTo m a b k).2.getD k 0 ^^^ (m &&& ((Ff.swapTo m a b k).1.getD k 0 ^^^ (Ff.swapTo m a b k).2.getD k 0))))) := by
        have : Ff.swapTo m a b (k + 1) = ((Ff.swapTo m a b k).1.set k ((Ff.swapTo m a b k).1.getD k 0 ^^^ (m &&& ((Ff.swapTo m a b k).1.getD k 0 ^^^ (Ff.swapTo m a b k).2.getD k 0))), (Ff.swapTo m a b k).2.set k ((Ff.swapTo m a b k).2.getD k 0 ^^^ (m &&& ((Ff.swapTo m a b k).1.getD k 0 ^^^ (Ff.swapTo m a b k).2.getD k 0)))) := rfl
        exact this
      generalize (Ff.swapTo m a b k).1 = L at hb1 HS hl1
      generalize (Ff.swapTo m a b k).2 = M at hb2 HS hl2
      have c1 := hb1.cell k
      rw [Ws_at _ _ (by omega)] at c1
      have c2 := hb2.cell k
      rw [Ws_at _ _ (by omega)] at c2
      have f1 := hb1.frozen k
      have f2 := hb2.frozen k
      generalize L.getD k 0 = x at c1 HS
      generalize M.getD k 0 = y at c2 HS
      have i1 : (k : Int) < 5 := by omega
      have a1 := U_xor x y
      generalize x ^^^ y = d at a1 HS
      have a2 := U_and m d
      generalize m &&& d = c at a2 HS
      have a3 := U_xor x c
      have a4 := U_xor y c
      generalize x ^^^ c = x' at a3 HS
      generalize y ^^^ c = y' at a4 HS
      go_wp2_with fail
      go_quiet (fail)
      go_wp2
      go_roundw
      case rel =>
        rw [(hb1.drewN _).set, Ws_set, ((hb2.drewN _).other (by omega) _).set, Ws_set]
        refine ⟨k + 1, by omega, by go_num, ?_, ?_, ?_, ?_, ?_⟩
        · rw [show Ff.swapTo m a b (k + 1) = _ from HS.out]; exact ((hb1.drewN _).row _).other (by omega) _
        · rw [show Ff.swapTo m a b (k + 1) = _ from HS.out]; exact ((hb2.drewN _).other (by omega) _).row _
        · exact ((hb3.drewN _).other (by omega) _).other (by omega) _
        · exact ((hb4.drewN _).other (by omega) _).other (by omega) _
        · exact below_setRow (below_setRow (below_drewN hbel _) (by omega) _) (by omega) _
      case measure => simp [intOf]; omega
    · have hk8 : k = 5 := by omega
      subst hk8
      generalize Ff.swapTo m a b 5 = C at hb1 hb2 HE hl1 hl2 ⊢
      obtain ⟨L, M⟩ := C
      have hl1' : L.length = 5 := hl1
      have hl2' : M.length = 5 := hl2
      clear hl1 hl2
      have hb1 : Blk wr w.heap.size (Ws L) 69 := hb1
      have hb2 : Blk wr (w.heap.size + 1) (Ws M) 69 := hb2
      obtain ⟨x0, x1, x2, x3, x4, rfl⟩ := Ff.five L hl1'
      obtain ⟨y0, y1, y2, y3, y4, rfl⟩ := Ff.five M hl2'
      obtain ⟨c0, c1, c2, c3, c4⟩ := Fcells hb1
      obtain ⟨d0, d1, d2, d3, d4⟩ := Fcells hb2
      obtain ⟨e0, e1, e2, e3, e4⟩ := Fcells hb3
      obtain ⟨g0, g1, g2, g3, g4⟩ := Fcells hb4
      have k0 := hb3.frozen 0; have k1 := hb3.frozen 1; have k2 := hb3.frozen 2; have k3 := hb3.frozen 3; have k4 := hb3.frozen 4
      have m0 := hb4.frozen 0; have m1 := hb4.frozen 1; have m2 := hb4.frozen 2; have m3 := hb4.frozen 3; have m4 := hb4.frozen 4
      go_wp2_with fail
      go_region
      go_wp2
      have r0 : Blk (wr.setRow (w.heap.size + 1 + 1) (Ws [x0, x1, x2, x3, x4])) (w.heap.size + 1 + 1 + 1) (Ws [0, 0, 0, 0, 0]) 69 := hb4.other (by omega) _
      have r1 : Blk (((wr.setRow (w.heap.size + 1 + 1) (Ws [x0, x1, x2, x3, x4])).setRow (w.heap.size + 1 + 1 + 1) (Ws [y0, y1, y2, y3, y4])).drew) (w.heap.size + 1 + 1) (Ws [x0, x1, x2, x3, x4]) 69 := (hb3.row _).other (by omega) _
      have r2 : Blk (((wr.setRow (w.heap.size + 1 + 1) (Ws [x0, x1, x2, x3, x4])).setRow (w.heap.size + 1 + 1 + 1) (Ws [y0, y1, y2, y3, y4])).drew) (w.heap.size + 1 + 1 + 1) (Ws [y0, y1, y2, y3, y4]) 69 := r0.row _
      rw [Fset5 hb3, Fset5 r0]
      refine bodyPost_ret (v := .tuple #[.agg (Ws [x0, x1, x2, x3, x4]), .agg (Ws [y0, y1, y2, y3, y4])]) ?_ rfl ⟨by rw [show R = _ from HE.out], (below_setRow (below_setRow hbel (by omega) _) (by omega) _).drew⟩
      exact results_cell_cell rfl _ _ (w.heap.size + 1 + 1) (w.heap.size + 1 + 1 + 1) 69 _ _ _ rfl rfl r1 r2 Tryz.underlying69 rfl Tryz.infoF5 Tryz.infoF5

end Go.Proofs.YtclpbaokadfhhaaGreatDoor
