/- Package curve: a point's row; contracts of one, factor, Base; field's rootOfMinusOne, Negated, LowestBit. -/
import Derived.Test.YtclpbaokadfhhaaDoorBl2
import Derived.Test.YtclpbaokadfhhaaDoorPhase2
import Derived.Test.YtclpbaokadfhhaaDoorFi
import Derived.Test.YtclpbaokadfhhaaDoorCv
import Derived.Test.YtclpbaokadfhhaaDoorFby
import Derived.Deep.MidRow
namespace Go.Proofs.YtclpbaokadfhhaaDoor
open Go.RowKit

/-- three numbers, one behind the other -/
def pt (X Y Z : List (BitVec 64)) : List (BitVec 64) := X ++ Y ++ Z
theorem pt_length {X Y Z : List (BitVec 64)} (hX : X.length = 5) (hY : Y.length = 5) (hZ : Z.length = 5) : (pt X Y Z).length = 15 := by simp [pt, hX, hY, hZ]
theorem pt_size {X Y Z : List (BitVec 64)} (hX : X.length = 5) (hY : Y.length = 5) (hZ : Z.length = 5) : (Ws (pt X Y Z)).size = 15 := by rw [Ws_size, pt_length hX hY hZ]
theorem Tryd.infoP15 : (Tryd.prog.info? 60).map (·.size) = some 15 := by kernel_rfl
theorem rangeOf {w : World} {b t : Nat} {X Y Z : List (BitVec 64)} (h : Blk w b (Ws (X ++ Y ++ Z)) t) : w.rangeAt b X.length (Ws Y).toList := by
  intro j v hv
  rw [h.cell]
  have hj : j < Y.length := by have := (List.getElem?_eq_some_iff.1 hv).1; simpa [Ws] using this
  rw [Array.getElem?_toList] at hv
  rw [Ws_get] at hv ⊢
  rw [List.append_assoc, List.getElem?_append_right (by omega), Nat.add_sub_cancel_left, List.getElem?_append_left hj]
  exact hv
theorem ptX {w : World} {b t : Nat} {X Y Z : List (BitVec 64)} (h : Blk w b (Ws (pt X Y Z)) t) : w.rangeAt b 0 (Ws X).toList := by
  have : pt X Y Z = [] ++ X ++ (Y ++ Z) := by simp [pt]
  rw [this] at h; exact rangeOf h
theorem ptY {w : World} {b t : Nat} {X Y Z : List (BitVec 64)} (h : Blk w b (Ws (pt X Y Z)) t) (hX : X.length = 5) : w.rangeAt b 5 (Ws Y).toList := by
  have := rangeOf h; rw [hX] at this; exact this
theorem ptZ {w : World} {b t : Nat} {X Y Z : List (BitVec 64)} (h : Blk w b (Ws (pt X Y Z)) t) (hX : X.length = 5) (hY : Y.length = 5) : w.rangeAt b 10 (Ws Z).toList := by
  have : pt X Y Z = (X ++ Y) ++ Z ++ [] := by simp [pt]
  rw [this] at h; have := rangeOf h; rw [List.length_append, hX, hY] at this; exact this
theorem exec_mid {P : Program} {o : Oper} {a : Act} {w : World} (ty : TypeId) (x : Operand) (ho : o.op = .load ty x)
    (b off : Nat) (hx : a.eval x = .pointer (some ⟨b, off, none⟩)) (cs : Array Value) (d : TypeDesc) (hc : w.rangeAt b off cs.toList)
    (hu : P.underlying ty = some d) (hd : d.isRow = true) (hi : (P.info? ty).map (·.size) = some cs.size) :
    (execOp a.eval o).run P w = .ok (.value (.agg cs)) w := by
  have h := run_loadVar_mid w b off ty cs.toList d hc hu hd (by simpa using hi)
  rw [Array.toArray_toList] at h
  unfold execOp
  simp only [ho, hx, Instr.loadAt, Instr.sureAddr, Sem.run_bind, Sem.run_pure, Result.andThen_ok, h]
theorem wpList_mid {P : Program} {ops : Array Oper} {rest : List Oper} {o : Oper} {a : Act} {w : World} {Q : Exit → Act → World → Prop} (hgd : o.guard = none) (ty : TypeId) (x : Operand) (ho : o.op = .load ty x)
    (b off : Nat) (hx : a.eval x = .pointer (some ⟨b, off, none⟩)) (cs : Array Value) (d : TypeDesc) (hc : w.rangeAt b off cs.toList)
    (hu : P.underlying ty = some d) (hd : d.isRow = true) (hi : (P.info? ty).map (·.size) = some cs.size)
    (h : wpList P ops Q rest (a.put o.dst (.agg cs)) w) : wpList P ops Q (o :: rest) a w :=
  wpList_load_mid hgd ty x ho b off hx cs.toList d hc hu hd (by simpa using hi) (by rw [Array.toArray_toList]; exact h)
theorem exec_made {P : Program} {o : Oper} {a : Act} {w : World} (t : TypeId) (parts : List (Nat × Operand)) (ho : o.op = .build t parts.toArray) (vs : List (Nat × Value)) (hv : parts.map (fun p => (p.1, a.eval p.2)) = vs)
    (cells : Array Value) (h : (Instr.build t vs.toArray).run P w = .ok (.agg cells) w) : (execOp a.eval o).run P w = .ok (.value (.agg cells)) w := by
  have e : (parts.toArray.map fun (i, x) => (i, a.eval x)) = vs.toArray := by rw [← hv]; simp
  unfold execOp
  simp only [ho, e, Sem.run_bind, Sem.run_pure, Result.andThen_ok, h]
theorem wpList_made {P : Program} {ops : Array Oper} {rest : List Oper} {o : Oper} {a : Act} {w : World} {Q : Exit → Act → World → Prop} (hgd : o.guard = none) (t : TypeId) (parts : List (Nat × Operand)) (ho : o.op = .build t parts.toArray)
    (vs : List (Nat × Value)) (hv : parts.map (fun p => (p.1, a.eval p.2)) = vs) (cells : Array Value) (h : (Instr.build t vs.toArray).run P w = .ok (.agg cells) w)
    (hr : wpList P ops Q rest (a.put o.dst (.agg cells)) w) : wpList P ops Q (o :: rest) a w :=
  wpList_plain hgd fun K hK => by
    unfold Oper.wp
    rw [exec_made t parts ho vs hv cells h]
    exact hK _ _ hr
theorem build15 (X Y Z : List (BitVec 64)) (hX : X.length = 5) (hY : Y.length = 5) (hZ : Z.length = 5) (w : World) :
    (Instr.build 60 #[(0, .agg (Ws X)), (1, .agg (Ws Y)), (2, .agg (Ws Z))]).run Tryd.prog w = .ok (.agg (Ws (pt X Y Z))) w := by
  obtain ⟨a0, a1, a2, a3, a4, rfl⟩ := Ff.five X hX
  obtain ⟨b0, b1, b2, b3, b4, rfl⟩ := Ff.five Y hY
  obtain ⟨c0, c1, c2, c3, c4, rfl⟩ := Ff.five Z hZ
  exact run_build w _ _ _ (by kernel_rfl)
def Z15 : List (BitVec 64) := pt [0, 0, 0, 0, 0] [0, 0, 0, 0, 0] [0, 0, 0, 0, 0]
theorem Z15_len : Z15.length = 15 := rfl
theorem zero15 (w : World) : Sem.run Tryd.prog (zeroValue 60) w = .ok (.agg (Ws Z15)) w := by kernel_rfl
theorem build15_none (w : World) : (Instr.build 60 #[]).run Tryd.prog w = .ok (.agg (Ws Z15)) w := run_build w _ _ _ (by kernel_rfl)
theorem build15_start (Y Z : List (BitVec 64)) (hY : Y.length = 5) (hZ : Z.length = 5) (w : World) :
    (Instr.build 60 #[(1, .agg (Ws Y)), (2, .agg (Ws Z))]).run Tryd.prog w = .ok (.agg (Ws (pt [0, 0, 0, 0, 0] Y Z))) w := by
  obtain ⟨b0, b1, b2, b3, b4, rfl⟩ := Ff.five Y hY
  obtain ⟨c0, c1, c2, c3, c4, rfl⟩ := Ff.five Z hZ
  exact run_build w _ _ _ (by kernel_rfl)

set_option maxRecDepth 100000 in
set_option maxHeartbeats 1000000 in
theorem C_one (w : World) : Calls Tryd.prog 56 #[] w fun e w' => e = .returned (.agg (Ws Ff.one5)) ∧ Below w.heap.size w w' := by
  go_enter Tryd.func56, Tryd.ntmps56
  go_wp2
  refine bodyPost_ret (v := .agg (Ws Ff.one5)) ?_ rfl ⟨rfl, (Below.refl _ _).alloc (Nat.le_refl _) _⟩
  exact results_cell_row rfl _ _ w.heap.size 58 (Ws Ff.one5) (0, 0) _ rfl (Blk.new w (Ws Ff.one5) _) Tryd.underlying58 rfl Tryd.infoF5
set_option maxRecDepth 100000 in
set_option maxHeartbeats 1000000 in
theorem C_factor (w : World) : Calls Tryd.prog 67 #[] w fun e w' => e = .returned (.agg (Ws Ff.factor)) ∧ Below w.heap.size w w' := by
  go_enter Tryd.func67, Tryd.ntmps67
  go_wp2
  refine bodyPost_ret (v := .agg (Ws Ff.factor)) ?_ rfl ⟨rfl, (Below.refl _ _).alloc (Nat.le_refl _) _⟩
  exact results_cell_row rfl _ _ w.heap.size 58 (Ws Ff.factor) (0, 0) _ rfl (Blk.new w (Ws Ff.factor) _) Tryd.underlying58 rfl Tryd.infoF5
set_option maxRecDepth 100000 in
set_option maxHeartbeats 1000000 in
theorem F_im (w : World) : Calls Tryd.prog 83 #[] w fun e w' => e = .returned (.agg (Ws Ff.im)) ∧ Below w.heap.size w w' := by
  go_enter Tryd.func83, Tryd.ntmps83
  go_wp2
  refine bodyPost_ret (v := .agg (Ws Ff.im)) ?_ rfl ⟨rfl, (Below.refl _ _).alloc (Nat.le_refl _) _⟩
  exact results_cell_row rfl _ _ w.heap.size 58 (Ws Ff.im) (0, 0) _ rfl (Blk.new w (Ws Ff.im) _) Tryd.underlying58 rfl Tryd.infoF5

set_option maxRecDepth 100000 in
set_option maxHeartbeats 1000000 in
theorem F_negated (a : List (BitVec 64)) (w : World) (ha : a.length = 5) :
    Calls Tryd.prog 70 #[.agg (Ws a)] w fun e w' => e = .returned (.agg (Ws (Ff.negated a))) ∧ Below w.heap.size w w' := by
  have sa : (Ws a).size = 5 := by rw [Ws_size, ha]
  have hb1 : Blk ((w.alloc (.cells (Ws a) 58)).alloc (.cells (Ws [0, 0, 0, 0, 0]) 58)) w.heap.size (Ws a) 58 := heap_alloc2_old w _ _
  have hb2 : Blk ((w.alloc (.cells (Ws a) 58)).alloc (.cells (Ws [0, 0, 0, 0, 0]) 58)) (w.heap.size + 1) (Ws [0, 0, 0, 0, 0]) 58 := heap_alloc2_new w _ _
  have hbel : Below w.heap.size w ((w.alloc (.cells (Ws a) 58)).alloc (.cells (Ws [0, 0, 0, 0, 0]) 58)) := ((Below.refl _ _).alloc (Nat.le_refl _) _).alloc (by simp) _
  have H1 : Hid (∀ wx : World, Calls Tryd.prog 66 #[.agg #[.int .u64 0, .int .u64 0, .int .u64 0, .int .u64 0, .int .u64 0], .agg (Ws a)] wx fun e w' => e = .returned (.agg (Ws (Ff.negated a))) ∧ Below wx.heap.size wx w') := fun wx => F_minus [0, 0, 0, 0, 0] a wx rfl ha
  have hlR : (Ff.negated a).length = 5 := Ff.negated_length _
  generalize Ff.negated a = R at H1 hlR ⊢
  have sR : (Ws R).size = 5 := by rw [Ws_size, hlR]
  have g1 := hb1
  unfold Blk at g1
  rw [← FZ5] at g1
  go_enter Tryd.func70, Tryd.ntmps70
  go_wp2_with (first
    | (refine wpList_load_row rfl 58 _ rfl w.heap.size rfl 58 _ (0, 0) _ g1 Tryd.underlying58 rfl (by rw [sa]; exact Tryd.infoF5) ?_))
  rw [show (w.alloc (.cells (Ws a) 58)).alloc (.cells #[.int .u64 0, .int .u64 0, .int .u64 0, .int .u64 0, .int .u64 0] 58) = (w.alloc (.cells (Ws a) 58)).alloc (.cells (Ws [0, 0, 0, 0, 0]) 58) from rfl]
  clear g1
  generalize (w.alloc (.cells (Ws a) 58)).alloc (.cells (Ws [0, 0, 0, 0, 0]) 58) = w1 at hb1 hb2 hbel ⊢
  refine (H1.out _).mono ?_
  rintro e w2 ⟨rfl, k2⟩
  replace hb2 := hb2.keep k2
  replace hbel := hbel.trans (k2.mono hbel.size)
  have hst := storeRow (l := R) hb2 (by rw [hlR]; rfl)
  go_wp2
  refine bodyPost_ret (v := .agg (Ws R)) ?_ rfl ⟨rfl, below_setRow hbel (by omega) _⟩
  exact results_cell_row rfl _ _ (w.heap.size + 1) 58 _ (0, 0) _ rfl (hb2.row _) Tryd.underlying58 rfl (by rw [sR]; exact Tryd.infoF5)

set_option maxRecDepth 100000 in
set_option maxHeartbeats 1000000 in
theorem F_lowestBit (a : List (BitVec 64)) (w : World) (ha : a.length = 5) :
    Calls Tryd.prog 61 #[.agg (Ws a)] w fun e w' => e = .returned (.int .u8 ((Ff.lowBit a).toNat : Int)) ∧ Below w.heap.size w w' := by
  have sa : (Ws a).size = 5 := by rw [Ws_size, ha]
  have hb1 := Blk.new w (Ws a) 58
  have hbel : Below w.heap.size w (w.alloc (.cells (Ws a) 58)) := (Below.refl _ _).alloc (Nat.le_refl _) _
  have H1 : Hid (∀ wx : World, Calls Tryd.prog 73 #[.agg (Ws a)] wx fun e w' => e = .returned (.agg (Ws (Ff.lowest a))) ∧ Below wx.heap.size wx w') := fun wx => F_lowest a wx ha
  have HE : Hid (Ff.lowBit a = ((Ff.lowest a).getD 0 0 &&& 1).toNat.toUInt8) := by
    have : Ff.lowBit a = ((Ff.lowest a).getD 0 0 &&& 1).toNat.toUInt8 := rfl
    exact this
  have hlR : (Ff.lowest a).length = 5 := by rw [Ff.lowest_length, ha]
  generalize Ff.lowBit a = B at HE ⊢
  generalize Ff.lowest a = R at H1 hlR HE
  obtain ⟨x0, x1, x2, x3, x4, rfl⟩ := Ff.five R hlR
  have a1 : bits BinOp.and IntKind.u64 (U x0) 1 = U (x0 &&& 1) := U_and x0 1
  have lb := low_byte (x0 &&& 1)
  have HE2 : B = ((x0 &&& 1).toNat.toUInt8) := HE.out
  rw [← HE2] at lb
  clear HE HE2
  generalize x0 &&& 1 = y at a1 lb
  have hix : ∀ wx : World, (Instr.index 58 (.agg (Ws [x0, x1, x2, x3, x4])) (.int .i64 0)).run Tryd.prog wx = .ok (.int .u64 (U x0)) wx := fun wx => by kernel_rfl
  have g1 := hb1
  unfold Blk at g1
  go_enter Tryd.func61, Tryd.ntmps61
  go_wp2_with (first
    | (refine wpList_load_row rfl 58 _ rfl w.heap.size rfl 58 _ (0, 0) _ g1 Tryd.underlying58 rfl (by rw [sa]; exact Tryd.infoF5) ?_))
  clear g1
  generalize w.alloc (.cells (Ws a) 58) = w1 at hb1 hbel ⊢
  refine (H1.out _).mono ?_
  rintro e w2 ⟨rfl, k2⟩
  replace hbel := hbel.trans (k2.mono hbel.size)
  generalize Ws [x0, x1, x2, x3, x4] = VV at hix ⊢
  go_wp2
  go_ret
  exact ⟨rfl, hbel⟩
end Go.Proofs.YtclpbaokadfhhaaDoor
