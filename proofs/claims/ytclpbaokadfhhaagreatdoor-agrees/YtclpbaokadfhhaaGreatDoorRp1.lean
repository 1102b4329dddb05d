/- The document's points: a point's row of 64 parts; what a region loads and builds; contracts by good numbers; factor. -/
import Derived.Test.YtclpbaokadfhhaaGreatDoorZe
import Derived.Test.YtclpbaokadfhhaaGreatDoorZg
import Derived.Test.YtclpbaokadfhhaaGreatDoorXk
import Derived.Deep.MidRow
namespace Go.Proofs.YtclpbaokadfhhaaGreatDoor
open Go.RowKit
theorem Tryz.infoP64 : (Tryz.prog.info? 61).map (·.size) = some 64 := by kernel_rfl
namespace Rp
def qt (X Y Z T : List Int) : List Int := X ++ Y ++ Z ++ T
theorem qt_length {X Y Z T : List Int} (hX : X.length = 16) (hY : Y.length = 16) (hZ : Z.length = 16) (hT : T.length = 16) : (qt X Y Z T).length = 64 := by simp [qt, hX, hY, hZ, hT]
theorem row_qt (p : Pn) : row p = qt p.x p.y p.z p.t := rfl
theorem rangeOf {w : World} {b t : Nat} {X Y Z : List Int} (h : Blk w b (Ns (X ++ Y ++ Z)) t) : w.rangeAt b X.length (Ns Y).toList := by
  intro j v hv
  rw [h.cell]
  have hj : j < Y.length := by have := (List.getElem?_eq_some_iff.1 hv).1; simpa [Ns] using this
  rw [Array.getElem?_toList] at hv
  have e : (Ns (X ++ Y ++ Z))[X.length + j]? = (Ns Y)[j]? := by
    simp only [Ns, List.getElem?_toArray, List.getElem?_map]
    rw [List.append_assoc, List.getElem?_append_right (by omega), Nat.add_sub_cancel_left, List.getElem?_append_left hj]
  rw [e]; exact hv
theorem ptX {w : World} {b t : Nat} {X Y Z T : List Int} (h : Blk w b (Ns (qt X Y Z T)) t) : w.rangeAt b 0 (Ns X).toList := by
  have : qt X Y Z T = [] ++ X ++ (Y ++ Z ++ T) := by simp [qt]
  rw [this] at h; exact rangeOf h
theorem ptY {w : World} {b t : Nat} {X Y Z T : List Int} (h : Blk w b (Ns (qt X Y Z T)) t) (hX : X.length = 16) : w.rangeAt b 16 (Ns Y).toList := by
  have : qt X Y Z T = X ++ Y ++ (Z ++ T) := by simp [qt]
  rw [this] at h; have := rangeOf h; rw [hX] at this; exact this
theorem ptZ {w : World} {b t : Nat} {X Y Z T : List Int} (h : Blk w b (Ns (qt X Y Z T)) t) (hX : X.length = 16) (hY : Y.length = 16) : w.rangeAt b 32 (Ns Z).toList := by
  have : qt X Y Z T = (X ++ Y) ++ Z ++ T := by simp [qt]
  rw [this] at h; have := rangeOf h; rw [List.length_append, hX, hY] at this; exact this
theorem ptT {w : World} {b t : Nat} {X Y Z T : List Int} (h : Blk w b (Ns (qt X Y Z T)) t) (hX : X.length = 16) (hY : Y.length = 16) (hZ : Z.length = 16) : w.rangeAt b 48 (Ns T).toList := by
  have : qt X Y Z T = (X ++ Y ++ Z) ++ T ++ [] := by simp [qt]
  rw [this] at h; have := rangeOf h; rw [List.length_append, List.length_append, hX, hY, hZ] at this; exact this
theorem exec_mid {P : Program} {o : Oper} {a : Act} {w : World} (ty : TypeId) (x : Operand) (ho : o.op = .load ty x)
    (b off : Nat) (hx : a.eval x = .pointer (some ⟨b, off, none⟩)) (cs : Array Value) (d : TypeDesc) (hc : w.rangeAt b off cs.toList)
    (hu : P.underlying ty = some d) (hd : d.isRow = true) (hi : (P.info? ty).map (·.size) = some cs.size) :
    (execOp a.eval o).run P w = .ok (.value (.agg cs)) w := by
  have h := run_loadVar_mid w b off ty cs.toList d hc hu hd (by simpa using hi)
  rw [Array.toArray_toList] at h
  unfold execOp
  simp only [ho, hx, Instr.loadAt, Instr.sureAddr, Sem.run_bind, Sem.run_pure, Result.andThen_ok, h]
theorem wpList_mid {P : Program} {ops : Array Oper} {rest : List Oper} {o : Oper} {a : Act} {w : World} {Q : Exit → Act → World → Prop} (hgd : o.guard = none) (ty : TypeId) (x : Operand) (ho : o.op = .load ty x)
    (b off : Nat) (hx : a.eval x = .pointer (some ⟨b, off, none⟩)) (cs : Array Value) (d : TypeDesc) (hc : w.rangeAt b off cs.toList)
    (hu : P.underlying ty = some d) (hd : d.isRow = true) (hi : (P.info? ty).map (·.size) = some cs.size)
    (h : wpList P ops Q rest (a.put o.dst (.agg cs)) w) : wpList P ops Q (o :: rest) a w :=
  wpList_load_mid hgd ty x ho b off hx cs.toList d hc hu hd (by simpa using hi) (by rw [Array.toArray_toList]; exact h)
theorem exec_made {P : Program} {o : Oper} {a : Act} {w : World} (t : TypeId) (parts : List (Nat × Operand)) (ho : o.op = .build t parts.toArray) (vs : List (Nat × Value)) (hv : parts.map (fun p => (p.1, a.eval p.2)) = vs)
    (cells : Array Value) (h : (Instr.build t vs.toArray).run P w = .ok (.agg cells) w) : (execOp a.eval o).run P w = .ok (.value (.agg cells)) w := by
  have e : (parts.toArray.map fun (i, x) => (i, a.eval x)) = vs.toArray := by rw [← hv]; simp
  unfold execOp
  simp only [ho, e, Sem.run_bind, Sem.run_pure, Result.andThen_ok, h]
theorem wpList_made {P : Program} {ops : Array Oper} {rest : List Oper} {o : Oper} {a : Act} {w : World} {Q : Exit → Act → World → Prop} (hgd : o.guard = none) (t : TypeId) (parts : List (Nat × Operand)) (ho : o.op = .build t parts.toArray)
    (vs : List (Nat × Value)) (hv : parts.map (fun p => (p.1, a.eval p.2)) = vs) (cells : Array Value) (h : (Instr.build t vs.toArray).run P w = .ok (.agg cells) w)
    (hr : wpList P ops Q rest (a.put o.dst (.agg cells)) w) : wpList P ops Q (o :: rest) a w :=
  wpList_plain hgd fun K hK => by
    unfold Oper.wp
    rw [exec_made t parts ho vs hv cells h]
    exact hK _ _ hr
theorem sixteen (l : List Int) (h : l.length = 16) : ∃ a b c d e f g h' i j k m n o p q, l = [a, b, c, d, e, f, g, h', i, j, k, m, n, o, p, q] := by
  match l, h with
  | [a, b, c, d, e, f, g, h', i, j, k, m, n, o, p, q], _ => exact ⟨_, _, _, _, _, _, _, _, _, _, _, _, _, _, _, _, rfl⟩
theorem alloc_size (w : World) (o : Obj) : (w.alloc o).heap.size = w.heap.size + 1 := by simp
def Z64 : List Int := List.replicate 64 0
theorem Z64_len : Z64.length = 64 := rfl
theorem zero64 (w : World) : Sem.run Tryz.prog (zeroValue 61) w = .ok (.agg (Ns Z64)) w := by kernel_rfl
theorem build64_none (w : World) : (Instr.build 61 #[]).run Tryz.prog w = .ok (.agg (Ns Z64)) w := run_build w _ _ _ (by kernel_rfl)
theorem build_num2 (a b : Int) (w : World) : (Instr.build 59 #[(0, .int .i64 a), (1, .int .i64 b)]).run Tryz.prog w = .ok (.agg (Ns (num2 a b))) w := run_build w _ _ _ (by kernel_rfl)
set_option maxRecDepth 100000 in
theorem build64 (X Y Z T : List Int) (hX : X.length = 16) (hY : Y.length = 16) (hZ : Z.length = 16) (hT : T.length = 16) (w : World) :
    (Instr.build 61 #[(0, .agg (Ns X)), (1, .agg (Ns Y)), (2, .agg (Ns Z)), (3, .agg (Ns T))]).run Tryz.prog w = .ok (.agg (Ns (qt X Y Z T))) w := by
  obtain ⟨a0, a1, a2, a3, a4, a5, a6, a7, a8, a9, a10, a11, a12, a13, a14, a15, rfl⟩ := sixteen X hX
  obtain ⟨b0, b1, b2, b3, b4, b5, b6, b7, b8, b9, b10, b11, b12, b13, b14, b15, rfl⟩ := sixteen Y hY
  obtain ⟨c0, c1, c2, c3, c4, c5, c6, c7, c8, c9, c10, c11, c12, c13, c14, c15, rfl⟩ := sixteen Z hZ
  obtain ⟨d0, d1, d2, d3, d4, d5, d6, d7, d8, d9, d10, d11, d12, d13, d14, d15, rfl⟩ := sixteen T hT
  exact run_build w _ _ _ (by kernel_rfl)
end Rp
theorem R_by (a b : List Int) (ha : Fd.Good a) (hb : Fd.Good b) (w : World) : Calls Tryz.prog 84 #[.agg (Ns a), .agg (Ns b)] w fun e w' => e = .returned (.agg (Ns (Fd.by_ a b))) ∧ Below w.heap.size w w' := by_any a b w ha.1 hb.1 ha.bd hb.bd
theorem R_plus (a b : List Int) (ha : Fd.Good a) (hb : Fd.Good b) (w : World) : Calls Tryz.prog 80 #[.agg (Ns a), .agg (Ns b)] w fun e w' => e = .returned (.agg (Ns (Fd.plus a b))) ∧ Below w.heap.size w w' := plus_any a b w ha.1 hb.1 ha.bd' hb.bd'
theorem R_minus (a b : List Int) (ha : Fd.Good a) (hb : Fd.Good b) (w : World) : Calls Tryz.prog 140 #[.agg (Ns a), .agg (Ns b)] w fun e w' => e = .returned (.agg (Ns (Fd.minus a b))) ∧ Below w.heap.size w w' := minus_any a b w ha.1 hb.1 ha.bd' hb.bd'
theorem R_told (a : List Int) (ha : Fd.Good a) (w : World) : Calls Tryz.prog 87 #[.agg (Ns a)] w fun e w' => e = .returned (.string ⟨(Fd.told a).toArray⟩) ∧ Below w.heap.size w w' := told_any a w ha.1 ha.bd2
def Fd.odd (a : List Int) : Bool := (((Fd.told a).getD 0 0).toNat : Int) % 2 == 1
def Fd.same (a b : List Int) : Bool := decide (Fd.told a = Fd.told b)
theorem R_odd (a : List Int) (ha : Fd.Good a) (w : World) : Calls Tryz.prog 88 #[.agg (Ns a)] w fun e w' => e = .returned (.bool (Fd.odd a)) ∧ Below w.heap.size w w' := by
  refine (odd_any a w ha.1 ha.bd2).mono ?_
  rintro e w' ⟨b, rfl, hb, h⟩
  refine ⟨?_, h⟩
  have : b = Fd.odd a := by unfold Fd.odd; exact hb
  rw [this]
theorem R_same (a b : List Int) (ha : Fd.Good a) (hb : Fd.Good b) (w : World) : Calls Tryz.prog 146 #[.agg (Ns a), .agg (Ns b)] w fun e w' => e = .returned (.bool (Fd.same a b)) ∧ Below w.heap.size w w' := by
  refine (same_any a b w ha.1 ha.bd2 hb.1 hb.bd2).mono ?_
  rintro e w' ⟨q, rfl, hq, h⟩
  refine ⟨?_, h⟩
  have : q = Fd.same a b := by
    unfold Fd.same
    by_cases hh : Fd.told a = Fd.told b
    · rw [decide_eq_true hh]; exact hq.2 hh
    · rw [decide_eq_false hh]
      cases q with
      | false => rfl
      | true => exact absurd (hq.1 rfl) hh
  rw [this]
end Go.Proofs.YtclpbaokadfhhaaGreatDoor
