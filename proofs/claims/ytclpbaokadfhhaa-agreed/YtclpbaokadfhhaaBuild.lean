/- A composite value built, as one operation: plain laws. -/
import Derived.Test.YtclpbaokadfhhaaLad
namespace Go.Proofs.Ytclpbaokadfhhaa
open Go.RowKit

theorem exec_build {P : Program} {o : Oper} {a : Act} {w : World} (t : TypeId) (parts : List (Nat × Operand)) (ho : o.op = .build t parts.toArray) (vs : List (Nat × Value)) (hv : parts.map (fun p => (p.1, a.eval p.2)) = vs)
    (cells : Array Value) (h : (Instr.build t vs.toArray).run P w = .ok (.agg cells) w) : (execOp a.eval o).run P w = .ok (.value (.agg cells)) w := by
  have e : (parts.toArray.map fun (i, x) => (i, a.eval x)) = vs.toArray := by rw [← hv]; simp
  unfold execOp
  simp only [ho, e, Sem.run_bind, Sem.run_pure, Result.andThen_ok, h]
theorem wpList_build {P : Program} {ops : Array Oper} {rest : List Oper} {o : Oper} {a : Act} {w : World} {Q : Exit → Act → World → Prop} (hgd : o.guard = none) (t : TypeId) (parts : List (Nat × Operand)) (ho : o.op = .build t parts.toArray)
    (vs : List (Nat × Value)) (hv : parts.map (fun p => (p.1, a.eval p.2)) = vs) (cells : Array Value) (h : (Instr.build t vs.toArray).run P w = .ok (.agg cells) w)
    (hr : wpList P ops Q rest (a.put o.dst (.agg cells)) w) : wpList P ops Q (o :: rest) a w :=
  wpList_plain hgd fun K hK => by
    unfold Oper.wp
    rw [exec_build t parts ho vs hv cells h]
    exact hK _ _ hr

end Go.Proofs.Ytclpbaokadfhhaa
