/-
  No cell of these rows narrows 'for every input' (looked for: loops, veiled, ifaces, maps, wideKeys, modest, calm, conditions, laid).
  DERIVED. THE GIVEN ROWS OF THIS SEAT. 3 by the template 'for every input the law returns true; each argument reads behind the call as it read before'; 0 by the template 'total and deterministic' (their statements: YtclpbaokadfhhaaTotals.lean).
  GIVEN WITH THE SEED: the statements are not yours to turn. If you find one false, say at which input.
  Laid BY PROGRAM, IN A SANDBOX (cutbox-rows.mjs): the forced cells as the released guide's own fill.sh prints them over the translation f6dcda618b8daf3c… (all of the seat's roots in one cut). By AI agents, Wed Nov 11 2026. No macro, syntax, notation, axiom, sorry.
-/
import Derived.Test.YtclpbaokadfhhaaChecked
import GoSem.Claim
import GoSem.ClaimJoined
import GoSem.ClaimMapViews
import Derived.JoinedTies
import Derived.KernelRfl
namespace Go.Proofs.Ytclpbaokadfhhaa
/- THE CELL 'sum', in the pinned program and in every row, IS THE sha256 OF THE DUMP (.gsa) THAT YtclpbaokadfhhaaProg.lean LOADS. Nothing in Lean hashes anything: it is a label: what it is worth is what the hold of that sum in a sandbox is worth. -/
noncomputable def Try.pinned : Pinned := { name := "ytclpbaokadfhhaa", sum := "f6dcda618b8daf3c499a06b714d5675fbd2448629ad1d147db9af5e1533a404f", checked := Try.checked }
namespace Rows
def none {H : Type} : Left H := { results := [], args := [] }

/-- 'missivekeep.Unclosed': WHATEVER THE INPUT: true; the input reads as it did. -/
def unclosedSpec : ChangeSpec := { name := "unclosed", fn := fun _ => fun
  | [d1, d2, d3, d4, d5] => { results := [.lit (.bool true)], args := [d1, d2, d3, d4, d5] }
  | _ => none }
def unclosedRow : OpenClaim := { program := "ytclpbaokadfhhaa", sum := "f6dcda618b8daf3c499a06b714d5675fbd2448629ad1d147db9af5e1533a404f", func := "missive/missivekeep.Unclosed", spec := "unclosed", inPlace := ["internal/abi.NoEscape", "internal/bytealg.MakeNoZero", "math/bits.Add64"], apart := false }
def UnclosedSaid : Prop := unclosedRow.holds Try.pinned (OpenSpec.ofChange unclosedSpec)

/-- ITS FALSE NEIGHBOUR: 'it returns false'. Refute it at one input. -/
def unclosedWrong : ChangeSpec := { name := "unclosed", fn := fun _ => fun
  | [d1, d2, d3, d4, d5] => { results := [.lit (.bool false)], args := [d1, d2, d3, d4, d5] }
  | _ => none }
def UnclosedWrongFalsely : Prop := unclosedRow.holds Try.pinned (OpenSpec.ofChange unclosedWrong)

/-- 'missivekeep.Agreed': WHATEVER THE INPUT: true; the input reads as it did. -/
def agreedSpec : ChangeSpec := { name := "agreed", fn := fun _ => fun
  | [d1, d2, d3] => { results := [.lit (.bool true)], args := [d1, d2, d3] }
  | _ => none }
def agreedRow : OpenClaim := { program := "ytclpbaokadfhhaa", sum := "f6dcda618b8daf3c499a06b714d5675fbd2448629ad1d147db9af5e1533a404f", func := "missive/missivekeep.Agreed", spec := "agreed", inPlace := ["math/bits.Add64"], recurses := true, apart := false }
def AgreedSaid : Prop := agreedRow.holds Try.pinned (OpenSpec.ofChange agreedSpec)

/-- ITS FALSE NEIGHBOUR: 'it returns false'. Refute it at one input. -/
def agreedWrong : ChangeSpec := { name := "agreed", fn := fun _ => fun
  | [d1, d2, d3] => { results := [.lit (.bool false)], args := [d1, d2, d3] }
  | _ => none }
def AgreedWrongFalsely : Prop := agreedRow.holds Try.pinned (OpenSpec.ofChange agreedWrong)

/-- 'missivekeep.Weak': WHATEVER THE INPUT: true; the input reads as it did. -/
def weakSpec : ChangeSpec := { name := "weak", fn := fun _ => fun
  | [d1, d2, d3] => { results := [.lit (.bool true)], args := [d1, d2, d3] }
  | _ => none }
def weakRow : OpenClaim := { program := "ytclpbaokadfhhaa", sum := "f6dcda618b8daf3c499a06b714d5675fbd2448629ad1d147db9af5e1533a404f", func := "missive/missivekeep.Weak", spec := "weak", inPlace := ["math/bits.Add64"], recurses := true, apart := false }
def WeakSaid : Prop := weakRow.holds Try.pinned (OpenSpec.ofChange weakSpec)

/-- ITS FALSE NEIGHBOUR: 'it returns false'. Refute it at one input. -/
def weakWrong : ChangeSpec := { name := "weak", fn := fun _ => fun
  | [d1, d2, d3] => { results := [.lit (.bool false)], args := [d1, d2, d3] }
  | _ => none }
def WeakWrongFalsely : Prop := weakRow.holds Try.pinned (OpenSpec.ofChange weakWrong)

/- THE SECOND FORM. 'bulk': how many values and letters a reading holds, each counted each time it is reached (what is shared counts as often as it is met; a slice's spare places count too). A statement '..UptoSaid' is the law's where the arguments, and the package variables that the reading takes, are together of bulk at most 1048576: NARROWER than '..Said'. Prove '..Said' where nothing that the law and all that it calls make is longer than what came in: it says more and counts as full. Else prove '..UptoSaid'. A law counts once. -/
mutual
def uptoBulk {H : Type} : DataW H → Nat
  | .lit (.string bytes) => bytes.length + 1
  | .lit _ => 1
  | .nil => 1
  | .ptr d => uptoBulk d + 1
  | .slice elems spare => uptoBulkAll elems + uptoBulkAll spare + 1
  | .agg parts => uptoBulkAll parts + 1
  | .iface _ d => uptoBulk d + 1
  | .map entries => uptoBulkEntries entries + 1
  | .held _ => 1
def uptoBulkAll {H : Type} : List (DataW H) → Nat
  | [] => 0
  | d :: r => uptoBulk d + uptoBulkAll r
def uptoBulkEntries {H : Type} : List (Lit × DataW H) → Nat
  | [] => 0
  | x :: r => uptoBulkEntry x + uptoBulkEntries r
def uptoBulkEntry {H : Type} : Lit × DataW H → Nat
  | (.string bytes, d) => bytes.length + uptoBulk d + 1
  | (_, d) => uptoBulk d + 1
 end
def uptoSmall : (H : Type) → List (DataW H) → Bool := fun _ ds => decide (uptoBulkAll ds ≤ 1048576)
def OpenSpec.upto (s : _root_.Go.ChangeSpec) : _root_.Go.OpenSpec := { _root_.Go.OpenSpec.ofChange s with cond := some uptoSmall }

/-- 'missivekeep.Unclosed', WHERE WHAT IT READS IS OF BULK AT MOST 1048576: true; the input reads as it did. -/
def unclosedUptoRow : OpenClaim := { program := "ytclpbaokadfhhaa", sum := "f6dcda618b8daf3c499a06b714d5675fbd2448629ad1d147db9af5e1533a404f", func := "missive/missivekeep.Unclosed", spec := "unclosed", inPlace := ["internal/abi.NoEscape", "internal/bytealg.MakeNoZero", "math/bits.Add64"], apart := false, narrowed := true }
def UnclosedUptoSaid : Prop := unclosedUptoRow.holds Try.pinned (OpenSpec.upto unclosedSpec)

/-- 'missivekeep.Agreed', WHERE WHAT IT READS IS OF BULK AT MOST 1048576: true; the input reads as it did. -/
def agreedUptoRow : OpenClaim := { program := "ytclpbaokadfhhaa", sum := "f6dcda618b8daf3c499a06b714d5675fbd2448629ad1d147db9af5e1533a404f", func := "missive/missivekeep.Agreed", spec := "agreed", inPlace := ["math/bits.Add64"], recurses := true, apart := false, narrowed := true }
def AgreedUptoSaid : Prop := agreedUptoRow.holds Try.pinned (OpenSpec.upto agreedSpec)

/-- 'missivekeep.Weak', WHERE WHAT IT READS IS OF BULK AT MOST 1048576: true; the input reads as it did. -/
def weakUptoRow : OpenClaim := { program := "ytclpbaokadfhhaa", sum := "f6dcda618b8daf3c499a06b714d5675fbd2448629ad1d147db9af5e1533a404f", func := "missive/missivekeep.Weak", spec := "weak", inPlace := ["math/bits.Add64"], recurses := true, apart := false, narrowed := true }
def WeakUptoSaid : Prop := weakUptoRow.holds Try.pinned (OpenSpec.upto weakSpec)

end Rows
end Go.Proofs.Ytclpbaokadfhhaa
