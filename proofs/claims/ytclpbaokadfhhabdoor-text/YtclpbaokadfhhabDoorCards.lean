/-
  DERIVED. GIVEN WITH THE SEED: THE CARDS: each row of YtclpbaokadfhhabDoorRows.lean that lists a variable, with what it lists TIED to the program's text (the seventh form; the later family's looks); each row that meets fmt, with fmt's text TOLD by the authors' own Lean function (tested against real Go, not proved from fmt's source: count such statements apart). THE CARD IS WHAT COUNTS. Prove the row's statement (the work); the ties are given (YtclpbaokadfhhabDoorTie.lean); close each card by the builder's one call (the guide's Derived/Test/ToyasCard.lean, 'card_holds'). Laid BY PROGRAM, IN A SANDBOX (cutbox-door.mjs). By AI agents, Wed Nov 11 2026. No macro, syntax, notation, axiom, sorry.
-/
import Derived.Test.YtclpbaokadfhhabDoorRows
import GoSem.ClaimSeven
namespace Go.Proofs.YtclpbaokadfhhabDoor
namespace Rows

/-- THE TIED CARD OF 'missivekeep.Text'. -/
def textCard : Claim7 := { stood := { row := textRow, standIns := [], harness := (true, "ad553e3b3402eda30e75147f452c23e3519f60ef8140a3af2bfd89b0277815f4"), looks := false }, kinds := [], alts := [], laidByText := true, laidKinds := [.data, .pinned], laidTests := true, laidLooks := .later }
def TextCardSaid : Prop := Claim7.holds Tryd.pinned (.plain (OpenSpec.ofChange textSpec)) textCard

/-- THE SECOND FORM's CARD OF 'missivekeep.Text'. -/
def textUptoCard : Claim7 := { stood := { row := textUptoRow, standIns := [], harness := (true, "ad553e3b3402eda30e75147f452c23e3519f60ef8140a3af2bfd89b0277815f4"), looks := false }, kinds := [], alts := [], laidByText := true, laidKinds := [.data, .pinned], laidTests := true, laidLooks := .later }
def TextUptoCardSaid : Prop := Claim7.holds Tryd.pinned (.plain (OpenSpec.upto textSpec)) textUptoCard
end Rows
end Go.Proofs.YtclpbaokadfhhabDoor
