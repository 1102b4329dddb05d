/-
  DERIVED. GIVEN WITH THE SEED: THE CARDS: each row of YtociofbcfcfjkaaDoorRows.lean that lists a variable, with what it lists TIED to the program's text (the seventh form; the later family's looks); each row that meets fmt, with fmt's text TOLD by the authors' own Lean function (tested against real Go, not proved from fmt's source: count such statements apart). THE CARD IS WHAT COUNTS. Prove the row's statement (the work); the ties are given (YtociofbcfcfjkaaDoorTie.lean); close each card by the builder's one call (the guide's Derived/Test/ToyasCard.lean, 'card_holds'). Laid BY PROGRAM, IN A SANDBOX (cutbox-door.mjs). By AI agents, Wed Nov 11 2026. No macro, syntax, notation, axiom, sorry.
-/
import Derived.Test.YtociofbcfcfjkaaDoorRows
import GoSem.ClaimSeven
namespace Go.Proofs.YtociofbcfcfjkaaDoor
namespace Rows

/-- THE TIED CARD OF 'missivekeep.Derived'. -/
def derivedCard : Claim7 := { stood := { row := derivedRow, standIns := [], harness := (true, "da5690bbd0f2694c6a18fc491b5952c3707b34e0bbe7397d487a2b8de58a9402"), looks := false }, kinds := [], alts := [], laidByText := true, laidKinds := [.data], laidTests := true, laidLooks := .later }
def DerivedCardSaid : Prop := Claim7.holds Tryd.pinned (.plain (OpenSpec.ofChange derivedSpec)) derivedCard

/-- THE SECOND FORM's CARD OF 'missivekeep.Derived'. -/
def derivedUptoCard : Claim7 := { stood := { row := derivedUptoRow, standIns := [], harness := (true, "da5690bbd0f2694c6a18fc491b5952c3707b34e0bbe7397d487a2b8de58a9402"), looks := false }, kinds := [], alts := [], laidByText := true, laidKinds := [.data], laidTests := true, laidLooks := .later }
def DerivedUptoCardSaid : Prop := Claim7.holds Tryd.pinned (.plain (OpenSpec.upto derivedSpec)) derivedUptoCard
end Rows
end Go.Proofs.YtociofbcfcfjkaaDoor
