/-
  DERIVED. GIVEN WITH THE SEED: THE CARDS: each row of YtclpbaokadfhhaaDoorRows.lean that lists a variable, with what it lists TIED to the program's text (the seventh form; the later family's looks); each row that meets fmt, with fmt's text TOLD by the authors' own Lean function (tested against real Go, not proved from fmt's source: count such statements apart). THE CARD IS WHAT COUNTS. Prove the row's statement (the work); the ties are given (YtclpbaokadfhhaaDoorTie.lean); close each card by the builder's one call (the guide's Derived/Test/ToyasCard.lean, 'card_holds'). Laid BY PROGRAM, IN A SANDBOX (cutbox-door.mjs). By AI agents, Wed Nov 11 2026. No macro, syntax, notation, axiom, sorry.
-/
import Derived.Test.YtclpbaokadfhhaaDoorRows
import GoSem.ClaimSeven
namespace Go.Proofs.YtclpbaokadfhhaaDoor
namespace Rows

/-- THE TIED CARD OF 'missivekeep.Derived'. -/
def derivedCard : Claim7 := { stood := { row := derivedRow, standIns := [], harness := (true, "5f18b89afaf999128204530abd84223b34c9f78edb52f65c38cec616b6d647f1"), looks := false }, kinds := [], alts := [], laidByText := true, laidKinds := [.data], laidTests := true, laidLooks := .later }
def DerivedCardSaid : Prop := Claim7.holds Tryd.pinned (.plain (OpenSpec.ofChange derivedSpec)) derivedCard

/-- THE TIED CARD OF 'missivekeep.Signed'. -/
def signedCard : Claim7 := { stood := { row := signedRow, standIns := [], harness := (true, "5f18b89afaf999128204530abd84223b34c9f78edb52f65c38cec616b6d647f1"), looks := false }, kinds := [], alts := [], laidByText := true, laidKinds := [.data], laidTests := true, laidLooks := .later }
def SignedCardSaid : Prop := Claim7.holds Tryd.pinned (.plain (OpenSpec.ofChange signedSpec)) signedCard

/-- THE TIED CARD OF 'missivekeep.Known'. -/
def knownCard : Claim7 := { stood := { row := knownRow, standIns := [], harness := (true, "5f18b89afaf999128204530abd84223b34c9f78edb52f65c38cec616b6d647f1"), looks := false }, kinds := [], alts := [], laidByText := true, laidKinds := [.data], laidTests := true, laidLooks := .later }
def KnownCardSaid : Prop := Claim7.holds Tryd.pinned (.plain (OpenSpec.ofChange knownSpec)) knownCard

/-- THE SECOND FORM's CARD OF 'missivekeep.Derived'. -/
def derivedUptoCard : Claim7 := { stood := { row := derivedUptoRow, standIns := [], harness := (true, "5f18b89afaf999128204530abd84223b34c9f78edb52f65c38cec616b6d647f1"), looks := false }, kinds := [], alts := [], laidByText := true, laidKinds := [.data], laidTests := true, laidLooks := .later }
def DerivedUptoCardSaid : Prop := Claim7.holds Tryd.pinned (.plain (OpenSpec.upto derivedSpec)) derivedUptoCard

/-- THE SECOND FORM's CARD OF 'missivekeep.Signed'. -/
def signedUptoCard : Claim7 := { stood := { row := signedUptoRow, standIns := [], harness := (true, "5f18b89afaf999128204530abd84223b34c9f78edb52f65c38cec616b6d647f1"), looks := false }, kinds := [], alts := [], laidByText := true, laidKinds := [.data], laidTests := true, laidLooks := .later }
def SignedUptoCardSaid : Prop := Claim7.holds Tryd.pinned (.plain (OpenSpec.upto signedSpec)) signedUptoCard

/-- THE SECOND FORM's CARD OF 'missivekeep.Known'. -/
def knownUptoCard : Claim7 := { stood := { row := knownUptoRow, standIns := [], harness := (true, "5f18b89afaf999128204530abd84223b34c9f78edb52f65c38cec616b6d647f1"), looks := false }, kinds := [], alts := [], laidByText := true, laidKinds := [.data], laidTests := true, laidLooks := .later }
def KnownUptoCardSaid : Prop := Claim7.holds Tryd.pinned (.plain (OpenSpec.upto knownSpec)) knownUptoCard
end Rows
end Go.Proofs.YtclpbaokadfhhaaDoor
