/-
  DERIVED. GIVEN WITH THE SEED: THE CARDS: each row of YtnlnjkggkbbdhaaGreatDoorRows.lean that lists a variable, with what it lists TIED to the program's text (the seventh form; the later family's looks); each row that meets fmt, with fmt's text TOLD by the authors' own Lean function (tested against real Go, not proved from fmt's source: count such statements apart). THE CARD IS WHAT COUNTS. Prove the row's statement (the work); the ties are given (YtnlnjkggkbbdhaaGreatDoorTie.lean); close each card by the builder's one call (the guide's Derived/Test/ToyasCard.lean, 'card_holds'). Laid BY PROGRAM, IN A SANDBOX (cutbox-door.mjs). By AI agents, Wed Nov 11 2026. No macro, syntax, notation, axiom, sorry.
-/
import Derived.Test.YtnlnjkggkbbdhaaGreatDoorRows
import GoSem.ClaimSeven
namespace Go.Proofs.YtnlnjkggkbbdhaaGreatDoor
namespace Rows

/-- THE TIED CARD OF 'redactkeep.Tagged'. -/
def taggedCard : Claim7 := { stood := { row := taggedRow, standIns := [], harness := (true, "53d524963f486d6783f0a01c8d135a73ed2bd15d808cc65145a31ae76b1ac48d"), looks := true }, kinds := [], alts := [], laidByText := true, laidKinds := [.data, .data, .data, .data, .data, .data, .data, .pinned], laidTests := true, laidLooks := .later }
def TaggedCardSaid : Prop := Claim7.holds Tryz.pinned (.plain (OpenSpec.ofChange taggedSpec)) taggedCard

/-- THE SECOND FORM's CARD OF 'redactkeep.Tagged'. -/
def taggedUptoCard : Claim7 := { stood := { row := taggedUptoRow, standIns := [], harness := (true, "53d524963f486d6783f0a01c8d135a73ed2bd15d808cc65145a31ae76b1ac48d"), looks := true }, kinds := [], alts := [], laidByText := true, laidKinds := [.data, .data, .data, .data, .data, .data, .data, .pinned], laidTests := true, laidLooks := .later }
def TaggedUptoCardSaid : Prop := Claim7.holds Tryz.pinned (.plain (OpenSpec.upto taggedSpec)) taggedUptoCard
end Rows
end Go.Proofs.YtnlnjkggkbbdhaaGreatDoor
