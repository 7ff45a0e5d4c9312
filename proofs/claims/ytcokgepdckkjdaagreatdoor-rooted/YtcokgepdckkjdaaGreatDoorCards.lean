/-
  DERIVED. GIVEN WITH THE SEED: THE CARDS: each row of YtcokgepdckkjdaaGreatDoorRows.lean that lists a variable, with what it lists TIED to the program's text (the seventh form; the later family's looks); each row that meets fmt, with fmt's text TOLD by the authors' own Lean function (tested against real Go, not proved from fmt's source: count such statements apart). THE CARD IS WHAT COUNTS. Prove the row's statement (the work); the ties are given (YtcokgepdckkjdaaGreatDoorTie.lean); close each card by the builder's one call (the guide's Derived/Test/ToyasCard.lean, 'card_holds'). Laid BY PROGRAM, IN A SANDBOX (cutbox-door.mjs). By AI agents, Wed Nov 11 2026. No macro, syntax, notation, axiom, sorry.
-/
import Derived.Test.YtcokgepdckkjdaaGreatDoorRows
import GoSem.ClaimSeven
namespace Go.Proofs.YtcokgepdckkjdaaGreatDoor
namespace Rows

/-- THE TIED CARD OF 'redactkeep.Rooted'. -/
def rootedCard : Claim7 := { stood := { row := rootedRow, standIns := [], harness := (true, "5dc43aa698bf4b7d302cc42ec35191edb43902789f9165503a45e81ec7dfb0a2"), looks := true }, kinds := [], alts := [], laidByText := true, laidKinds := [.data, .data, .data, .data, .data, .data, .data, .pinned], laidTests := true, laidLooks := .later }
def RootedCardSaid : Prop := Claim7.holds Tryz.pinned (.plain (OpenSpec.ofChange rootedSpec)) rootedCard

/-- THE SECOND FORM's CARD OF 'redactkeep.Rooted'. -/
def rootedUptoCard : Claim7 := { stood := { row := rootedUptoRow, standIns := [], harness := (true, "5dc43aa698bf4b7d302cc42ec35191edb43902789f9165503a45e81ec7dfb0a2"), looks := true }, kinds := [], alts := [], laidByText := true, laidKinds := [.data, .data, .data, .data, .data, .data, .data, .pinned], laidTests := true, laidLooks := .later }
def RootedUptoCardSaid : Prop := Claim7.holds Tryz.pinned (.plain (OpenSpec.upto rootedSpec)) rootedUptoCard
end Rows
end Go.Proofs.YtcokgepdckkjdaaGreatDoor
