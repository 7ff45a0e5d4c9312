/-
  DERIVED. GIVEN WITH THE SEED: THE CARDS: each row of YtihfjkjbfaneeaaGreatDoorRows.lean that lists a variable, with what it lists TIED to the program's text (the seventh form; the later family's looks); each row that meets fmt, with fmt's text TOLD by the authors' own Lean function (tested against real Go, not proved from fmt's source: count such statements apart). THE CARD IS WHAT COUNTS. Prove the row's statement (the work); the ties are given (YtihfjkjbfaneeaaGreatDoorTie.lean); close each card by the builder's one call (the guide's Derived/Test/ToyasCard.lean, 'card_holds'). Laid BY PROGRAM, IN A SANDBOX (cutbox-door.mjs). By AI agents, Wed Nov 11 2026. No macro, syntax, notation, axiom, sorry.
-/
import Derived.Test.YtihfjkjbfaneeaaGreatDoorRows
import GoSem.ClaimSeven
namespace Go.Proofs.YtihfjkjbfaneeaaGreatDoor
namespace Rows

/-- THE TIED CARD OF 'redactlaw.Gates'. -/
def gatesCard : Claim7 := { stood := { row := gatesRow, standIns := [], harness := (true, "fe9c1401195725985cd6daafe38722cacde487e2112d2f8c3febb59fa9529944"), looks := true }, kinds := [], alts := [], laidByText := true, laidKinds := [.data, .data, .data, .data, .data, .data, .data, .pinned], laidTests := true, laidLooks := .later }
def GatesCardSaid : Prop := Claim7.holds Tryz.pinned (.plain (OpenSpec.ofChange gatesSpec)) gatesCard

/-- THE SECOND FORM's CARD OF 'redactlaw.Gates'. -/
def gatesUptoCard : Claim7 := { stood := { row := gatesUptoRow, standIns := [], harness := (true, "fe9c1401195725985cd6daafe38722cacde487e2112d2f8c3febb59fa9529944"), looks := true }, kinds := [], alts := [], laidByText := true, laidKinds := [.data, .data, .data, .data, .data, .data, .data, .pinned], laidTests := true, laidLooks := .later }
def GatesUptoCardSaid : Prop := Claim7.holds Tryz.pinned (.plain (OpenSpec.upto gatesSpec)) gatesUptoCard
end Rows
end Go.Proofs.YtihfjkjbfaneeaaGreatDoor
