/-
  DERIVED. GIVEN WITH THE SEED: THE CARDS: each row of YtmajcjammmjimaaGreatDoorRows.lean that lists a variable, with what it lists TIED to the program's text (the seventh form; the later family's looks); each row that meets fmt, with fmt's text TOLD by the authors' own Lean function (tested against real Go, not proved from fmt's source: count such statements apart). THE CARD IS WHAT COUNTS. Prove the row's statement (the work); the ties are given (YtmajcjammmjimaaGreatDoorTie.lean); close each card by the builder's one call (the guide's Derived/Test/ToyasCard.lean, 'card_holds'). Laid BY PROGRAM, IN A SANDBOX (cutbox-door.mjs). By AI agents, Wed Nov 11 2026. No macro, syntax, notation, axiom, sorry.
-/
import Derived.Test.YtmajcjammmjimaaGreatDoorRows
import GoSem.ClaimSeven
namespace Go.Proofs.YtmajcjammmjimaaGreatDoor
namespace Rows

/-- THE TIED CARD OF 'redactkeep.Cleared'. -/
def clearedCard : Claim7 := { stood := { row := clearedRow, standIns := [], harness := (true, "fbc61be730d1f222e8e7cf34a02df0c74da8e039ae3a4bc415c301f87a50fb76"), looks := true }, kinds := [], alts := [], laidByText := true, laidKinds := [.data, .data, .data, .data, .data, .data, .data, .pinned], laidTests := true, laidLooks := .later }
def ClearedCardSaid : Prop := Claim7.holds Tryz.pinned (.plain (OpenSpec.ofChange clearedSpec)) clearedCard

/-- THE SECOND FORM's CARD OF 'redactkeep.Cleared'. -/
def clearedUptoCard : Claim7 := { stood := { row := clearedUptoRow, standIns := [], harness := (true, "fbc61be730d1f222e8e7cf34a02df0c74da8e039ae3a4bc415c301f87a50fb76"), looks := true }, kinds := [], alts := [], laidByText := true, laidKinds := [.data, .data, .data, .data, .data, .data, .data, .pinned], laidTests := true, laidLooks := .later }
def ClearedUptoCardSaid : Prop := Claim7.holds Tryz.pinned (.plain (OpenSpec.upto clearedSpec)) clearedUptoCard
end Rows
end Go.Proofs.YtmajcjammmjimaaGreatDoor
