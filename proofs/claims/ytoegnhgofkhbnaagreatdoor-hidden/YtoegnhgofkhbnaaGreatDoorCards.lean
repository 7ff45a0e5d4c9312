/-
  DERIVED. GIVEN WITH THE SEED: THE CARDS: each row of YtoegnhgofkhbnaaGreatDoorRows.lean that lists a variable, with what it lists TIED to the program's text (the seventh form; the later family's looks); each row that meets fmt, with fmt's text TOLD by the authors' own Lean function (tested against real Go, not proved from fmt's source: count such statements apart). THE CARD IS WHAT COUNTS. Prove the row's statement (the work); the ties are given (YtoegnhgofkhbnaaGreatDoorTie.lean); close each card by the builder's one call (the guide's Derived/Test/ToyasCard.lean, 'card_holds'). Laid BY PROGRAM, IN A SANDBOX (cutbox-door.mjs). By AI agents, Wed Nov 11 2026. No macro, syntax, notation, axiom, sorry.
-/
import Derived.Test.YtoegnhgofkhbnaaGreatDoorRows
import GoSem.ClaimSeven
namespace Go.Proofs.YtoegnhgofkhbnaaGreatDoor
namespace Rows

/-- THE TIED CARD OF 'redactkeep.Hidden'. -/
def hiddenCard : Claim7 := { stood := { row := hiddenRow, standIns := [], harness := (true, "589b538cd4e28740ddec38425bd6c456a109836a4ff47e4d1c6d10e8e25cee40"), looks := true }, kinds := [], alts := [], laidByText := true, laidKinds := [.data, .data, .data, .data, .data, .data, .data, .pinned], laidTests := true, laidLooks := .later }
def HiddenCardSaid : Prop := Claim7.holds Tryz.pinned (.plain (OpenSpec.ofChange hiddenSpec)) hiddenCard

/-- THE SECOND FORM's CARD OF 'redactkeep.Hidden'. -/
def hiddenUptoCard : Claim7 := { stood := { row := hiddenUptoRow, standIns := [], harness := (true, "589b538cd4e28740ddec38425bd6c456a109836a4ff47e4d1c6d10e8e25cee40"), looks := true }, kinds := [], alts := [], laidByText := true, laidKinds := [.data, .data, .data, .data, .data, .data, .data, .pinned], laidTests := true, laidLooks := .later }
def HiddenUptoCardSaid : Prop := Claim7.holds Tryz.pinned (.plain (OpenSpec.upto hiddenSpec)) hiddenUptoCard
end Rows
end Go.Proofs.YtoegnhgofkhbnaaGreatDoor
