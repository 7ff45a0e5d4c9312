/-
  DERIVED. GIVEN WITH THE SEED: THE CARDS: each row of YtpifimohecagoaaGreatDoorRows.lean that lists a variable, with what it lists TIED to the program's text (the seventh form; the later family's looks); each row that meets fmt, with fmt's text TOLD by the authors' own Lean function (tested against real Go, not proved from fmt's source: count such statements apart). THE CARD IS WHAT COUNTS. Prove the row's statement (the work); the ties are given (YtpifimohecagoaaGreatDoorTie.lean); close each card by the builder's one call (the guide's Derived/Test/ToyasCard.lean, 'card_holds'). Laid BY PROGRAM, IN A SANDBOX (cutbox-door.mjs). By AI agents, Wed Nov 11 2026. No macro, syntax, notation, axiom, sorry.
-/
import Derived.Test.YtpifimohecagoaaGreatDoorRows
import GoSem.ClaimSeven
namespace Go.Proofs.YtpifimohecagoaaGreatDoor
namespace Rows

/-- THE TIED CARD OF 'redactkeep.Padded'. -/
def paddedCard : Claim7 := { stood := { row := paddedRow, standIns := [], harness := (true, "3bda7b66c38395f21ce4e9d5f8f803aa57d173627519585969e5604ecba382fc"), looks := true }, kinds := [], alts := [], laidByText := true, laidKinds := [.data, .data, .data, .data, .data, .data, .data, .pinned], laidTests := true, laidLooks := .later }
def PaddedCardSaid : Prop := Claim7.holds Tryz.pinned (.plain (OpenSpec.ofChange paddedSpec)) paddedCard

/-- THE SECOND FORM's CARD OF 'redactkeep.Padded'. -/
def paddedUptoCard : Claim7 := { stood := { row := paddedUptoRow, standIns := [], harness := (true, "3bda7b66c38395f21ce4e9d5f8f803aa57d173627519585969e5604ecba382fc"), looks := true }, kinds := [], alts := [], laidByText := true, laidKinds := [.data, .data, .data, .data, .data, .data, .data, .pinned], laidTests := true, laidLooks := .later }
def PaddedUptoCardSaid : Prop := Claim7.holds Tryz.pinned (.plain (OpenSpec.upto paddedSpec)) paddedUptoCard
end Rows
end Go.Proofs.YtpifimohecagoaaGreatDoor
