/-
  DERIVED. GIVEN WITH THE SEED: THE CARDS: each row of YtllcbnfmihfaaaaGreatDoorRows.lean that lists a variable, with what it lists TIED to the program's text (the seventh form; the later family's looks); each row that meets fmt, with fmt's text TOLD by the authors' own Lean function (tested against real Go, not proved from fmt's source: count such statements apart). THE CARD IS WHAT COUNTS. Prove the row's statement (the work); the ties are given (YtllcbnfmihfaaaaGreatDoorTie.lean); close each card by the builder's one call (the guide's Derived/Test/ToyasCard.lean, 'card_holds'). Laid BY PROGRAM, IN A SANDBOX (cutbox-door.mjs). By AI agents, Wed Nov 11 2026. No macro, syntax, notation, axiom, sorry.
-/
import Derived.Test.YtllcbnfmihfaaaaGreatDoorRows
import GoSem.ClaimSeven
namespace Go.Proofs.YtllcbnfmihfaaaaGreatDoor
namespace Rows

/-- THE TIED CARD OF 'redactlaw.Checks'. -/
def checksCard : Claim7 := { stood := { row := checksRow, standIns := [], harness := (true, "bd4ad5eb5542a8f4b5da0ba12bfd10cd16d56c0bd4f806db79af686f924402bd"), looks := true }, kinds := [], alts := [], laidByText := true, laidKinds := [.data, .data, .data, .data, .data, .data, .data, .pinned], laidTests := true, laidLooks := .later }
def ChecksCardSaid : Prop := Claim7.holds Tryz.pinned (.plain (OpenSpec.ofChange checksSpec)) checksCard

/-- THE TIED CARD OF 'redactlaw.Orders'. -/
def ordersCard : Claim7 := { stood := { row := ordersRow, standIns := [], harness := (true, "bd4ad5eb5542a8f4b5da0ba12bfd10cd16d56c0bd4f806db79af686f924402bd"), looks := true }, kinds := [], alts := [], laidByText := true, laidKinds := [.data, .data, .data, .data, .data, .data, .data, .pinned], laidTests := true, laidLooks := .later }
def OrdersCardSaid : Prop := Claim7.holds Tryz.pinned (.plain (OpenSpec.ofChange ordersSpec)) ordersCard

/-- THE TIED CARD OF 'redactlaw.Transcodes'. -/
def transcodesCard : Claim7 := { stood := { row := transcodesRow, standIns := [], harness := (true, "bd4ad5eb5542a8f4b5da0ba12bfd10cd16d56c0bd4f806db79af686f924402bd"), looks := true }, kinds := [], alts := [], laidByText := true, laidKinds := [.data, .data, .data, .data, .data, .data, .data, .pinned], laidTests := true, laidLooks := .later }
def TranscodesCardSaid : Prop := Claim7.holds Tryz.pinned (.plain (OpenSpec.ofChange transcodesSpec)) transcodesCard

/-- THE TIED CARD OF 'redactlaw.Unpads'. -/
def unpadsCard : Claim7 := { stood := { row := unpadsRow, standIns := [], harness := (true, "bd4ad5eb5542a8f4b5da0ba12bfd10cd16d56c0bd4f806db79af686f924402bd"), looks := true }, kinds := [], alts := [], laidByText := true, laidKinds := [.data, .data, .data, .data, .data, .data, .data, .pinned], laidTests := true, laidLooks := .later }
def UnpadsCardSaid : Prop := Claim7.holds Tryz.pinned (.plain (OpenSpec.ofChange unpadsSpec)) unpadsCard

/-- THE TIED CARD OF 'redactkeep.Numbers'. -/
def numbersCard : Claim7 := { stood := { row := numbersRow, standIns := [], harness := (true, "bd4ad5eb5542a8f4b5da0ba12bfd10cd16d56c0bd4f806db79af686f924402bd"), looks := true }, kinds := [], alts := [], laidByText := true, laidKinds := [.data, .data, .data, .data, .data], laidTests := true, laidLooks := .later }
def NumbersCardSaid : Prop := Claim7.holds Tryz.pinned (.plain (OpenSpec.ofChange numbersSpec)) numbersCard

/-- THE TIED CARD OF 'redactkeep.Texts'. -/
def textsCard : Claim7 := { stood := { row := textsRow, standIns := [], harness := (true, "bd4ad5eb5542a8f4b5da0ba12bfd10cd16d56c0bd4f806db79af686f924402bd"), looks := true }, kinds := [], alts := [], laidByText := true, laidKinds := [.data, .data, .data, .data, .data], laidTests := true, laidLooks := .later }
def TextsCardSaid : Prop := Claim7.holds Tryz.pinned (.plain (OpenSpec.ofChange textsSpec)) textsCard

/-- THE TIED CARD OF 'redactkeep.Round'. -/
def roundCard : Claim7 := { stood := { row := roundRow, standIns := [], harness := (true, "bd4ad5eb5542a8f4b5da0ba12bfd10cd16d56c0bd4f806db79af686f924402bd"), looks := true }, kinds := [], alts := [], laidByText := true, laidKinds := [.data, .data, .data, .data, .data], laidTests := true, laidLooks := .later }
def RoundCardSaid : Prop := Claim7.holds Tryz.pinned (.plain (OpenSpec.ofChange roundSpec)) roundCard

/-- THE TIED CARD OF 'redactlaw.Labels'. -/
def labelsCard : Claim7 := { stood := { row := labelsRow, standIns := [], harness := (true, "bd4ad5eb5542a8f4b5da0ba12bfd10cd16d56c0bd4f806db79af686f924402bd"), looks := true }, kinds := [], alts := [], laidByText := true, laidKinds := [.data, .data, .data, .data, .data, .data, .data, .pinned], laidTests := true, laidLooks := .later }
def LabelsCardSaid : Prop := Claim7.holds Tryz.pinned (.plain (OpenSpec.ofChange labelsSpec)) labelsCard

/-- THE TIED CARD OF 'redactlaw.Gates'. -/
def gatesCard : Claim7 := { stood := { row := gatesRow, standIns := [], harness := (true, "bd4ad5eb5542a8f4b5da0ba12bfd10cd16d56c0bd4f806db79af686f924402bd"), looks := true }, kinds := [], alts := [], laidByText := true, laidKinds := [.data, .data, .data, .data, .data, .data, .data, .pinned], laidTests := true, laidLooks := .later }
def GatesCardSaid : Prop := Claim7.holds Tryz.pinned (.plain (OpenSpec.ofChange gatesSpec)) gatesCard

/-- THE TIED CARD OF 'redactkeep.Hidden'. -/
def hiddenCard : Claim7 := { stood := { row := hiddenRow, standIns := [], harness := (true, "bd4ad5eb5542a8f4b5da0ba12bfd10cd16d56c0bd4f806db79af686f924402bd"), looks := true }, kinds := [], alts := [], laidByText := true, laidKinds := [.data, .data, .data, .data, .data, .data, .data, .pinned], laidTests := true, laidLooks := .later }
def HiddenCardSaid : Prop := Claim7.holds Tryz.pinned (.plain (OpenSpec.ofChange hiddenSpec)) hiddenCard

/-- THE TIED CARD OF 'redactkeep.Tagged'. -/
def taggedCard : Claim7 := { stood := { row := taggedRow, standIns := [], harness := (true, "bd4ad5eb5542a8f4b5da0ba12bfd10cd16d56c0bd4f806db79af686f924402bd"), looks := true }, kinds := [], alts := [], laidByText := true, laidKinds := [.data, .data, .data, .data, .data, .data, .data, .pinned], laidTests := true, laidLooks := .later }
def TaggedCardSaid : Prop := Claim7.holds Tryz.pinned (.plain (OpenSpec.ofChange taggedSpec)) taggedCard

/-- THE TIED CARD OF 'redactkeep.Cut'. -/
def cutCard : Claim7 := { stood := { row := cutRow, standIns := [], harness := (true, "bd4ad5eb5542a8f4b5da0ba12bfd10cd16d56c0bd4f806db79af686f924402bd"), looks := true }, kinds := [], alts := [], laidByText := true, laidKinds := [.data, .data, .data, .data, .data, .data, .data, .pinned], laidTests := true, laidLooks := .later }
def CutCardSaid : Prop := Claim7.holds Tryz.pinned (.plain (OpenSpec.ofChange cutSpec)) cutCard

/-- THE SECOND FORM's CARD OF 'redactlaw.Checks'. -/
def checksUptoCard : Claim7 := { stood := { row := checksUptoRow, standIns := [], harness := (true, "bd4ad5eb5542a8f4b5da0ba12bfd10cd16d56c0bd4f806db79af686f924402bd"), looks := true }, kinds := [], alts := [], laidByText := true, laidKinds := [.data, .data, .data, .data, .data, .data, .data, .pinned], laidTests := true, laidLooks := .later }
def ChecksUptoCardSaid : Prop := Claim7.holds Tryz.pinned (.plain (OpenSpec.upto checksSpec)) checksUptoCard

/-- THE SECOND FORM's CARD OF 'redactlaw.Orders'. -/
def ordersUptoCard : Claim7 := { stood := { row := ordersUptoRow, standIns := [], harness := (true, "bd4ad5eb5542a8f4b5da0ba12bfd10cd16d56c0bd4f806db79af686f924402bd"), looks := true }, kinds := [], alts := [], laidByText := true, laidKinds := [.data, .data, .data, .data, .data, .data, .data, .pinned], laidTests := true, laidLooks := .later }
def OrdersUptoCardSaid : Prop := Claim7.holds Tryz.pinned (.plain (OpenSpec.upto ordersSpec)) ordersUptoCard

/-- THE SECOND FORM's CARD OF 'redactlaw.Transcodes'. -/
def transcodesUptoCard : Claim7 := { stood := { row := transcodesUptoRow, standIns := [], harness := (true, "bd4ad5eb5542a8f4b5da0ba12bfd10cd16d56c0bd4f806db79af686f924402bd"), looks := true }, kinds := [], alts := [], laidByText := true, laidKinds := [.data, .data, .data, .data, .data, .data, .data, .pinned], laidTests := true, laidLooks := .later }
def TranscodesUptoCardSaid : Prop := Claim7.holds Tryz.pinned (.plain (OpenSpec.upto transcodesSpec)) transcodesUptoCard

/-- THE SECOND FORM's CARD OF 'redactlaw.Unpads'. -/
def unpadsUptoCard : Claim7 := { stood := { row := unpadsUptoRow, standIns := [], harness := (true, "bd4ad5eb5542a8f4b5da0ba12bfd10cd16d56c0bd4f806db79af686f924402bd"), looks := true }, kinds := [], alts := [], laidByText := true, laidKinds := [.data, .data, .data, .data, .data, .data, .data, .pinned], laidTests := true, laidLooks := .later }
def UnpadsUptoCardSaid : Prop := Claim7.holds Tryz.pinned (.plain (OpenSpec.upto unpadsSpec)) unpadsUptoCard

/-- THE SECOND FORM's CARD OF 'redactkeep.Numbers'. -/
def numbersUptoCard : Claim7 := { stood := { row := numbersUptoRow, standIns := [], harness := (true, "bd4ad5eb5542a8f4b5da0ba12bfd10cd16d56c0bd4f806db79af686f924402bd"), looks := true }, kinds := [], alts := [], laidByText := true, laidKinds := [.data, .data, .data, .data, .data], laidTests := true, laidLooks := .later }
def NumbersUptoCardSaid : Prop := Claim7.holds Tryz.pinned (.plain (OpenSpec.upto numbersSpec)) numbersUptoCard

/-- THE SECOND FORM's CARD OF 'redactkeep.Texts'. -/
def textsUptoCard : Claim7 := { stood := { row := textsUptoRow, standIns := [], harness := (true, "bd4ad5eb5542a8f4b5da0ba12bfd10cd16d56c0bd4f806db79af686f924402bd"), looks := true }, kinds := [], alts := [], laidByText := true, laidKinds := [.data, .data, .data, .data, .data], laidTests := true, laidLooks := .later }
def TextsUptoCardSaid : Prop := Claim7.holds Tryz.pinned (.plain (OpenSpec.upto textsSpec)) textsUptoCard

/-- THE SECOND FORM's CARD OF 'redactkeep.Round'. -/
def roundUptoCard : Claim7 := { stood := { row := roundUptoRow, standIns := [], harness := (true, "bd4ad5eb5542a8f4b5da0ba12bfd10cd16d56c0bd4f806db79af686f924402bd"), looks := true }, kinds := [], alts := [], laidByText := true, laidKinds := [.data, .data, .data, .data, .data], laidTests := true, laidLooks := .later }
def RoundUptoCardSaid : Prop := Claim7.holds Tryz.pinned (.plain (OpenSpec.upto roundSpec)) roundUptoCard

/-- THE SECOND FORM's CARD OF 'redactlaw.Labels'. -/
def labelsUptoCard : Claim7 := { stood := { row := labelsUptoRow, standIns := [], harness := (true, "bd4ad5eb5542a8f4b5da0ba12bfd10cd16d56c0bd4f806db79af686f924402bd"), looks := true }, kinds := [], alts := [], laidByText := true, laidKinds := [.data, .data, .data, .data, .data, .data, .data, .pinned], laidTests := true, laidLooks := .later }
def LabelsUptoCardSaid : Prop := Claim7.holds Tryz.pinned (.plain (OpenSpec.upto labelsSpec)) labelsUptoCard

/-- THE SECOND FORM's CARD OF 'redactlaw.Gates'. -/
def gatesUptoCard : Claim7 := { stood := { row := gatesUptoRow, standIns := [], harness := (true, "bd4ad5eb5542a8f4b5da0ba12bfd10cd16d56c0bd4f806db79af686f924402bd"), looks := true }, kinds := [], alts := [], laidByText := true, laidKinds := [.data, .data, .data, .data, .data, .data, .data, .pinned], laidTests := true, laidLooks := .later }
def GatesUptoCardSaid : Prop := Claim7.holds Tryz.pinned (.plain (OpenSpec.upto gatesSpec)) gatesUptoCard

/-- THE SECOND FORM's CARD OF 'redactkeep.Hidden'. -/
def hiddenUptoCard : Claim7 := { stood := { row := hiddenUptoRow, standIns := [], harness := (true, "bd4ad5eb5542a8f4b5da0ba12bfd10cd16d56c0bd4f806db79af686f924402bd"), looks := true }, kinds := [], alts := [], laidByText := true, laidKinds := [.data, .data, .data, .data, .data, .data, .data, .pinned], laidTests := true, laidLooks := .later }
def HiddenUptoCardSaid : Prop := Claim7.holds Tryz.pinned (.plain (OpenSpec.upto hiddenSpec)) hiddenUptoCard

/-- THE SECOND FORM's CARD OF 'redactkeep.Tagged'. -/
def taggedUptoCard : Claim7 := { stood := { row := taggedUptoRow, standIns := [], harness := (true, "bd4ad5eb5542a8f4b5da0ba12bfd10cd16d56c0bd4f806db79af686f924402bd"), looks := true }, kinds := [], alts := [], laidByText := true, laidKinds := [.data, .data, .data, .data, .data, .data, .data, .pinned], laidTests := true, laidLooks := .later }
def TaggedUptoCardSaid : Prop := Claim7.holds Tryz.pinned (.plain (OpenSpec.upto taggedSpec)) taggedUptoCard

/-- THE SECOND FORM's CARD OF 'redactkeep.Cut'. -/
def cutUptoCard : Claim7 := { stood := { row := cutUptoRow, standIns := [], harness := (true, "bd4ad5eb5542a8f4b5da0ba12bfd10cd16d56c0bd4f806db79af686f924402bd"), looks := true }, kinds := [], alts := [], laidByText := true, laidKinds := [.data, .data, .data, .data, .data, .data, .data, .pinned], laidTests := true, laidLooks := .later }
def CutUptoCardSaid : Prop := Claim7.holds Tryz.pinned (.plain (OpenSpec.upto cutSpec)) cutUptoCard
end Rows
end Go.Proofs.YtllcbnfmihfaaaaGreatDoor
