import Derived.Test.YtllcbnfmihfaaaaGreatDoorCards
import Derived.Test.YtllcbnfmihfaaaaGreatDoorTie
import Derived.Test.YtllcbnfmihfaaaaGreatDoorLst
import Derived.Carry
import Derived.WalkKit
import Derived.ProofKit
import Derived.OpenShut
import Derived.Deep.DeepHandedRow
import Derived.Lib.LaidTab
namespace Go.Proofs.YtllcbnfmihfaaaaGreatDoor
open Go.ChangeShapes Go.WideShapes Go.ChangeAt Go.RowKit Go.Lib

theorem Tryz.own : ownKnob Tryz.prog.godebug = none := by kernel_rfl
theorem Tryz.laidOut : laidOutB Tryz.prog = true := by kernel_rfl

/-- What a datum's cells are. -/
def flatN : Nat → DataW Unit → List Value
  | 0, _ => []
  | _ + 1, .lit (.int k z) => [.int k z]
  | _ + 1, .lit (.string b) => [.string ⟨b.toArray⟩]
  | n + 1, .agg ds => ds.flatMap (flatN n)
  | _ + 1, _ => []
def putObj' (h : Array Obj) (g : Nat) (cs : Array Value) : Array Obj := h.modify g fun
  | .cells _ t frozen => .cells cs t frozen
  | o => o
/-- A WORLD FOR THE WITNESS: the settled one, the listed variables holding what they are said to hold. -/
def laidW (w0 : World) : World :=
  let h0 := putObj' w0.heap 7 (flatN 5 Rows.laid_math_bits_deBruijn32tab).toArray
  let h1 := putObj' h0 8 (flatN 5 Rows.laid_math_bits_deBruijn64tab).toArray
  let h2 := putObj' h1 6 (flatN 5 Rows.laid_internal_strconv_uint64pow10).toArray
  let h3 := putObj' h2 5 (flatN 5 Rows.laid_unicode_utf8_acceptRanges).toArray
  let h4 := putObj' h3 0 (flatN 5 Rows.laid_redact_reading_cborSorts).toArray
  let h5 := putObj' h4 1 (flatN 5 Rows.laid_redact_reading_packHeads).toArray
  let h6 := putObj' h5 2 (flatN 5 Rows.laid_redact_policy_signs).toArray
  let h7 := putObj' h6 4 (flatN 5 Rows.laid_unicode_utf8_first).toArray
  { w0 with heap := h7 }
theorem laid_met (os : Os) : laidMet Tryz.prog Rows.checksRow.laid ((laidW (World.holding Tryz.prog os ⟨#[], #[], []⟩)).forCall (fun _ _ => 0) ⟨#[], #[.slice none 0 0, .slice none 0 0], []⟩).memory :=
  laidMet_of_run' 8 (by kernel_rfl) (by kernel_rfl)

end Go.Proofs.YtllcbnfmihfaaaaGreatDoor
