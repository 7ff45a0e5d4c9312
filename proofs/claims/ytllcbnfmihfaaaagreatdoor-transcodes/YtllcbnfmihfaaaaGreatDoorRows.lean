/-
  NARROWER THAN 'FOR EVERY INPUT', by the rows' own cells (each row's printed sentence says how): Checks: laid · Orders: laid · Transcodes: laid · Unpads: laid · Numbers: laid · Texts: laid · Round: laid · Labels: laid · Gates: laid · Hidden: laid · Tagged: laid · Cut: laid.
  DERIVED. THE GIVEN ROWS OF THIS SEAT. 12 by the template 'for every input the law returns true; each argument reads behind the call as it read before'; 0 by the template 'total and deterministic' (their statements: YtllcbnfmihfaaaaGreatDoorTotals.lean).
  GIVEN WITH THE SEED: the statements are not yours to turn. If you find one false, say at which input.
  Laid BY PROGRAM, IN A SANDBOX (cutbox-rows.mjs): the forced cells as the released guide's own fill.sh prints them over the translation a65d84dea2643647… (all of the seat's roots in one cut). By AI agents, Wed Nov 11 2026. No macro, syntax, notation, axiom, sorry.
-/
import Derived.Test.YtllcbnfmihfaaaaGreatDoorChecked
import GoSem.PinnedTables
import GoSem.Claim
import GoSem.ClaimJoined
import GoSem.ClaimMapViews
import Derived.JoinedTies
import Derived.KernelRfl
namespace Go.Proofs.YtllcbnfmihfaaaaGreatDoor
/- THE CELL 'sum', in the pinned program and in every row, IS THE sha256 OF THE DUMP (.gsa) THAT YtllcbnfmihfaaaaGreatDoorProg.lean LOADS. Nothing in Lean hashes anything: it is a label: what it is worth is what the hold of that sum in a sandbox is worth. -/
noncomputable def Tryz.pinned : Pinned := { name := "ytllcbnfmihfaaaagreatdoor", sum := "a65d84dea26436472912827370b557d57b06ab2d7698ce8e1576d8611f0a22dc", checked := Tryz.checked }
namespace Rows
def none {H : Type} : Left H := { results := [], args := [] }

/- WHAT THE LISTED PACKAGE-LEVEL VARIABLES READ AS WHEN THE CALL BEGINS. Each datum BY PROGRAM (the guide's laid-datum.mjs) off the statement by which the dump's own 'gosem.cut.vars' lays the variable. In a bare row this is a premise. The card (YtllcbnfmihfaaaaGreatDoorCards.lean) ties it to the program's text. -/
def laid_math_bits_deBruijn32tab {H : Type} : DataW H := .agg [.lit (.int .u8 0), .lit (.int .u8 1), .lit (.int .u8 28), .lit (.int .u8 2), .lit (.int .u8 29), .lit (.int .u8 14), .lit (.int .u8 24), .lit (.int .u8 3), .lit (.int .u8 30), .lit (.int .u8 22), .lit (.int .u8 20), .lit (.int .u8 15), .lit (.int .u8 25), .lit (.int .u8 17), .lit (.int .u8 4), .lit (.int .u8 8), .lit (.int .u8 31), .lit (.int .u8 27), .lit (.int .u8 13), .lit (.int .u8 23), .lit (.int .u8 21), .lit (.int .u8 19), .lit (.int .u8 16), .lit (.int .u8 7), .lit (.int .u8 26), .lit (.int .u8 12), .lit (.int .u8 18), .lit (.int .u8 6), .lit (.int .u8 11), .lit (.int .u8 5), .lit (.int .u8 10), .lit (.int .u8 9)]
def laid_math_bits_deBruijn64tab {H : Type} : DataW H := .agg [.lit (.int .u8 0), .lit (.int .u8 1), .lit (.int .u8 56), .lit (.int .u8 2), .lit (.int .u8 57), .lit (.int .u8 49), .lit (.int .u8 28), .lit (.int .u8 3), .lit (.int .u8 61), .lit (.int .u8 58), .lit (.int .u8 42), .lit (.int .u8 50), .lit (.int .u8 38), .lit (.int .u8 29), .lit (.int .u8 17), .lit (.int .u8 4), .lit (.int .u8 62), .lit (.int .u8 47), .lit (.int .u8 59), .lit (.int .u8 36), .lit (.int .u8 45), .lit (.int .u8 43), .lit (.int .u8 51), .lit (.int .u8 22), .lit (.int .u8 53), .lit (.int .u8 39), .lit (.int .u8 33), .lit (.int .u8 30), .lit (.int .u8 24), .lit (.int .u8 18), .lit (.int .u8 12), .lit (.int .u8 5), .lit (.int .u8 63), .lit (.int .u8 55), .lit (.int .u8 48), .lit (.int .u8 27), .lit (.int .u8 60), .lit (.int .u8 41), .lit (.int .u8 37), .lit (.int .u8 16), .lit (.int .u8 46), .lit (.int .u8 35), .lit (.int .u8 44), .lit (.int .u8 21), .lit (.int .u8 52), .lit (.int .u8 32), .lit (.int .u8 23), .lit (.int .u8 11), .lit (.int .u8 54), .lit (.int .u8 26), .lit (.int .u8 40), .lit (.int .u8 15), .lit (.int .u8 34), .lit (.int .u8 20), .lit (.int .u8 31), .lit (.int .u8 10), .lit (.int .u8 25), .lit (.int .u8 14), .lit (.int .u8 19), .lit (.int .u8 9), .lit (.int .u8 13), .lit (.int .u8 8), .lit (.int .u8 7), .lit (.int .u8 6)]
def laid_internal_strconv_uint64pow10 {H : Type} : DataW H := .agg [.lit (.int .u64 1), .lit (.int .u64 10), .lit (.int .u64 100), .lit (.int .u64 1000), .lit (.int .u64 10000), .lit (.int .u64 100000), .lit (.int .u64 1000000), .lit (.int .u64 10000000), .lit (.int .u64 100000000), .lit (.int .u64 1000000000), .lit (.int .u64 10000000000), .lit (.int .u64 100000000000), .lit (.int .u64 1000000000000), .lit (.int .u64 10000000000000), .lit (.int .u64 100000000000000), .lit (.int .u64 1000000000000000), .lit (.int .u64 10000000000000000), .lit (.int .u64 100000000000000000), .lit (.int .u64 1000000000000000000), .lit (.int .u64 10000000000000000000)]
def laid_unicode_utf8_acceptRanges {H : Type} : DataW H := .agg [.agg [.lit (.int .u8 128), .lit (.int .u8 191)], .agg [.lit (.int .u8 160), .lit (.int .u8 191)], .agg [.lit (.int .u8 128), .lit (.int .u8 159)], .agg [.lit (.int .u8 144), .lit (.int .u8 191)], .agg [.lit (.int .u8 128), .lit (.int .u8 143)], .agg [.lit (.int .u8 0), .lit (.int .u8 0)], .agg [.lit (.int .u8 0), .lit (.int .u8 0)], .agg [.lit (.int .u8 0), .lit (.int .u8 0)], .agg [.lit (.int .u8 0), .lit (.int .u8 0)], .agg [.lit (.int .u8 0), .lit (.int .u8 0)], .agg [.lit (.int .u8 0), .lit (.int .u8 0)], .agg [.lit (.int .u8 0), .lit (.int .u8 0)], .agg [.lit (.int .u8 0), .lit (.int .u8 0)], .agg [.lit (.int .u8 0), .lit (.int .u8 0)], .agg [.lit (.int .u8 0), .lit (.int .u8 0)], .agg [.lit (.int .u8 0), .lit (.int .u8 0)]]
def laid_redact_reading_cborSorts {H : Type} : DataW H := .agg [.lit (.int .i64 4), .lit (.int .i64 6), .lit (.int .i64 7), .lit (.int .i64 8), .lit (.int .i64 9), .lit (.int .i64 10), .lit (.int .i64 0), .lit (.int .i64 0)]
def laid_redact_reading_packHeads {H : Type} : DataW H := .agg [.agg [.lit (.int .i64 1), .lit (.int .i64 0), .lit (.int .u64 0)], .agg [.lit (.int .i64 0), .lit (.int .i64 0), .lit (.int .u64 0)], .agg [.lit (.int .i64 2), .lit (.int .i64 0), .lit (.int .u64 0)], .agg [.lit (.int .i64 3), .lit (.int .i64 0), .lit (.int .u64 0)], .agg [.lit (.int .i64 7), .lit (.int .i64 1), .lit (.int .u64 0)], .agg [.lit (.int .i64 7), .lit (.int .i64 2), .lit (.int .u64 0)], .agg [.lit (.int .i64 7), .lit (.int .i64 4), .lit (.int .u64 0)], .agg [.lit (.int .i64 0), .lit (.int .i64 0), .lit (.int .u64 0)], .agg [.lit (.int .i64 0), .lit (.int .i64 0), .lit (.int .u64 0)], .agg [.lit (.int .i64 0), .lit (.int .i64 0), .lit (.int .u64 0)], .agg [.lit (.int .i64 0), .lit (.int .i64 0), .lit (.int .u64 0)], .agg [.lit (.int .i64 0), .lit (.int .i64 0), .lit (.int .u64 0)], .agg [.lit (.int .i64 4), .lit (.int .i64 1), .lit (.int .u64 0)], .agg [.lit (.int .i64 4), .lit (.int .i64 2), .lit (.int .u64 0)], .agg [.lit (.int .i64 4), .lit (.int .i64 4), .lit (.int .u64 0)], .agg [.lit (.int .i64 4), .lit (.int .i64 8), .lit (.int .u64 0)], .agg [.lit (.int .i64 5), .lit (.int .i64 1), .lit (.int .u64 0)], .agg [.lit (.int .i64 5), .lit (.int .i64 2), .lit (.int .u64 0)], .agg [.lit (.int .i64 5), .lit (.int .i64 4), .lit (.int .u64 0)], .agg [.lit (.int .i64 5), .lit (.int .i64 8), .lit (.int .u64 0)], .agg [.lit (.int .i64 0), .lit (.int .i64 0), .lit (.int .u64 0)], .agg [.lit (.int .i64 0), .lit (.int .i64 0), .lit (.int .u64 0)], .agg [.lit (.int .i64 0), .lit (.int .i64 0), .lit (.int .u64 0)], .agg [.lit (.int .i64 0), .lit (.int .i64 0), .lit (.int .u64 0)], .agg [.lit (.int .i64 0), .lit (.int .i64 0), .lit (.int .u64 0)], .agg [.lit (.int .i64 8), .lit (.int .i64 1), .lit (.int .u64 0)], .agg [.lit (.int .i64 8), .lit (.int .i64 2), .lit (.int .u64 0)], .agg [.lit (.int .i64 8), .lit (.int .i64 4), .lit (.int .u64 0)], .agg [.lit (.int .i64 9), .lit (.int .i64 2), .lit (.int .u64 0)], .agg [.lit (.int .i64 9), .lit (.int .i64 4), .lit (.int .u64 0)], .agg [.lit (.int .i64 10), .lit (.int .i64 2), .lit (.int .u64 0)], .agg [.lit (.int .i64 10), .lit (.int .i64 4), .lit (.int .u64 0)]]
def laid_redact_policy_signs {H : Type} : DataW H := .agg [.agg [.lit (.string [42]), .lit (.int .i64 0)], .agg [.lit (.string [42, 42]), .lit (.int .i64 1)], .agg [.lit (.string [91, 93]), .lit (.int .i64 2)]]
/-- One of Go's own tables, pinned by name: the form's constant. -/
def laid_unicode_utf8_first : DataW Unit := Go.Pinned.utf8First

/-- 'redactlaw.Checks': WHATEVER THE INPUT: true; the input reads as it did. -/
def checksSpec : ChangeSpec := { name := "checks", fn := fun _ => fun
  | [d1, d2] => { results := [.lit (.bool true)], args := [d1, d2] }
  | _ => none }
def checksRow : OpenClaim := { program := "ytllcbnfmihfaaaagreatdoor", sum := "a65d84dea26436472912827370b557d57b06ab2d7698ce8e1576d8611f0a22dc", func := "redact/redactlaw.Checks", spec := "checks", inPlace := ["internal/bytealg.IndexByteString", "internal/bytealg.IndexString", "internal/abi.NoEscape", "internal/bytealg.MakeNoZero"], unfollowed := true, recurses := true, named := ["redact/reading.cborSorts", "redact/reading.packHeads", "internal/strconv.uint64pow10", "math/bits.deBruijn32tab", "math/bits.deBruijn64tab", "unicode/utf8.first", "unicode/utf8.acceptRanges", "internal/bytealg.MaxLen", "redact/policy.signs"], plainKeys := false, apart := false, laid := [("math/bits.deBruijn32tab", laid_math_bits_deBruijn32tab), ("math/bits.deBruijn64tab", laid_math_bits_deBruijn64tab), ("internal/strconv.uint64pow10", laid_internal_strconv_uint64pow10), ("unicode/utf8.acceptRanges", laid_unicode_utf8_acceptRanges), ("redact/reading.cborSorts", laid_redact_reading_cborSorts), ("redact/reading.packHeads", laid_redact_reading_packHeads), ("redact/policy.signs", laid_redact_policy_signs), ("unicode/utf8.first", laid_unicode_utf8_first)] }
def ChecksSaid : Prop := checksRow.holds Tryz.pinned (OpenSpec.ofChange checksSpec)

/-- ITS FALSE NEIGHBOUR: 'it returns false'. Refute it at one input. -/
def checksWrong : ChangeSpec := { name := "checks", fn := fun _ => fun
  | [d1, d2] => { results := [.lit (.bool false)], args := [d1, d2] }
  | _ => none }
def ChecksWrongFalsely : Prop := checksRow.holds Tryz.pinned (OpenSpec.ofChange checksWrong)

/-- 'redactlaw.Orders': WHATEVER THE INPUT: true; the input reads as it did. -/
def ordersSpec : ChangeSpec := { name := "orders", fn := fun _ => fun
  | [d1, d2] => { results := [.lit (.bool true)], args := [d1, d2] }
  | _ => none }
def ordersRow : OpenClaim := { program := "ytllcbnfmihfaaaagreatdoor", sum := "a65d84dea26436472912827370b557d57b06ab2d7698ce8e1576d8611f0a22dc", func := "redact/redactlaw.Orders", spec := "orders", inPlace := ["internal/bytealg.IndexByteString", "internal/bytealg.IndexString", "internal/abi.NoEscape", "internal/bytealg.MakeNoZero"], unfollowed := true, recurses := true, named := ["redact/reading.cborSorts", "redact/reading.packHeads", "internal/strconv.uint64pow10", "math/bits.deBruijn32tab", "math/bits.deBruijn64tab", "unicode/utf8.first", "unicode/utf8.acceptRanges", "internal/bytealg.MaxLen", "redact/policy.signs"], plainKeys := false, apart := false, laid := [("math/bits.deBruijn32tab", laid_math_bits_deBruijn32tab), ("math/bits.deBruijn64tab", laid_math_bits_deBruijn64tab), ("internal/strconv.uint64pow10", laid_internal_strconv_uint64pow10), ("unicode/utf8.acceptRanges", laid_unicode_utf8_acceptRanges), ("redact/reading.cborSorts", laid_redact_reading_cborSorts), ("redact/reading.packHeads", laid_redact_reading_packHeads), ("redact/policy.signs", laid_redact_policy_signs), ("unicode/utf8.first", laid_unicode_utf8_first)] }
def OrdersSaid : Prop := ordersRow.holds Tryz.pinned (OpenSpec.ofChange ordersSpec)

/-- ITS FALSE NEIGHBOUR: 'it returns false'. Refute it at one input. -/
def ordersWrong : ChangeSpec := { name := "orders", fn := fun _ => fun
  | [d1, d2] => { results := [.lit (.bool false)], args := [d1, d2] }
  | _ => none }
def OrdersWrongFalsely : Prop := ordersRow.holds Tryz.pinned (OpenSpec.ofChange ordersWrong)

/-- 'redactlaw.Transcodes': WHATEVER THE INPUT: true; the input reads as it did. -/
def transcodesSpec : ChangeSpec := { name := "transcodes", fn := fun _ => fun
  | [d1, d2] => { results := [.lit (.bool true)], args := [d1, d2] }
  | _ => none }
def transcodesRow : OpenClaim := { program := "ytllcbnfmihfaaaagreatdoor", sum := "a65d84dea26436472912827370b557d57b06ab2d7698ce8e1576d8611f0a22dc", func := "redact/redactlaw.Transcodes", spec := "transcodes", inPlace := ["internal/bytealg.IndexByteString", "internal/bytealg.IndexString", "internal/abi.NoEscape", "internal/bytealg.MakeNoZero"], unfollowed := true, recurses := true, named := ["redact/reading.cborSorts", "redact/reading.packHeads", "internal/strconv.uint64pow10", "math/bits.deBruijn32tab", "math/bits.deBruijn64tab", "unicode/utf8.first", "unicode/utf8.acceptRanges", "internal/bytealg.MaxLen", "redact/policy.signs"], plainKeys := false, apart := false, laid := [("math/bits.deBruijn32tab", laid_math_bits_deBruijn32tab), ("math/bits.deBruijn64tab", laid_math_bits_deBruijn64tab), ("internal/strconv.uint64pow10", laid_internal_strconv_uint64pow10), ("unicode/utf8.acceptRanges", laid_unicode_utf8_acceptRanges), ("redact/reading.cborSorts", laid_redact_reading_cborSorts), ("redact/reading.packHeads", laid_redact_reading_packHeads), ("redact/policy.signs", laid_redact_policy_signs), ("unicode/utf8.first", laid_unicode_utf8_first)] }
def TranscodesSaid : Prop := transcodesRow.holds Tryz.pinned (OpenSpec.ofChange transcodesSpec)

/-- ITS FALSE NEIGHBOUR: 'it returns false'. Refute it at one input. -/
def transcodesWrong : ChangeSpec := { name := "transcodes", fn := fun _ => fun
  | [d1, d2] => { results := [.lit (.bool false)], args := [d1, d2] }
  | _ => none }
def TranscodesWrongFalsely : Prop := transcodesRow.holds Tryz.pinned (OpenSpec.ofChange transcodesWrong)

/-- 'redactlaw.Unpads': WHATEVER THE INPUT: true; the input reads as it did. -/
def unpadsSpec : ChangeSpec := { name := "unpads", fn := fun _ => fun
  | [d1, d2] => { results := [.lit (.bool true)], args := [d1, d2] }
  | _ => none }
def unpadsRow : OpenClaim := { program := "ytllcbnfmihfaaaagreatdoor", sum := "a65d84dea26436472912827370b557d57b06ab2d7698ce8e1576d8611f0a22dc", func := "redact/redactlaw.Unpads", spec := "unpads", inPlace := ["internal/bytealg.IndexByteString", "internal/bytealg.IndexString", "internal/abi.NoEscape", "internal/bytealg.MakeNoZero"], unfollowed := true, recurses := true, named := ["redact/reading.cborSorts", "redact/reading.packHeads", "internal/strconv.uint64pow10", "math/bits.deBruijn32tab", "math/bits.deBruijn64tab", "unicode/utf8.first", "unicode/utf8.acceptRanges", "internal/bytealg.MaxLen", "redact/policy.signs"], plainKeys := false, apart := false, laid := [("math/bits.deBruijn32tab", laid_math_bits_deBruijn32tab), ("math/bits.deBruijn64tab", laid_math_bits_deBruijn64tab), ("internal/strconv.uint64pow10", laid_internal_strconv_uint64pow10), ("unicode/utf8.acceptRanges", laid_unicode_utf8_acceptRanges), ("redact/reading.cborSorts", laid_redact_reading_cborSorts), ("redact/reading.packHeads", laid_redact_reading_packHeads), ("redact/policy.signs", laid_redact_policy_signs), ("unicode/utf8.first", laid_unicode_utf8_first)] }
def UnpadsSaid : Prop := unpadsRow.holds Tryz.pinned (OpenSpec.ofChange unpadsSpec)

/-- ITS FALSE NEIGHBOUR: 'it returns false'. Refute it at one input. -/
def unpadsWrong : ChangeSpec := { name := "unpads", fn := fun _ => fun
  | [d1, d2] => { results := [.lit (.bool false)], args := [d1, d2] }
  | _ => none }
def UnpadsWrongFalsely : Prop := unpadsRow.holds Tryz.pinned (OpenSpec.ofChange unpadsWrong)

/-- 'redactkeep.Numbers': WHATEVER THE INPUT: true; the input reads as it did. -/
def numbersSpec : ChangeSpec := { name := "numbers", fn := fun _ => fun
  | [d] => { results := [.lit (.bool true)], args := [d] }
  | _ => none }
def numbersRow : OpenClaim := { program := "ytllcbnfmihfaaaagreatdoor", sum := "a65d84dea26436472912827370b557d57b06ab2d7698ce8e1576d8611f0a22dc", func := "redact/redactkeep.Numbers", spec := "numbers", unfollowed := true, recurses := true, named := ["redact/reading.cborSorts", "redact/reading.packHeads", "internal/strconv.uint64pow10", "math/bits.deBruijn32tab", "math/bits.deBruijn64tab"], plainKeys := false, apart := false, laid := [("math/bits.deBruijn32tab", laid_math_bits_deBruijn32tab), ("math/bits.deBruijn64tab", laid_math_bits_deBruijn64tab), ("internal/strconv.uint64pow10", laid_internal_strconv_uint64pow10), ("redact/reading.cborSorts", laid_redact_reading_cborSorts), ("redact/reading.packHeads", laid_redact_reading_packHeads)] }
def NumbersSaid : Prop := numbersRow.holds Tryz.pinned (OpenSpec.ofChange numbersSpec)

/-- ITS FALSE NEIGHBOUR: 'it returns false'. Refute it at one input. -/
def numbersWrong : ChangeSpec := { name := "numbers", fn := fun _ => fun
  | [d] => { results := [.lit (.bool false)], args := [d] }
  | _ => none }
def NumbersWrongFalsely : Prop := numbersRow.holds Tryz.pinned (OpenSpec.ofChange numbersWrong)

/-- 'redactkeep.Texts': WHATEVER THE INPUT: true; the input reads as it did. -/
def textsSpec : ChangeSpec := { name := "texts", fn := fun _ => fun
  | [d1, d2] => { results := [.lit (.bool true)], args := [d1, d2] }
  | _ => none }
def textsRow : OpenClaim := { program := "ytllcbnfmihfaaaagreatdoor", sum := "a65d84dea26436472912827370b557d57b06ab2d7698ce8e1576d8611f0a22dc", func := "redact/redactkeep.Texts", spec := "texts", unfollowed := true, recurses := true, named := ["redact/reading.cborSorts", "redact/reading.packHeads", "internal/strconv.uint64pow10", "math/bits.deBruijn32tab", "math/bits.deBruijn64tab"], plainKeys := false, apart := false, laid := [("math/bits.deBruijn32tab", laid_math_bits_deBruijn32tab), ("math/bits.deBruijn64tab", laid_math_bits_deBruijn64tab), ("internal/strconv.uint64pow10", laid_internal_strconv_uint64pow10), ("redact/reading.cborSorts", laid_redact_reading_cborSorts), ("redact/reading.packHeads", laid_redact_reading_packHeads)] }
def TextsSaid : Prop := textsRow.holds Tryz.pinned (OpenSpec.ofChange textsSpec)

/-- ITS FALSE NEIGHBOUR: 'it returns false'. Refute it at one input. -/
def textsWrong : ChangeSpec := { name := "texts", fn := fun _ => fun
  | [d1, d2] => { results := [.lit (.bool false)], args := [d1, d2] }
  | _ => none }
def TextsWrongFalsely : Prop := textsRow.holds Tryz.pinned (OpenSpec.ofChange textsWrong)

/-- 'redactkeep.Round': WHATEVER THE INPUT: true; the input reads as it did. -/
def roundSpec : ChangeSpec := { name := "round", fn := fun _ => fun
  | [d1, d2, d3, d4, d5] => { results := [.lit (.bool true)], args := [d1, d2, d3, d4, d5] }
  | _ => none }
def roundRow : OpenClaim := { program := "ytllcbnfmihfaaaagreatdoor", sum := "a65d84dea26436472912827370b557d57b06ab2d7698ce8e1576d8611f0a22dc", func := "redact/redactkeep.Round", spec := "round", unfollowed := true, recurses := true, named := ["redact/reading.cborSorts", "redact/reading.packHeads", "internal/strconv.uint64pow10", "math/bits.deBruijn32tab", "math/bits.deBruijn64tab"], plainKeys := false, apart := false, laid := [("math/bits.deBruijn32tab", laid_math_bits_deBruijn32tab), ("math/bits.deBruijn64tab", laid_math_bits_deBruijn64tab), ("internal/strconv.uint64pow10", laid_internal_strconv_uint64pow10), ("redact/reading.cborSorts", laid_redact_reading_cborSorts), ("redact/reading.packHeads", laid_redact_reading_packHeads)] }
def RoundSaid : Prop := roundRow.holds Tryz.pinned (OpenSpec.ofChange roundSpec)

/-- ITS FALSE NEIGHBOUR: 'it returns false'. Refute it at one input. -/
def roundWrong : ChangeSpec := { name := "round", fn := fun _ => fun
  | [d1, d2, d3, d4, d5] => { results := [.lit (.bool false)], args := [d1, d2, d3, d4, d5] }
  | _ => none }
def RoundWrongFalsely : Prop := roundRow.holds Tryz.pinned (OpenSpec.ofChange roundWrong)

/-- 'redactlaw.Labels': WHATEVER THE INPUT: true; the input reads as it did. -/
def labelsSpec : ChangeSpec := { name := "labels", fn := fun _ => fun
  | [d1, d2] => { results := [.lit (.bool true)], args := [d1, d2] }
  | _ => none }
def labelsRow : OpenClaim := { program := "ytllcbnfmihfaaaagreatdoor", sum := "a65d84dea26436472912827370b557d57b06ab2d7698ce8e1576d8611f0a22dc", func := "redact/redactlaw.Labels", spec := "labels", inPlace := ["internal/bytealg.IndexByteString", "internal/bytealg.IndexString", "internal/abi.NoEscape", "internal/bytealg.MakeNoZero"], unfollowed := true, recurses := true, named := ["redact/reading.cborSorts", "redact/reading.packHeads", "internal/strconv.uint64pow10", "math/bits.deBruijn32tab", "math/bits.deBruijn64tab", "unicode/utf8.first", "unicode/utf8.acceptRanges", "internal/bytealg.MaxLen", "redact/policy.signs"], plainKeys := false, apart := false, laid := [("math/bits.deBruijn32tab", laid_math_bits_deBruijn32tab), ("math/bits.deBruijn64tab", laid_math_bits_deBruijn64tab), ("internal/strconv.uint64pow10", laid_internal_strconv_uint64pow10), ("unicode/utf8.acceptRanges", laid_unicode_utf8_acceptRanges), ("redact/reading.cborSorts", laid_redact_reading_cborSorts), ("redact/reading.packHeads", laid_redact_reading_packHeads), ("redact/policy.signs", laid_redact_policy_signs), ("unicode/utf8.first", laid_unicode_utf8_first)] }
def LabelsSaid : Prop := labelsRow.holds Tryz.pinned (OpenSpec.ofChange labelsSpec)

/-- ITS FALSE NEIGHBOUR: 'it returns false'. Refute it at one input. -/
def labelsWrong : ChangeSpec := { name := "labels", fn := fun _ => fun
  | [d1, d2] => { results := [.lit (.bool false)], args := [d1, d2] }
  | _ => none }
def LabelsWrongFalsely : Prop := labelsRow.holds Tryz.pinned (OpenSpec.ofChange labelsWrong)

/-- 'redactlaw.Gates': WHATEVER THE INPUT: true; the input reads as it did. -/
def gatesSpec : ChangeSpec := { name := "gates", fn := fun _ => fun
  | [d1, d2] => { results := [.lit (.bool true)], args := [d1, d2] }
  | _ => none }
def gatesRow : OpenClaim := { program := "ytllcbnfmihfaaaagreatdoor", sum := "a65d84dea26436472912827370b557d57b06ab2d7698ce8e1576d8611f0a22dc", func := "redact/redactlaw.Gates", spec := "gates", inPlace := ["internal/bytealg.IndexByteString", "internal/bytealg.IndexString", "internal/abi.NoEscape", "internal/bytealg.MakeNoZero"], unfollowed := true, recurses := true, named := ["redact/reading.cborSorts", "redact/reading.packHeads", "internal/strconv.uint64pow10", "math/bits.deBruijn32tab", "math/bits.deBruijn64tab", "unicode/utf8.first", "unicode/utf8.acceptRanges", "internal/bytealg.MaxLen", "redact/policy.signs"], plainKeys := false, apart := false, laid := [("math/bits.deBruijn32tab", laid_math_bits_deBruijn32tab), ("math/bits.deBruijn64tab", laid_math_bits_deBruijn64tab), ("internal/strconv.uint64pow10", laid_internal_strconv_uint64pow10), ("unicode/utf8.acceptRanges", laid_unicode_utf8_acceptRanges), ("redact/reading.cborSorts", laid_redact_reading_cborSorts), ("redact/reading.packHeads", laid_redact_reading_packHeads), ("redact/policy.signs", laid_redact_policy_signs), ("unicode/utf8.first", laid_unicode_utf8_first)] }
def GatesSaid : Prop := gatesRow.holds Tryz.pinned (OpenSpec.ofChange gatesSpec)

/-- ITS FALSE NEIGHBOUR: 'it returns false'. Refute it at one input. -/
def gatesWrong : ChangeSpec := { name := "gates", fn := fun _ => fun
  | [d1, d2] => { results := [.lit (.bool false)], args := [d1, d2] }
  | _ => none }
def GatesWrongFalsely : Prop := gatesRow.holds Tryz.pinned (OpenSpec.ofChange gatesWrong)

/-- 'redactkeep.Hidden': WHATEVER THE INPUT: true; the input reads as it did. -/
def hiddenSpec : ChangeSpec := { name := "hidden", fn := fun _ => fun
  | [d1, d2, d3, d4, d5, d6, d7] => { results := [.lit (.bool true)], args := [d1, d2, d3, d4, d5, d6, d7] }
  | _ => none }
def hiddenRow : OpenClaim := { program := "ytllcbnfmihfaaaagreatdoor", sum := "a65d84dea26436472912827370b557d57b06ab2d7698ce8e1576d8611f0a22dc", func := "redact/redactkeep.Hidden", spec := "hidden", inPlace := ["internal/bytealg.IndexByteString", "internal/bytealg.IndexString", "internal/abi.NoEscape", "internal/bytealg.MakeNoZero"], unfollowed := true, recurses := true, named := ["unicode/utf8.first", "unicode/utf8.acceptRanges", "internal/bytealg.MaxLen", "redact/policy.signs", "redact/reading.cborSorts", "redact/reading.packHeads", "internal/strconv.uint64pow10", "math/bits.deBruijn32tab", "math/bits.deBruijn64tab"], plainKeys := false, apart := false, laid := [("math/bits.deBruijn32tab", laid_math_bits_deBruijn32tab), ("math/bits.deBruijn64tab", laid_math_bits_deBruijn64tab), ("internal/strconv.uint64pow10", laid_internal_strconv_uint64pow10), ("unicode/utf8.acceptRanges", laid_unicode_utf8_acceptRanges), ("redact/reading.cborSorts", laid_redact_reading_cborSorts), ("redact/reading.packHeads", laid_redact_reading_packHeads), ("redact/policy.signs", laid_redact_policy_signs), ("unicode/utf8.first", laid_unicode_utf8_first)] }
def HiddenSaid : Prop := hiddenRow.holds Tryz.pinned (OpenSpec.ofChange hiddenSpec)

/-- ITS FALSE NEIGHBOUR: 'it returns false'. Refute it at one input. -/
def hiddenWrong : ChangeSpec := { name := "hidden", fn := fun _ => fun
  | [d1, d2, d3, d4, d5, d6, d7] => { results := [.lit (.bool false)], args := [d1, d2, d3, d4, d5, d6, d7] }
  | _ => none }
def HiddenWrongFalsely : Prop := hiddenRow.holds Tryz.pinned (OpenSpec.ofChange hiddenWrong)

/-- 'redactkeep.Tagged': WHATEVER THE INPUT: true; the input reads as it did. -/
def taggedSpec : ChangeSpec := { name := "tagged", fn := fun _ => fun
  | [d1, d2, d3] => { results := [.lit (.bool true)], args := [d1, d2, d3] }
  | _ => none }
def taggedRow : OpenClaim := { program := "ytllcbnfmihfaaaagreatdoor", sum := "a65d84dea26436472912827370b557d57b06ab2d7698ce8e1576d8611f0a22dc", func := "redact/redactkeep.Tagged", spec := "tagged", inPlace := ["internal/bytealg.IndexByteString", "internal/bytealg.IndexString", "internal/abi.NoEscape", "internal/bytealg.MakeNoZero"], unfollowed := true, recurses := true, named := ["unicode/utf8.first", "unicode/utf8.acceptRanges", "internal/bytealg.MaxLen", "redact/policy.signs", "redact/reading.cborSorts", "redact/reading.packHeads", "internal/strconv.uint64pow10", "math/bits.deBruijn32tab", "math/bits.deBruijn64tab"], plainKeys := false, apart := false, laid := [("math/bits.deBruijn32tab", laid_math_bits_deBruijn32tab), ("math/bits.deBruijn64tab", laid_math_bits_deBruijn64tab), ("internal/strconv.uint64pow10", laid_internal_strconv_uint64pow10), ("unicode/utf8.acceptRanges", laid_unicode_utf8_acceptRanges), ("redact/reading.cborSorts", laid_redact_reading_cborSorts), ("redact/reading.packHeads", laid_redact_reading_packHeads), ("redact/policy.signs", laid_redact_policy_signs), ("unicode/utf8.first", laid_unicode_utf8_first)] }
def TaggedSaid : Prop := taggedRow.holds Tryz.pinned (OpenSpec.ofChange taggedSpec)

/-- ITS FALSE NEIGHBOUR: 'it returns false'. Refute it at one input. -/
def taggedWrong : ChangeSpec := { name := "tagged", fn := fun _ => fun
  | [d1, d2, d3] => { results := [.lit (.bool false)], args := [d1, d2, d3] }
  | _ => none }
def TaggedWrongFalsely : Prop := taggedRow.holds Tryz.pinned (OpenSpec.ofChange taggedWrong)

/-- 'redactkeep.Cut': WHATEVER THE INPUT: true; the input reads as it did. -/
def cutSpec : ChangeSpec := { name := "cut", fn := fun _ => fun
  | [d1, d2, d3] => { results := [.lit (.bool true)], args := [d1, d2, d3] }
  | _ => none }
def cutRow : OpenClaim := { program := "ytllcbnfmihfaaaagreatdoor", sum := "a65d84dea26436472912827370b557d57b06ab2d7698ce8e1576d8611f0a22dc", func := "redact/redactkeep.Cut", spec := "cut", inPlace := ["internal/bytealg.IndexByteString", "internal/bytealg.IndexString", "internal/abi.NoEscape", "internal/bytealg.MakeNoZero"], unfollowed := true, recurses := true, named := ["unicode/utf8.first", "unicode/utf8.acceptRanges", "internal/bytealg.MaxLen", "redact/policy.signs", "redact/reading.cborSorts", "redact/reading.packHeads", "internal/strconv.uint64pow10", "math/bits.deBruijn32tab", "math/bits.deBruijn64tab"], plainKeys := false, apart := false, laid := [("math/bits.deBruijn32tab", laid_math_bits_deBruijn32tab), ("math/bits.deBruijn64tab", laid_math_bits_deBruijn64tab), ("internal/strconv.uint64pow10", laid_internal_strconv_uint64pow10), ("unicode/utf8.acceptRanges", laid_unicode_utf8_acceptRanges), ("redact/reading.cborSorts", laid_redact_reading_cborSorts), ("redact/reading.packHeads", laid_redact_reading_packHeads), ("redact/policy.signs", laid_redact_policy_signs), ("unicode/utf8.first", laid_unicode_utf8_first)] }
def CutSaid : Prop := cutRow.holds Tryz.pinned (OpenSpec.ofChange cutSpec)

/-- ITS FALSE NEIGHBOUR: 'it returns false'. Refute it at one input. -/
def cutWrong : ChangeSpec := { name := "cut", fn := fun _ => fun
  | [d1, d2, d3] => { results := [.lit (.bool false)], args := [d1, d2, d3] }
  | _ => none }
def CutWrongFalsely : Prop := cutRow.holds Tryz.pinned (OpenSpec.ofChange cutWrong)

/- THE SECOND FORM. 'bulk': how many values and letters a reading holds, each counted each time it is reached (what is shared counts as often as it is met; a slice's spare places count too). A statement '..UptoSaid' is the law's where the arguments, and the package variables that the reading takes, are together of bulk at most 1048576: NARROWER than '..Said'. Prove '..Said' where nothing that the law and all that it calls make is longer than what came in: it says more and counts as full. Else prove '..UptoSaid'. A law counts once. -/
mutual
def uptoBulk {H : Type} : DataW H → Nat
  | .lit (.string bytes) => bytes.length + 1
  | .lit _ => 1
  | .nil => 1
  | .ptr d => uptoBulk d + 1
  | .slice elems spare => uptoBulkAll elems + uptoBulkAll spare + 1
  | .agg parts => uptoBulkAll parts + 1
  | .iface _ d => uptoBulk d + 1
  | .map entries => uptoBulkEntries entries + 1
  | .held _ => 1
def uptoBulkAll {H : Type} : List (DataW H) → Nat
  | [] => 0
  | d :: r => uptoBulk d + uptoBulkAll r
def uptoBulkEntries {H : Type} : List (Lit × DataW H) → Nat
  | [] => 0
  | x :: r => uptoBulkEntry x + uptoBulkEntries r
def uptoBulkEntry {H : Type} : Lit × DataW H → Nat
  | (.string bytes, d) => bytes.length + uptoBulk d + 1
  | (_, d) => uptoBulk d + 1
 end
def uptoSmall : (H : Type) → List (DataW H) → Bool := fun _ ds => decide (uptoBulkAll ds ≤ 1048576)
def OpenSpec.upto (s : _root_.Go.ChangeSpec) : _root_.Go.OpenSpec := { _root_.Go.OpenSpec.ofChange s with cond := some uptoSmall }

/-- 'redactlaw.Checks', WHERE WHAT IT READS IS OF BULK AT MOST 1048576: true; the input reads as it did. -/
def checksUptoRow : OpenClaim := { program := "ytllcbnfmihfaaaagreatdoor", sum := "a65d84dea26436472912827370b557d57b06ab2d7698ce8e1576d8611f0a22dc", func := "redact/redactlaw.Checks", spec := "checks", inPlace := ["internal/bytealg.IndexByteString", "internal/bytealg.IndexString", "internal/abi.NoEscape", "internal/bytealg.MakeNoZero"], unfollowed := true, recurses := true, named := ["redact/reading.cborSorts", "redact/reading.packHeads", "internal/strconv.uint64pow10", "math/bits.deBruijn32tab", "math/bits.deBruijn64tab", "unicode/utf8.first", "unicode/utf8.acceptRanges", "internal/bytealg.MaxLen", "redact/policy.signs"], plainKeys := false, apart := false, laid := [("math/bits.deBruijn32tab", laid_math_bits_deBruijn32tab), ("math/bits.deBruijn64tab", laid_math_bits_deBruijn64tab), ("internal/strconv.uint64pow10", laid_internal_strconv_uint64pow10), ("unicode/utf8.acceptRanges", laid_unicode_utf8_acceptRanges), ("redact/reading.cborSorts", laid_redact_reading_cborSorts), ("redact/reading.packHeads", laid_redact_reading_packHeads), ("redact/policy.signs", laid_redact_policy_signs), ("unicode/utf8.first", laid_unicode_utf8_first)], narrowed := true }
def ChecksUptoSaid : Prop := checksUptoRow.holds Tryz.pinned (OpenSpec.upto checksSpec)

/-- 'redactlaw.Orders', WHERE WHAT IT READS IS OF BULK AT MOST 1048576: true; the input reads as it did. -/
def ordersUptoRow : OpenClaim := { program := "ytllcbnfmihfaaaagreatdoor", sum := "a65d84dea26436472912827370b557d57b06ab2d7698ce8e1576d8611f0a22dc", func := "redact/redactlaw.Orders", spec := "orders", inPlace := ["internal/bytealg.IndexByteString", "internal/bytealg.IndexString", "internal/abi.NoEscape", "internal/bytealg.MakeNoZero"], unfollowed := true, recurses := true, named := ["redact/reading.cborSorts", "redact/reading.packHeads", "internal/strconv.uint64pow10", "math/bits.deBruijn32tab", "math/bits.deBruijn64tab", "unicode/utf8.first", "unicode/utf8.acceptRanges", "internal/bytealg.MaxLen", "redact/policy.signs"], plainKeys := false, apart := false, laid := [("math/bits.deBruijn32tab", laid_math_bits_deBruijn32tab), ("math/bits.deBruijn64tab", laid_math_bits_deBruijn64tab), ("internal/strconv.uint64pow10", laid_internal_strconv_uint64pow10), ("unicode/utf8.acceptRanges", laid_unicode_utf8_acceptRanges), ("redact/reading.cborSorts", laid_redact_reading_cborSorts), ("redact/reading.packHeads", laid_redact_reading_packHeads), ("redact/policy.signs", laid_redact_policy_signs), ("unicode/utf8.first", laid_unicode_utf8_first)], narrowed := true }
def OrdersUptoSaid : Prop := ordersUptoRow.holds Tryz.pinned (OpenSpec.upto ordersSpec)

/-- 'redactlaw.Transcodes', WHERE WHAT IT READS IS OF BULK AT MOST 1048576: true; the input reads as it did. -/
def transcodesUptoRow : OpenClaim := { program := "ytllcbnfmihfaaaagreatdoor", sum := "a65d84dea26436472912827370b557d57b06ab2d7698ce8e1576d8611f0a22dc", func := "redact/redactlaw.Transcodes", spec := "transcodes", inPlace := ["internal/bytealg.IndexByteString", "internal/bytealg.IndexString", "internal/abi.NoEscape", "internal/bytealg.MakeNoZero"], unfollowed := true, recurses := true, named := ["redact/reading.cborSorts", "redact/reading.packHeads", "internal/strconv.uint64pow10", "math/bits.deBruijn32tab", "math/bits.deBruijn64tab", "unicode/utf8.first", "unicode/utf8.acceptRanges", "internal/bytealg.MaxLen", "redact/policy.signs"], plainKeys := false, apart := false, laid := [("math/bits.deBruijn32tab", laid_math_bits_deBruijn32tab), ("math/bits.deBruijn64tab", laid_math_bits_deBruijn64tab), ("internal/strconv.uint64pow10", laid_internal_strconv_uint64pow10), ("unicode/utf8.acceptRanges", laid_unicode_utf8_acceptRanges), ("redact/reading.cborSorts", laid_redact_reading_cborSorts), ("redact/reading.packHeads", laid_redact_reading_packHeads), ("redact/policy.signs", laid_redact_policy_signs), ("unicode/utf8.first", laid_unicode_utf8_first)], narrowed := true }
def TranscodesUptoSaid : Prop := transcodesUptoRow.holds Tryz.pinned (OpenSpec.upto transcodesSpec)

/-- 'redactlaw.Unpads', WHERE WHAT IT READS IS OF BULK AT MOST 1048576: true; the input reads as it did. -/
def unpadsUptoRow : OpenClaim := { program := "ytllcbnfmihfaaaagreatdoor", sum := "a65d84dea26436472912827370b557d57b06ab2d7698ce8e1576d8611f0a22dc", func := "redact/redactlaw.Unpads", spec := "unpads", inPlace := ["internal/bytealg.IndexByteString", "internal/bytealg.IndexString", "internal/abi.NoEscape", "internal/bytealg.MakeNoZero"], unfollowed := true, recurses := true, named := ["redact/reading.cborSorts", "redact/reading.packHeads", "internal/strconv.uint64pow10", "math/bits.deBruijn32tab", "math/bits.deBruijn64tab", "unicode/utf8.first", "unicode/utf8.acceptRanges", "internal/bytealg.MaxLen", "redact/policy.signs"], plainKeys := false, apart := false, laid := [("math/bits.deBruijn32tab", laid_math_bits_deBruijn32tab), ("math/bits.deBruijn64tab", laid_math_bits_deBruijn64tab), ("internal/strconv.uint64pow10", laid_internal_strconv_uint64pow10), ("unicode/utf8.acceptRanges", laid_unicode_utf8_acceptRanges), ("redact/reading.cborSorts", laid_redact_reading_cborSorts), ("redact/reading.packHeads", laid_redact_reading_packHeads), ("redact/policy.signs", laid_redact_policy_signs), ("unicode/utf8.first", laid_unicode_utf8_first)], narrowed := true }
def UnpadsUptoSaid : Prop := unpadsUptoRow.holds Tryz.pinned (OpenSpec.upto unpadsSpec)

/-- 'redactkeep.Numbers', WHERE WHAT IT READS IS OF BULK AT MOST 1048576: true; the input reads as it did. -/
def numbersUptoRow : OpenClaim := { program := "ytllcbnfmihfaaaagreatdoor", sum := "a65d84dea26436472912827370b557d57b06ab2d7698ce8e1576d8611f0a22dc", func := "redact/redactkeep.Numbers", spec := "numbers", unfollowed := true, recurses := true, named := ["redact/reading.cborSorts", "redact/reading.packHeads", "internal/strconv.uint64pow10", "math/bits.deBruijn32tab", "math/bits.deBruijn64tab"], plainKeys := false, apart := false, laid := [("math/bits.deBruijn32tab", laid_math_bits_deBruijn32tab), ("math/bits.deBruijn64tab", laid_math_bits_deBruijn64tab), ("internal/strconv.uint64pow10", laid_internal_strconv_uint64pow10), ("redact/reading.cborSorts", laid_redact_reading_cborSorts), ("redact/reading.packHeads", laid_redact_reading_packHeads)], narrowed := true }
def NumbersUptoSaid : Prop := numbersUptoRow.holds Tryz.pinned (OpenSpec.upto numbersSpec)

/-- 'redactkeep.Texts', WHERE WHAT IT READS IS OF BULK AT MOST 1048576: true; the input reads as it did. -/
def textsUptoRow : OpenClaim := { program := "ytllcbnfmihfaaaagreatdoor", sum := "a65d84dea26436472912827370b557d57b06ab2d7698ce8e1576d8611f0a22dc", func := "redact/redactkeep.Texts", spec := "texts", unfollowed := true, recurses := true, named := ["redact/reading.cborSorts", "redact/reading.packHeads", "internal/strconv.uint64pow10", "math/bits.deBruijn32tab", "math/bits.deBruijn64tab"], plainKeys := false, apart := false, laid := [("math/bits.deBruijn32tab", laid_math_bits_deBruijn32tab), ("math/bits.deBruijn64tab", laid_math_bits_deBruijn64tab), ("internal/strconv.uint64pow10", laid_internal_strconv_uint64pow10), ("redact/reading.cborSorts", laid_redact_reading_cborSorts), ("redact/reading.packHeads", laid_redact_reading_packHeads)], narrowed := true }
def TextsUptoSaid : Prop := textsUptoRow.holds Tryz.pinned (OpenSpec.upto textsSpec)

/-- 'redactkeep.Round', WHERE WHAT IT READS IS OF BULK AT MOST 1048576: true; the input reads as it did. -/
def roundUptoRow : OpenClaim := { program := "ytllcbnfmihfaaaagreatdoor", sum := "a65d84dea26436472912827370b557d57b06ab2d7698ce8e1576d8611f0a22dc", func := "redact/redactkeep.Round", spec := "round", unfollowed := true, recurses := true, named := ["redact/reading.cborSorts", "redact/reading.packHeads", "internal/strconv.uint64pow10", "math/bits.deBruijn32tab", "math/bits.deBruijn64tab"], plainKeys := false, apart := false, laid := [("math/bits.deBruijn32tab", laid_math_bits_deBruijn32tab), ("math/bits.deBruijn64tab", laid_math_bits_deBruijn64tab), ("internal/strconv.uint64pow10", laid_internal_strconv_uint64pow10), ("redact/reading.cborSorts", laid_redact_reading_cborSorts), ("redact/reading.packHeads", laid_redact_reading_packHeads)], narrowed := true }
def RoundUptoSaid : Prop := roundUptoRow.holds Tryz.pinned (OpenSpec.upto roundSpec)

/-- 'redactlaw.Labels', WHERE WHAT IT READS IS OF BULK AT MOST 1048576: true; the input reads as it did. -/
def labelsUptoRow : OpenClaim := { program := "ytllcbnfmihfaaaagreatdoor", sum := "a65d84dea26436472912827370b557d57b06ab2d7698ce8e1576d8611f0a22dc", func := "redact/redactlaw.Labels", spec := "labels", inPlace := ["internal/bytealg.IndexByteString", "internal/bytealg.IndexString", "internal/abi.NoEscape", "internal/bytealg.MakeNoZero"], unfollowed := true, recurses := true, named := ["redact/reading.cborSorts", "redact/reading.packHeads", "internal/strconv.uint64pow10", "math/bits.deBruijn32tab", "math/bits.deBruijn64tab", "unicode/utf8.first", "unicode/utf8.acceptRanges", "internal/bytealg.MaxLen", "redact/policy.signs"], plainKeys := false, apart := false, laid := [("math/bits.deBruijn32tab", laid_math_bits_deBruijn32tab), ("math/bits.deBruijn64tab", laid_math_bits_deBruijn64tab), ("internal/strconv.uint64pow10", laid_internal_strconv_uint64pow10), ("unicode/utf8.acceptRanges", laid_unicode_utf8_acceptRanges), ("redact/reading.cborSorts", laid_redact_reading_cborSorts), ("redact/reading.packHeads", laid_redact_reading_packHeads), ("redact/policy.signs", laid_redact_policy_signs), ("unicode/utf8.first", laid_unicode_utf8_first)], narrowed := true }
def LabelsUptoSaid : Prop := labelsUptoRow.holds Tryz.pinned (OpenSpec.upto labelsSpec)

/-- 'redactlaw.Gates', WHERE WHAT IT READS IS OF BULK AT MOST 1048576: true; the input reads as it did. -/
def gatesUptoRow : OpenClaim := { program := "ytllcbnfmihfaaaagreatdoor", sum := "a65d84dea26436472912827370b557d57b06ab2d7698ce8e1576d8611f0a22dc", func := "redact/redactlaw.Gates", spec := "gates", inPlace := ["internal/bytealg.IndexByteString", "internal/bytealg.IndexString", "internal/abi.NoEscape", "internal/bytealg.MakeNoZero"], unfollowed := true, recurses := true, named := ["redact/reading.cborSorts", "redact/reading.packHeads", "internal/strconv.uint64pow10", "math/bits.deBruijn32tab", "math/bits.deBruijn64tab", "unicode/utf8.first", "unicode/utf8.acceptRanges", "internal/bytealg.MaxLen", "redact/policy.signs"], plainKeys := false, apart := false, laid := [("math/bits.deBruijn32tab", laid_math_bits_deBruijn32tab), ("math/bits.deBruijn64tab", laid_math_bits_deBruijn64tab), ("internal/strconv.uint64pow10", laid_internal_strconv_uint64pow10), ("unicode/utf8.acceptRanges", laid_unicode_utf8_acceptRanges), ("redact/reading.cborSorts", laid_redact_reading_cborSorts), ("redact/reading.packHeads", laid_redact_reading_packHeads), ("redact/policy.signs", laid_redact_policy_signs), ("unicode/utf8.first", laid_unicode_utf8_first)], narrowed := true }
def GatesUptoSaid : Prop := gatesUptoRow.holds Tryz.pinned (OpenSpec.upto gatesSpec)

/-- 'redactkeep.Hidden', WHERE WHAT IT READS IS OF BULK AT MOST 1048576: true; the input reads as it did. -/
def hiddenUptoRow : OpenClaim := { program := "ytllcbnfmihfaaaagreatdoor", sum := "a65d84dea26436472912827370b557d57b06ab2d7698ce8e1576d8611f0a22dc", func := "redact/redactkeep.Hidden", spec := "hidden", inPlace := ["internal/bytealg.IndexByteString", "internal/bytealg.IndexString", "internal/abi.NoEscape", "internal/bytealg.MakeNoZero"], unfollowed := true, recurses := true, named := ["unicode/utf8.first", "unicode/utf8.acceptRanges", "internal/bytealg.MaxLen", "redact/policy.signs", "redact/reading.cborSorts", "redact/reading.packHeads", "internal/strconv.uint64pow10", "math/bits.deBruijn32tab", "math/bits.deBruijn64tab"], plainKeys := false, apart := false, laid := [("math/bits.deBruijn32tab", laid_math_bits_deBruijn32tab), ("math/bits.deBruijn64tab", laid_math_bits_deBruijn64tab), ("internal/strconv.uint64pow10", laid_internal_strconv_uint64pow10), ("unicode/utf8.acceptRanges", laid_unicode_utf8_acceptRanges), ("redact/reading.cborSorts", laid_redact_reading_cborSorts), ("redact/reading.packHeads", laid_redact_reading_packHeads), ("redact/policy.signs", laid_redact_policy_signs), ("unicode/utf8.first", laid_unicode_utf8_first)], narrowed := true }
def HiddenUptoSaid : Prop := hiddenUptoRow.holds Tryz.pinned (OpenSpec.upto hiddenSpec)

/-- 'redactkeep.Tagged', WHERE WHAT IT READS IS OF BULK AT MOST 1048576: true; the input reads as it did. -/
def taggedUptoRow : OpenClaim := { program := "ytllcbnfmihfaaaagreatdoor", sum := "a65d84dea26436472912827370b557d57b06ab2d7698ce8e1576d8611f0a22dc", func := "redact/redactkeep.Tagged", spec := "tagged", inPlace := ["internal/bytealg.IndexByteString", "internal/bytealg.IndexString", "internal/abi.NoEscape", "internal/bytealg.MakeNoZero"], unfollowed := true, recurses := true, named := ["unicode/utf8.first", "unicode/utf8.acceptRanges", "internal/bytealg.MaxLen", "redact/policy.signs", "redact/reading.cborSorts", "redact/reading.packHeads", "internal/strconv.uint64pow10", "math/bits.deBruijn32tab", "math/bits.deBruijn64tab"], plainKeys := false, apart := false, laid := [("math/bits.deBruijn32tab", laid_math_bits_deBruijn32tab), ("math/bits.deBruijn64tab", laid_math_bits_deBruijn64tab), ("internal/strconv.uint64pow10", laid_internal_strconv_uint64pow10), ("unicode/utf8.acceptRanges", laid_unicode_utf8_acceptRanges), ("redact/reading.cborSorts", laid_redact_reading_cborSorts), ("redact/reading.packHeads", laid_redact_reading_packHeads), ("redact/policy.signs", laid_redact_policy_signs), ("unicode/utf8.first", laid_unicode_utf8_first)], narrowed := true }
def TaggedUptoSaid : Prop := taggedUptoRow.holds Tryz.pinned (OpenSpec.upto taggedSpec)

/-- 'redactkeep.Cut', WHERE WHAT IT READS IS OF BULK AT MOST 1048576: true; the input reads as it did. -/
def cutUptoRow : OpenClaim := { program := "ytllcbnfmihfaaaagreatdoor", sum := "a65d84dea26436472912827370b557d57b06ab2d7698ce8e1576d8611f0a22dc", func := "redact/redactkeep.Cut", spec := "cut", inPlace := ["internal/bytealg.IndexByteString", "internal/bytealg.IndexString", "internal/abi.NoEscape", "internal/bytealg.MakeNoZero"], unfollowed := true, recurses := true, named := ["unicode/utf8.first", "unicode/utf8.acceptRanges", "internal/bytealg.MaxLen", "redact/policy.signs", "redact/reading.cborSorts", "redact/reading.packHeads", "internal/strconv.uint64pow10", "math/bits.deBruijn32tab", "math/bits.deBruijn64tab"], plainKeys := false, apart := false, laid := [("math/bits.deBruijn32tab", laid_math_bits_deBruijn32tab), ("math/bits.deBruijn64tab", laid_math_bits_deBruijn64tab), ("internal/strconv.uint64pow10", laid_internal_strconv_uint64pow10), ("unicode/utf8.acceptRanges", laid_unicode_utf8_acceptRanges), ("redact/reading.cborSorts", laid_redact_reading_cborSorts), ("redact/reading.packHeads", laid_redact_reading_packHeads), ("redact/policy.signs", laid_redact_policy_signs), ("unicode/utf8.first", laid_unicode_utf8_first)], narrowed := true }
def CutUptoSaid : Prop := cutUptoRow.holds Tryz.pinned (OpenSpec.upto cutSpec)

end Rows
end Go.Proofs.YtllcbnfmihfaaaaGreatDoor
