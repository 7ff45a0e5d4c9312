import Derived.Test.YtllcbnfmihfaaaaGreatDoorRowN
namespace Go.Proofs.YtllcbnfmihfaaaaGreatDoor
open Go.ChangeShapes Go.WideShapes Go.ChangeAt Go.RowKit Go.Lib

/-- What a datum's cells are. -/
def flatNum : Nat → DataW Unit → List Value
  | 0, _ => []
  | _ + 1, .lit (.int k z) => [.int k z]
  | _ + 1, .lit (.string b) => [.string ⟨b.toArray⟩]
  | n + 1, .agg ds => ds.flatMap (flatNum n)
  | _ + 1, _ => []
def putNum (h : Array Obj) (g : Nat) (cs : Array Value) : Array Obj := h.modify g fun
  | .cells _ t frozen => .cells cs t frozen
  | o => o
/-- A WORLD FOR THE WITNESS: the settled one, the listed variables holding what they are said to hold. -/
def laidNum (w0 : World) : World :=
  let h0 := putNum w0.heap 7 (flatNum 5 Rows.laid_math_bits_deBruijn32tab).toArray
  let h1 := putNum h0 8 (flatNum 5 Rows.laid_math_bits_deBruijn64tab).toArray
  let h2 := putNum h1 6 (flatNum 5 Rows.laid_internal_strconv_uint64pow10).toArray
  let h3 := putNum h2 0 (flatNum 5 Rows.laid_redact_reading_cborSorts).toArray
  let h4 := putNum h3 1 (flatNum 5 Rows.laid_redact_reading_packHeads).toArray
  { w0 with heap := h4 }
theorem num_met (os : Os) : laidMet Tryz.prog Rows.numbersRow.laid ((laidNum (World.holding Tryz.prog os ⟨#[], #[], []⟩)).forCall (fun _ _ => 0) ⟨#[], #[.int .i64 0], []⟩).memory :=
  laidMet_of_run' 8 (by kernel_rfl) (by kernel_rfl)
theorem numbers_reads (os : Os) {H : Type} (enc : TypeId × Value → H) : ∃ places, DataW.whole enc Tryz.prog ((laidNum (World.holding Tryz.prog os ⟨#[], #[], []⟩)).forCall (fun _ _ => 0) ⟨#[], #[.int .i64 0], []⟩).memory Tryz.f7.params.toList Rows.numbersSpec.vars false #[Value.int .i64 0].toList 8 = some ([.lit (.int .i64 0)], [], places) :=
  ⟨[], by kernel_rfl⟩

set_option maxRecDepth 100000 in
theorem numbers_lifted (os : Os) (started : os.Started) (H : Type) (enc : TypeId × Value → H) (F : Stop.Interp) :
    ReturnsInHanded {} Tryz.checked os 7 .any ((OpenSpec.ofChange Rows.numbersSpec).preRow enc Tryz.prog Tryz.f7 Rows.numbersRow.domain false Rows.numbersRow.laid) (((OpenSpec.ofChange Rows.numbersSpec).at F).post enc Tryz.prog Tryz.f7 false true false false) := by
  obtain ⟨places, hx⟩ := numbers_reads os enc
  refine returnsInHanded_of_row (C := Tryz.checked) (s := OpenSpec.ofChange Rows.numbersSpec) numOwn started (by kernel_rfl) Tryz.func7
    (witness_row_at (enc := enc) (C := Tryz.checked) false (laidNum (World.holding Tryz.prog os ⟨#[], #[], []⟩)) #[.int .i64 0] rfl (by kernel_rfl) (by kernel_rfl) (by kernel_rfl)
      (OpenSpec.preRow_of_cond 8 hx (by kernel_rfl) (fun k hk => by cases hk) (by kernel_rfl) (num_met os))) ?_
  intro W base args ds gs before hval hW _ _ hwt hL hS _
  exact numbers_contract H enc W args ds gs before base hval hW hL

theorem numbers_k1 : (Rows.numbersRow.inPlace == Tryz.pinned.checked.prog.inPlace 7) = true := by kernel_rfl
theorem numbers_k2 : (Rows.numbersRow.unfollowed == Tryz.pinned.checked.prog.unfollowed 7) = true := by kernel_rfl
theorem numbers_k3 : (Rows.numbersRow.recurses == Tryz.pinned.checked.prog.recurses 7) = true := by kernel_rfl
theorem numbers_k4 : (Rows.numbersRow.named == Tryz.pinned.checked.prog.varsNamed 7) = true := by kernel_rfl
theorem numbers_facts : joinedFacts Tryz.pinned.checked.prog 7 Tryz.f7 (OpenSpec.ofChange Rows.numbersSpec).bare Rows.numbersRow = true := by
  unfold joinedFacts
  rw [numbers_k1, numbers_k2, numbers_k3, numbers_k4]
  kernel_rfl
theorem numbers_said : Rows.NumbersSaid :=
  OpenClaim.holds_of_cond 7 Tryz.f7 rfl rfl rfl rfl rfl rfl rfl ⟨rfl, rfl, rfl, rfl, rfl⟩ rfl rfl rfl rfl rfl (by kernel_rfl) Tryz.func7 numbers_facts
    (of_decide_eq_true (by kernel_rfl)) (by unfold Func.isWrapper; first | (rw [if_pos (by decide +kernel)]; kernel_rfl) | (rw [if_neg (by decide +kernel)]; exact ⟨rfl, rfl⟩))
    (fun os started H enc _ F => by rw [OpenClaim.pre_eq_preRow]; exact numbers_lifted os started H enc F)

theorem numbers_plain (f : FuncId) (fn : Func) (hf : Tryz.pinned.checked.prog.funcNamed Rows.numbersRow.func = some f) (hfn : Tryz.pinned.checked.prog.funcs[f]? = some fn) :
    true = Tryz.pinned.checked.prog.looks [] ∧ ∀ (j : Nat) t, fn.params[j]? = some t → Tryz.pinned.checked.prog.wantsStandIn t = false := by
  obtain rfl : f = 7 := Option.some.inj ((show Tryz.prog.funcNamed Rows.numbersRow.func = some 7 by kernel_rfl).symm.trans hf) |>.symm
  obtain rfl : fn = Tryz.f7 := (Option.some.inj (Tryz.func7.symm.trans hfn)).symm
  refine ⟨by kernel_rfl, fun j t ht => ?_⟩
  rw [Tryz.params7] at ht
  have hm : t ∈ #[(3 : TypeId)] := Array.mem_of_getElem? ht
  obtain rfl : t = 3 := by simpa using hm
  exact (show Tryz.prog.wantsStandIn 3 = false by kernel_rfl)

theorem numbers_card : Rows.NumbersCardSaid :=
  Claim7.holds_tied_plain_at .later [] _ _ _ _ numbers_said (fun _ h => by cases h) (by kernel_rfl) (fun _ h => by cases h) numbers_row_tie rfl ⟨rfl, rfl⟩ (by kernel_rfl) rfl numbers_plain (by kernel_rfl)
#print axioms numbers_card
end Go.Proofs.YtllcbnfmihfaaaaGreatDoor
