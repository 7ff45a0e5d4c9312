import Derived.Test.YtllcbnfmihfaaaaGreatDoorCards
import Derived.Test.YtllcbnfmihfaaaaGreatDoorTie
import Derived.Test.YtllcbnfmihfaaaaGreatDoorNumK
import Derived.Carry
import Derived.ProofKit
import Derived.OpenShut
import Derived.Deep.DeepHandedRow
import Derived.Lib.LaidTab
import Derived.Lib.LaidU8T
namespace Go.Proofs.YtllcbnfmihfaaaaGreatDoor
open Go.ChangeShapes Go.WideShapes Go.ChangeAt Go.RowKit Go.Lib

theorem numOwn : ownKnob Tryz.prog.godebug = none := by kernel_rfl
theorem numLaidOut : laidOutB Tryz.prog = true := by kernel_rfl

/-! The tables, off the row's list. -/
theorem gSortsT : (Tryz.prog.globals[0]?).map (·.type) = some 274 := by kernel_rfl
theorem gHeadsT : (Tryz.prog.globals[1]?).map (·.type) = some 275 := by kernel_rfl
theorem gPowT : (Tryz.prog.globals[6]?).map (·.type) = some 380 := by kernel_rfl
theorem cellsSort : Tryz.prog.cellsOf 270 = 1 := by kernel_rfl
theorem cellsSorts : Tryz.prog.cellsOf 274 = 8 := by kernel_rfl
theorem cellsHead : Tryz.prog.cellsOf 273 = 3 := by kernel_rfl
theorem cellsHeads : Tryz.prog.cellsOf 275 = 96 := by kernel_rfl
theorem cellsU64 : Tryz.prog.cellsOf 271 = 1 := by kernel_rfl
theorem cellsInt' : Tryz.prog.cellsOf 3 = 1 := by kernel_rfl
theorem cellsPow : Tryz.prog.cellsOf 380 = 20 := by kernel_rfl
theorem sorts_data : (Rows.laid_redact_reading_cborSorts : DataW Unit) = tabData .i64 [4, 6, 7, 8, 9, 10, 0, 0] := by kernel_rfl
theorem pow_data : (Rows.laid_internal_strconv_uint64pow10 : DataW Unit) = tabData .u64 pow10Tab := by kernel_rfl
theorem heads_data : (Rows.laid_redact_reading_packHeads : DataW Unit) = .agg (pkTab.map fun x => .agg [.lit (.int .i64 x.1), .lit (.int .i64 x.2), .lit (.int .u64 0)]) := by kernel_rfl
theorem three {l : List Value} (h : l.length = 3) : ∃ a b c, l = [a, b, c] := by
  match l, h with
  | [a, b, c], _ => exact ⟨a, b, c, rfl⟩
theorem three' {α : Type} {l : List α} (h : l.length = 3) : ∃ a b c, l = [a, b, c] := by
  match l, h with
  | [a, b, c], _ => exact ⟨a, b, c, rfl⟩
theorem head_of {W : World} {sp : Nat → Bool} {held : Bool} {fuel : Nat} {cs : List Value} {x y z : Int} {p : List MemPlace} (h : DataW.trod (fun _ => ()) Tryz.prog W 0 sp held fuel 273 cs = some (.agg [.lit (.int .i64 x), .lit (.int .i64 y), .lit (.int .u64 z)], p)) : cs = [.int .i64 x, .int .i64 y, .int .u64 z] := by
  obtain ⟨xs, n, _, hx, hl, hlen, hf⟩ := DataW.trod_struct Tryz.underlying273 h
  rw [cellsHead] at hl
  have hxl : xs.length = 3 := hlen
  obtain ⟨v0, v1, v2, rfl⟩ := three hl
  obtain ⟨y0, y1, y2, rfl⟩ := three' hxl
  have t0 : DataW.trod (fun _ => ()) Tryz.prog W 0 sp held n 270 (([v0, v1, v2].drop 0).take (Tryz.prog.cellsOf 270)) = some y0 := hf 0 _ rfl
  have t1 : DataW.trod (fun _ => ()) Tryz.prog W 0 sp held n 3 (([v0, v1, v2].drop 1).take (Tryz.prog.cellsOf 3)) = some y1 := hf 1 _ rfl
  have t2 : DataW.trod (fun _ => ()) Tryz.prog W 0 sp held n 271 (([v0, v1, v2].drop 2).take (Tryz.prog.cellsOf 271)) = some y2 := hf 2 _ rfl
  rw [cellsSort] at t0
  rw [cellsInt'] at t1
  rw [cellsU64] at t2
  obtain ⟨z0, e0, hy0⟩ := DataW.trod_int Tryz.underlying270 t0
  obtain ⟨z1, e1, hy1⟩ := DataW.trod_int Tryz.underlying3 t1
  obtain ⟨z2, e2, hy2⟩ := DataW.trod_int Tryz.underlying271 t2
  simp at e0 e1 e2
  subst e0 e1 e2
  obtain ⟨rfl, _⟩ := hy0
  obtain ⟨rfl, _⟩ := hy1
  obtain ⟨rfl, _⟩ := hy2
  simp only [List.map_cons, List.map_nil, Prod.mk.injEq, DataW.agg.injEq, List.cons.injEq, DataW.lit.injEq, Lit.int.injEq, and_true, true_and] at hx
  obtain ⟨⟨rfl, rfl, rfl⟩, _⟩ := hx
  simp
theorem drop3 {cs : List Value} {u : Nat} {a b c : Value} (h : (cs.drop (u * 3)).take 3 = [a, b, c]) : cs[u * 3]? = some a ∧ cs[u * 3 + 1]? = some b ∧ cs[u * 3 + 2]? = some c := by
  have h0 := congrArg (fun l => l[0]?) h
  have h1 := congrArg (fun l => l[1]?) h
  have h2 := congrArg (fun l => l[2]?) h
  simp [List.getElem?_drop] at h0 h1 h2
  exact ⟨h0, h1, h2⟩
set_option maxRecDepth 100000 in
theorem numTabs_of {W : World} (hL : laidMetH Tryz.prog Rows.numbersRow.laid W) : NumTabs W := by
  have hL' : laidMet Tryz.prog Rows.numbersRow.laid W := hL
  refine ⟨?_, ?_, ?_⟩
  · obtain ⟨g, t, cs, fuel, p, hg, hty, hvar, hd⟩ := laidMet.reads hL' (d := Rows.laid_internal_strconv_uint64pow10) (.tail _ (.tail _ (.head _)))
    obtain rfl : g = 6 := Option.some.inj (hg.symm.trans (by kernel_rfl))
    obtain rfl := Option.some.inj (gPowT.symm.trans hty)
    rw [pow_data] at hd
    have hcs := cells_of_tab Tryz.underlying380 Tryz.underlying271 cellsU64 cellsPow hd
    have hv2 : W.var? Tryz.prog tabName = some cs := by
      refine Eq.trans ?_ hvar
      exact congrArg (fun s => W.var? Tryz.prog s) (by kernel_rfl)
    unfold TabIs
    rw [hv2, ← hcs]
  · obtain ⟨g, t, cs, fuel, p, hg, hty, hvar, hd⟩ := laidMet.reads hL' (d := Rows.laid_redact_reading_cborSorts) (.tail _ (.tail _ (.tail _ (.head _))))
    obtain rfl : g = 0 := Option.some.inj (hg.symm.trans (by kernel_rfl))
    obtain rfl := Option.some.inj (gSortsT.symm.trans hty)
    rw [sorts_data] at hd
    have hcs := cells_of_tab Tryz.underlying274 Tryz.underlying270 cellsSort cellsSorts hd
    intro u hu
    have h1 := World.var?_cell hg hvar u
    rw [h1, ← Array.getElem?_toList, hcs]
    have : ∀ v : Fin 8, ([4, 6, 7, 8, 9, 10, 0, 0] : List Int)[v.val]? = some ((cbUp v.val : Nat) : Int) := by decide
    rw [List.getElem?_map, this ⟨u, hu⟩]
    rfl
  · obtain ⟨g, t, cs, fuel, p, hg, hty, hvar, hd⟩ := laidMet.reads hL' (d := Rows.laid_redact_reading_packHeads) (.tail _ (.tail _ (.tail _ (.tail _ (.head _)))))
    obtain rfl : g = 1 := Option.some.inj (hg.symm.trans (by kernel_rfl))
    obtain rfl := Option.some.inj (gHeadsT.symm.trans hty)
    rw [heads_data] at hd
    intro u hu
    obtain ⟨f0, d0, q0, hd0, h0⟩ := array_elem Tryz.underlying275 hd u hu
    have hlen : pkTab.length = 32 := rfl
    rw [List.getElem?_map, List.getElem?_eq_getElem (by omega)] at hd0
    cases hd0
    have r0 := head_of h0
    rw [cellsHead] at r0
    obtain ⟨c0, c1, c2⟩ := drop3 r0
    have e : pkTab.getD u (0, 0) = pkTab[u]'(by omega) := by rw [List.getD_eq_getElem?_getD, List.getElem?_eq_getElem (by omega)]; rfl
    rw [e]
    refine ⟨?_, ?_, ?_⟩
    · rw [World.var?_cell hg hvar, ← Array.getElem?_toList]; exact c0
    · rw [World.var?_cell hg hvar, ← Array.getElem?_toList]; exact c1
    · rw [World.var?_cell hg hvar, ← Array.getElem?_toList]; exact c2

set_option maxRecDepth 100000 in
theorem numbers_contract (H : Type) (enc : TypeId × Value → H) (W : World) (args : Array Value) (ds gs : List (DataW H)) (before : List MemPlace) (base : Nat)
    (hval : ∀ (j : Nat) t v, Tryz.f7.params[j]? = some t → args[j]? = some v → Value.okWide Tryz.prog W .any base t v)
    (hW : DataW.Whole enc Tryz.prog Tryz.f7.params.toList Rows.numbersSpec.vars false W args.toList ds gs before)
    (hL : laidMetH Tryz.prog Rows.numbersRow.laid W) :
    Calls Tryz.prog 7 args W fun e W' => ∃ v, e = .returned v ∧ Rows.numbersSpec.post enc Tryz.prog Tryz.f7 false true false false W args v W' := by
  have hW' := hW
  obtain ⟨p, q, hA0, hV, rfl, hfz, hnd⟩ := hW
  have hA : DataW.TrodAll enc Tryz.prog W 0 (fun _ => true) true Tryz.f7.params.toList args.toList ds p := hA0
  rw [Tryz.params7] at hA hval
  obtain ⟨v0, d0, rfl, rfl, h0⟩ := trodAll_one hA
  obtain ⟨rfl, rfl⟩ := trodVars_none hV
  obtain ⟨z, rfl, rfl, rfl, hz⟩ := open_int Tryz.underlying3 (hval 0 3 v0 rfl rfl) h0
  have hr : -9223372036854775808 ≤ z ∧ z ≤ 9223372036854775807 := by
    have := hz
    simp [Lit.wf, IntKind.min, IntKind.max, IntKind.signed, IntKind.bits] at this
    omega
  refine (numbers_any z hr.1 hr.2 W (numTabs_of hL)).mono ?_
  rintro e W' ⟨rfl, hB⟩
  refine ⟨_, rfl, [.lit (.int .i64 z)], [], [], [], [], [], hW', trodAll_mk1 (shut_bool Tryz.underlying4 true), ?_, rfl, hB.frame _, fun h => by cases h⟩
  exact trodAll_mk1 (shut_int Tryz.underlying3 hz)
end Go.Proofs.YtllcbnfmihfaaaaGreatDoor
