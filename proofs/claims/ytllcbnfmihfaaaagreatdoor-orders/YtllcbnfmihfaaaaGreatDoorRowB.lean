import Derived.Test.YtllcbnfmihfaaaaGreatDoorRowA
import Derived.Test.YtllcbnfmihfaaaaGreatDoorChk
import Derived.Test.YtllcbnfmihfaaaaGreatDoorRCk2
namespace Go.Proofs.YtllcbnfmihfaaaaGreatDoor
open Go.ChangeShapes Go.WideShapes Go.ChangeAt Go.RowKit Go.Lib

theorem askSays1 : AskSays 1 := fun c o hk w hc hg => asked_check chkE chkN chkE_blind chkN_blind check_any refCheck_any c o hk w hc hg
theorem weights2 {H : Type} {t1 t2 : TypeId} {d0 d1 : DataW H} {P : Program} (h : (DataW.weightsEach P ([t1, t2] ++ []) ([d0, d1] ++ [])).all (· ≤ reachBytes) = true) : (d0.weights P t1).all (· ≤ reachBytes) = true ∧ (d1.weights P t2).all (· ≤ reachBytes) = true := by
  simp only [List.append_nil, DataW.weightsEach, List.all_append, Bool.and_eq_true] at h
  exact ⟨h.1, h.2⟩

set_option maxRecDepth 100000 in
theorem checks_contract (H : Type) (enc : TypeId × Value → H) (W : World) (args : Array Value) (ds gs : List (DataW H)) (before : List MemPlace) (base : Nat)
    (hval : ∀ (j : Nat) t v, Tryz.f3.params[j]? = some t → args[j]? = some v → Value.okWide Tryz.prog W .any base t v)
    (hW : DataW.Whole enc Tryz.prog Tryz.f3.params.toList Rows.checksSpec.vars false W args.toList ds gs before)
    (hwt : (DataW.weightsEach Tryz.prog (Tryz.f3.params.toList ++ []) (ds ++ gs)).all (· ≤ reachBytes) = true)
    (hL : laidMetH Tryz.prog Rows.checksRow.laid W) (hS : W.ShapedOpen Tryz.prog) :
    Calls Tryz.prog 3 args W fun e W' => ∃ v, e = .returned v ∧ Rows.checksSpec.post enc Tryz.prog Tryz.f3 false true false false W args v W' := by
  have hW' := hW
  obtain ⟨p, q, hA0, hV, rfl, hfz, hnd⟩ := hW
  have hA : DataW.TrodAll enc Tryz.prog W 0 (fun _ => true) true Tryz.f3.params.toList args.toList ds p := hA0
  rw [Tryz.params3] at hA hwt hval
  obtain ⟨v0, v1, d0, d1, p0, p1, rfl, rfl, rfl, h0, h1⟩ := trodAll_two hA
  obtain ⟨rfl, rfl⟩ := trodVars_none hV
  obtain ⟨a0, l0, c0, rfl⟩ := okWide_slice Tryz.underlying22 (hval 0 22 v0 rfl rfl)
  obtain ⟨a1, l1, c1, rfl⟩ := okWide_slice Tryz.underlying23 (hval 1 23 v1 rfl rfl)
  obtain ⟨n0, h0'⟩ := h0
  obtain ⟨n1, h1'⟩ := h1
  obtain ⟨hw0, hw1⟩ := weights2 hwt
  obtain ⟨ca, cn, ccap, g, ev0, hC, hcn⟩ := cfgs_of (v := .slice a0 l0 c0) (x := (d0, p0)) h0' hw0
  cases ev0
  obtain ⟨sa, sn, scap, h, ev1, hO, hsn⟩ := ops_of (v := .slice a1 l1 c1) (x := (d1, p1)) h1' hw1
  cases ev1
  refine (checks_any askSays1 _ _ _ g hcn _ _ _ h hsn W hC hO (glob_of hL hS)).mono ?_
  rintro e W' ⟨rfl, hB⟩
  have hlt : ∀ x ∈ p0 ++ p1 ++ [], x.block < W.heap.size := fun x hx => hW'.lt x hx
  refine ⟨_, rfl, [d0, d1], [], p0 ++ p1 ++ [], [], p0 ++ p1, [], hW', trodAll_mk1 (shut_bool Tryz.underlying4 true), ?_, rfl, hB.frame _, fun h => by cases h⟩
  exact trodAll_mk2 (Below.trod Tryz.laidOut (by kernel_rfl) (of_decide_eq_true (by kernel_rfl)) ⟨n0, h0'⟩ hB (fun x hx => hlt x (by simp [hx]))) (Below.trod Tryz.laidOut (by kernel_rfl) (of_decide_eq_true (by kernel_rfl)) ⟨n1, h1'⟩ hB (fun x hx => hlt x (by simp [hx])))
end Go.Proofs.YtllcbnfmihfaaaaGreatDoor
