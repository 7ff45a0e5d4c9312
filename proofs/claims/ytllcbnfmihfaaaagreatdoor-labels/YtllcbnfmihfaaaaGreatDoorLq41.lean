import Derived.Test.YtllcbnfmihfaaaaGreatDoorLq31
import Derived.Test.YtllcbnfmihfaaaaGreatDoorLq33
import Derived.Test.YtllcbnfmihfaaaaGreatDoorLq35
import Derived.Test.YtllcbnfmihfaaaaGreatDoorLq40
namespace Go.Proofs.YtllcbnfmihfaaaaGreatDoor
open Go.ChangeShapes Go.WideShapes Go.ChangeAt Go.RowKit Go.Lib

theorem askSays1 : AskSays 1 := fun c o hk w hc hg => asked_check chkE chkN chkE_blind chkN_blind check_any refCheck_any c o hk w hc hg
theorem weights2 {H : Type} {t1 t2 : TypeId} {d0 d1 : DataW H} {P : Program} (h : (DataW.weightsEach P ([t1, t2] ++ []) ([d0, d1] ++ [])).all (· ≤ reachBytes) = true) : (d0.weights P t1).all (· ≤ reachBytes) = true ∧ (d1.weights P t2).all (· ≤ reachBytes) = true := by
  simp only [List.append_nil, DataW.weightsEach, List.all_append, Bool.and_eq_true] at h
  exact ⟨h.1, h.2⟩

set_option maxRecDepth 100000 in
theorem checks_contract (H : Type) (enc : TypeId × Value → H) (W : World) (args : Array Value) (ds gs : List (DataW H)) (before : List MemPlace) (base : Nat)
    (hval : ∀ (j : Nat) t v, Tryz.f3.params[j]? = some t → args[j]? = some v → Value.okWide Tryz.prog W .any base t v)
    (hW : DataW.Whole enc Tryz.prog Tryz.f3.params.toList Rows.checksSpec.vars false W args.toList ds gs before)
    (hwt : (DataW.weightsEach Tryz.prog (Tryz.f3.params.toList ++ []) (ds ++ gs)).all (· ≤ reachBytes) = true)
    (hL : laidMetH Tryz.prog Rows.checksRow.laid W) (hS : W.ShapedOpen Tryz.prog) :
    Calls Tryz.prog 3 args W fun e W' => ∃ v, e = .returned v ∧ Rows.checksSpec.post enc Tryz.prog Tryz.f3 false true false false W args v W' := by
  have hW' := hW
  obtain ⟨p, q, hA0, hV, rfl, hfz, hnd⟩ := hW
  have hA : DataW.TrodAll enc Tryz.prog W 0 (fun _ => true) true Tryz.f3.params.toList args.toList ds p := hA0
  rw [Tryz.params3] at hA hwt hval
  obtain ⟨v0, v1, d0, d1, p0, p1, rfl, rfl, rfl, h0, h1⟩ := trodAll_two hA
  obtain ⟨rfl, rfl⟩ := trodVars_none hV
  obtain ⟨a0, l0, c0, rfl⟩ := okWide_slice Tryz.underlying22 (hval 0 22 v0 rfl rfl)
  obtain ⟨a1, l1, c1, rfl⟩ := okWide_slice Tryz.underlying23 (hval 1 23 v1 rfl rfl)
  obtain ⟨n0, h0'⟩ := h0
  obtain ⟨n1, h1'⟩ := h1
  obtain ⟨hw0, hw1⟩ := weights2 hwt
  obtain ⟨ca, cn, ccap, g, ev0, hC, hcn⟩ := cfgs_of (v := .slice a0 l0 c0) (x := (d0, p0)) h0' hw0
  cases ev0
  obtain ⟨sa, sn, scap, h, ev1, hO, hsn⟩ := ops_of (v := .slice a1 l1 c1) (x := (d1, p1)) h1' hw1
  cases ev1
  refine (checks_any askSays1 _ _ _ g hcn _ _ _ h hsn W hC hO (glob_of hL hS)).mono ?_
  rintro e W' ⟨rfl, hB⟩
  have hlt : ∀ x ∈ p0 ++ p1 ++ [], x.block < W.heap.size := fun x hx => hW'.lt x hx
  refine ⟨_, rfl, [d0, d1], [], p0 ++ p1 ++ [], [], p0 ++ p1, [], hW', trodAll_mk1 (shut_bool Tryz.underlying4 true), ?_, rfl, hB.frame _, fun h => by cases h⟩
  exact trodAll_mk2 (Below.trod Tryz.laidOut (by kernel_rfl) (of_decide_eq_true (by kernel_rfl)) ⟨n0, h0'⟩ hB (fun x hx => hlt x (by simp [hx]))) (Below.trod Tryz.laidOut (by kernel_rfl) (of_decide_eq_true (by kernel_rfl)) ⟨n1, h1'⟩ hB (fun x hx => hlt x (by simp [hx])))
end Go.Proofs.YtllcbnfmihfaaaaGreatDoor
namespace Go.Proofs.YtllcbnfmihfaaaaGreatDoor
open Go.RowKit

theorem room8S : roomS 8 = List.replicate 8 (byd, false) := rfl
set_option maxHeartbeats 400000 in
theorem wholePath_nil (v : Value) (n cap : Nat) (w : World) :
    Calls Tryz.prog 104 #[v, .slice none n cap] w fun e w' => e = .returned (.bool true) ∧ w' = w := by
  have hq1 := fun w => Lib.run_eql_slice_nil (P := Tryz.prog) w 72 259 none n cap 0 0 Tryz.underlying72
  go_enter Tryz.func104, Tryz.ntmps104
  go_wp2
  go_ret
  exact ⟨rfl, rfl⟩
set_option maxRecDepth 100000 in
set_option maxHeartbeats 4000000 in
theorem wholePath_some (ps : List (List UInt8 × Bool)) (ad : Addr) (pc BE : Nat) (hB : ps.length + 8 ≤ 9223372036854775807) (w : World) (hA : PthAt w (some ad) ps) (hown : w.heap[BE]? = some (.cells (stpArr (ps ++ roomS 8)) 259)) :
    Calls Tryz.prog 104 #[.slice (some ⟨BE, 0, none⟩) ps.length (ps.length + 8), .slice (some ad) ps.length pc] w fun e w' => e = .returned (.bool true) ∧ Below w.heap.size w w' := by
  have HA : Hid (PthAt w (some ad) ps) := hA
  have HW : Hid (w.heap[BE]? = some (.cells (stpArr (ps ++ roomS 8)) 259)) := hown
  have HBE : Hid (BE < w.heap.size) := (Array.getElem?_eq_some_iff.1 hown).1
  clear hA hown
  have hq1 := fun w => Lib.run_eql_slice_nil (P := Tryz.prog) w 72 259 (some ad) ps.length pc 0 0 Tryz.underlying72
  have HLEN : Hid ((ps ++ roomS 8).length = ps.length + 8) := by show _ = _; rw [List.length_append, roomS_length 8 (Nat.le_refl _)]
  go_enter Tryz.func104, Tryz.ntmps104
  go_wp2
  go_loopg [7] (ps.length + 8) (fun g x wr => ∃ k : Nat, Hid (k + g = ps.length + 8) ∧ x = .int .i64 k ∧ Hid (Below w.heap.size w wr))
  case atStart => exact ⟨0, by show _ = _; omega, rfl, Below.refl _ _⟩
  case round =>
    obtain ⟨k, hk, rfl, HK⟩ := hrel
    have HWr : Hid (wr.heap[BE]? = some (.cells (stpArr (ps ++ roomS 8)) 259)) := (HK.out.block _ HBE.out).trans HW.out
    cases gk with
    | zero =>
      have hle : ¬ (k : Int) < ps.length + 8 := by have := hk.out; omega
      go_wp2
      go_ret
      exact ⟨rfl, HK.out⟩
    | succ g =>
      have hle : (k : Int) < ps.length + 8 := by have := hk.out; omega
      have hkd : k < (ps ++ roomS 8).length := by rw [HLEN.out]; omega
      have hc := stpArr_at (ps ++ roomS 8) k hkd
      have hca := (cellOfHeap HWr.out (k * 2)).trans hc.1
      have hcb := (cellOfHeap HWr.out (k * 2 + 1)).trans hc.2
      have hbe : BE < wr.heap.size := (Array.getElem?_eq_some_iff.1 HWr.out).1
      clear hc
      by_cases hkn : k < ps.length
      · have hkn' : (k : Int) < ps.length := by omega
        obtain ⟨b, off, hh, hbl, hc1, hc2⟩ := (HA.out.below HK.out).at_ k hkn
        cases hh
        rw [List.getElem_append_left hkn] at hca hcb
        generalize ps[k] = t at *
        obtain ⟨key, ix⟩ := t
        dsimp only at hca hcb hc1 hc2
        clear hkd
        go_wp2
        go_quiet (fail)
        go_wp2
        go_roundg g
        case measure => omega
        case rel => exact ⟨k + 1, by show _ = _; have := hk.out; omega, by go_num, (HK.out.alloc HK.out.size _).trans ⟨rfl, rfl, rfl, Nat.le_refl _, fun _ _ => rfl⟩⟩
      · have hkn' : ¬ (k : Int) < ps.length := by omega
        have e77 : (ps ++ roomS 8)[k] = (byd, false) := by
          rw [List.getElem_append_right (by omega)]
          simp only [room8S, List.getElem_replicate]
        rw [e77] at hca hcb
        have hca' : wr.cell? ⟨BE, k * 2, none⟩ = some (.string ⟨#[98, 101, 121, 111, 110, 100]⟩) := hca
        dsimp only at hcb
        clear e77 hkd hca
        go_wp2
        go_quiet (fail)
        go_wp2
        go_roundg g
        case measure => omega
        case rel => exact ⟨k + 1, by show _ = _; have := hk.out; omega, by go_num, (HK.out.alloc HK.out.size _).trans ⟨rfl, rfl, rfl, Nat.le_refl _, fun _ _ => rfl⟩⟩
end Go.Proofs.YtllcbnfmihfaaaaGreatDoor
