import Derived.Test.YtllcbnfmihfaaaaGreatDoorLq02
namespace Go.Proofs.YtllcbnfmihfaaaaGreatDoor
open Go.RowKit Go.Deep

/-! ### labels -/
set_option maxRecDepth 100000 in
set_option maxHeartbeats 2000000 in
theorem labels_out (arr : Array Value) (c : Int) (L : List (Int × Int)) (ea : Option Addr) (ecap : Nat) (f0 : arr[0]? = some (.int .i64 c)) (f1 : arr[1]? = some (.slice ea L.length ecap)) (hL : L.length ≤ maxLen) (w : World) (hc : ¬ (1 ≤ c ∧ c ≤ 6 ∧ L.length ≤ 30)) :
    Calls Tryz.prog 75 #[.agg arr] w fun e w' => e = .returned (.bool false) ∧ Below w.heap.size w w' := by
  unfold maxLen at hL
  have key : c < 1 ∨ (1 ≤ c ∧ 6 < c) ∨ (1 ≤ c ∧ c ≤ 6 ∧ (30 : Int) < L.length) := by omega
  clear hc
  rcases key with h | ⟨h, h2⟩ | ⟨h, h2, h3⟩
  all_goals
    go_enter Tryz.func75, Tryz.ntmps75
    go_wp2
    go_ret
    exact ⟨rfl, (Below.refl _ _).alloc (Nat.le_refl _) _⟩

set_option maxRecDepth 100000 in
set_option maxHeartbeats 4000000 in
theorem labels_in (arr : Array Value) (n : Nat) (L : List (Int × Int)) (ea : Option Addr) (ecap : Nat) (H : CfgE arr n L ea ecap) (h1 : 1 ≤ n) (hn : n ≤ 6) (hL : L.length ≤ 30) (w : World) (hA : EdgesAt w ea L) :
    Calls Tryz.prog 75 #[.agg arr] w fun e w' => e = .returned (.bool (edgesB n L)) ∧ Below w.heap.size w w' := by
  have f0 := H.f0
  have f1 := H.f1
  have HI : Hid ((Tryz.prog.info? 45).map (·.size) = some arr.size) := infoCfg H.size
  have HE : Hid (EdgesAt w ea L) := hA
  clear H hA
  have HW0 : Hid ((w.alloc (.cells arr 45)).heap[w.heap.size]? = some (.cells arr 45)) := heap_new _ _
  have HB0 : Hid (Below w.heap.size w (w.alloc (.cells arr 45))) := (Below.refl _ _).alloc (Nat.le_refl _) _
  have HS0 : Hid ((w.alloc (.cells arr 45)).heap.size = w.heap.size + 1) := by show _ = _; simp
  go_enter Tryz.func75, Tryz.ntmps75
  go_wp2
  generalize w.alloc (.cells arr 45) = W0 at *
  go_loopg [3, 4] L.length (fun g x y wr => ∃ q : Nat, Hid (q + g = L.length) ∧ x = .int .i64 q ∧ Below (w.heap.size + 1) W0 wr ∧ Hid (∀ i (h : i < L.length), i < q → edgeB n L[i] = true))
  case atStart => exact ⟨0, by show _ = _; omega, rfl, Below.refl _ _, fun i h hi => by omega⟩
  case round =>
    obtain ⟨q, hq, rfl, hB, HA⟩ := hrel
    have HW : Hid (wr.heap[w.heap.size]? = some (.cells arr 45)) := (hB.block _ (by omega)).trans HW0.out
    have hc1 := (cellOfHeap HW.out 1).trans f1
    have hz := hB.size
    rw [HS0.out] at hz
    cases gk with
    | zero =>
      have hql : ¬ (q : Int) < L.length := by have := hq.out; omega
      have HY : Hid (edgesB n L = true) := edgesB_yes (fun i h => HA.out i h (by have := hq.out; omega))
      go_wp2
      go_ret
      exact ⟨by rw [HY.out]; rfl, HB0.out.trans (hB.mono (by omega))⟩
    | succ g =>
      have hql : (q : Int) < L.length := by have := hq.out; omega
      obtain ⟨b, off, rfl, hlt, e1, e2⟩ := (HE.out.below (HB0.out.trans (hB.mono (by omega)))).at_ q (by omega)
      have HX : Hid ((wr.alloc (.cells #[.int .i64 L[q].1, .int .i64 L[q].2] 101)).heap[wr.heap.size]? = some (.cells #[.int .i64 L[q].1, .int .i64 L[q].2] 101)) := heap_new _ _
      have HC : Hid ((wr.alloc (.cells #[.int .i64 L[q].1, .int .i64 L[q].2] 101)).heap[w.heap.size]? = some (.cells arr 45)) := (Below.heap_alloc _ _ _ (by omega)).trans HW.out
      have HV : Hid (edgeB n L[q] = edgeB n (L[q].1, L[q].2)) := rfl
      have c1 := label_any arr n f0 L[q].1 (wr.alloc (.cells #[.int .i64 L[q].1, .int .i64 L[q].2] 101))
      generalize L[q].1 = x at *
      generalize L[q].2 = y at *
      have HBB : Hid (Below (w.heap.size + 1) W0 (wr.alloc (.cells #[.int .i64 x, .int .i64 y] 101))) := hB.alloc hz _
      clear HW hB
      cases hx : hasB n x
      · rw [hx] at c1
        have HF : Hid (edgesB n L = false) := edgesB_no (k := q) (by omega) (by rw [HV.out]; unfold edgeB; rw [hx]; rfl)
        clear hx HV
        go_wp2_with (first
          | (refine wpList_load_row rfl 45 _ rfl _ rfl _ _ _ _ HC.out Tryz.underlying45 rfl HI.out ?_)
          | (go_at_call 76; refine c1.mono ?_; clear c1; rintro e w2 ⟨rfl, hB2⟩))
        go_ret
        exact ⟨by rw [HF.out]; rfl, (HB0.out.trans (HBB.out.mono (by omega))).trans (hB2.mono (by simp; omega))⟩
      · rw [hx] at c1
        have HXT : Hid (hasB n x = true) := hx
        clear hx
        cases hy : hasB n y
        · have HF : Hid (edgesB n L = false) := edgesB_no (k := q) (by omega) (by rw [HV.out]; unfold edgeB; rw [hy, HXT.out]; rfl)
          have HYT : Hid (hasB n y = false) := hy
          clear hy HV
          go_wp2_with (first
            | (refine wpList_load_row rfl 45 _ rfl _ rfl _ _ _ _ HC.out Tryz.underlying45 rfl HI.out ?_)
            | (refine wpList_load_row_g 45 _ rfl rfl _ rfl _ _ _ _ HC.out Tryz.underlying45 rfl HI.out ?_)
            | (go_at_call 76; refine c1.mono ?_; clear c1; rintro e w2 ⟨rfl, hB2⟩; have HC2 : Hid (w2.heap[w.heap.size]? = some (.cells arr 45)) := (hB2.block _ (by simp; omega)).trans HC.out; clear HC; have HC := HC2; clear HC2; have HX2 : Hid (w2.heap[wr.heap.size]? = some (.cells #[.int .i64 x, .int .i64 y] 101)) := (hB2.block _ (by simp)).trans HX.out; have hf0 := cellOfHeap HX2.out 0; have hf1 := cellOfHeap HX2.out 1; have c2 := label_any arr n f0 y w2; rw [HYT.out] at c2)
            | (go_at_call 76; refine c2.mono ?_; clear c2; rintro e w3 ⟨rfl, hB3⟩; clear hf0 hf1; have hf0 := (cellOfHeap ((hB3.block _ (Array.getElem?_eq_some_iff.1 HX2.out).1).trans HX2.out) 0); have hf1 := (cellOfHeap ((hB3.block _ (Array.getElem?_eq_some_iff.1 HX2.out).1).trans HX2.out) 1)))
          have hz2 := hB2.size
          rw [World.size_alloc] at hz2
          go_ret
          exact ⟨by rw [HF.out]; rfl, ((HB0.out.trans (HBB.out.mono (by omega))).trans (hB2.mono (by simp; omega))).trans (hB3.mono (by omega))⟩
        · have HYT : Hid (hasB n y = true) := hy
          clear hy
          cases hxy : (x == y)
          · have HF : Hid (edgeB n L[q] = true) := by show _ = _; rw [HV.out]; unfold edgeB; rw [HYT.out, HXT.out, hxy]; rfl
            clear HV
            go_wp2_with (first
            | (refine wpList_load_row rfl 45 _ rfl _ rfl _ _ _ _ HC.out Tryz.underlying45 rfl HI.out ?_)
            | (refine wpList_load_row_g 45 _ rfl rfl _ rfl _ _ _ _ HC.out Tryz.underlying45 rfl HI.out ?_)
            | (go_at_call 76; refine c1.mono ?_; clear c1; rintro e w2 ⟨rfl, hB2⟩; have HC2 : Hid (w2.heap[w.heap.size]? = some (.cells arr 45)) := (hB2.block _ (by simp; omega)).trans HC.out; clear HC; have HC := HC2; clear HC2; have HX2 : Hid (w2.heap[wr.heap.size]? = some (.cells #[.int .i64 x, .int .i64 y] 101)) := (hB2.block _ (by simp)).trans HX.out; have hf0 := cellOfHeap HX2.out 0; have hf1 := cellOfHeap HX2.out 1; have c2 := label_any arr n f0 y w2; rw [HYT.out] at c2)
            | (go_at_call 76; refine c2.mono ?_; clear c2; rintro e w3 ⟨rfl, hB3⟩; clear hf0 hf1; have hf0 := (cellOfHeap ((hB3.block _ (Array.getElem?_eq_some_iff.1 HX2.out).1).trans HX2.out) 0); have hf1 := (cellOfHeap ((hB3.block _ (Array.getElem?_eq_some_iff.1 HX2.out).1).trans HX2.out) 1)))
            have hz2 := hB2.size
            rw [World.size_alloc] at hz2
            go_roundg g
            case measure => omega
            case rel =>
              refine ⟨q + 1, by show _ = _; have := hq.out; omega, by go_num, (HBB.out.trans (hB2.mono (by simp; omega))).trans (hB3.mono (by omega)), ?_⟩
              intro i' h' hi'
              by_cases e : i' = q
              · subst e; exact HF.out
              · exact HA.out i' h' (by omega)
          · have HF : Hid (edgesB n L = false) := edgesB_no (k := q) (by omega) (by rw [HV.out]; unfold edgeB; rw [HYT.out, HXT.out, hxy]; rfl)
            clear HV
            go_wp2_with (first
            | (refine wpList_load_row rfl 45 _ rfl _ rfl _ _ _ _ HC.out Tryz.underlying45 rfl HI.out ?_)
            | (refine wpList_load_row_g 45 _ rfl rfl _ rfl _ _ _ _ HC.out Tryz.underlying45 rfl HI.out ?_)
            | (go_at_call 76; refine c1.mono ?_; clear c1; rintro e w2 ⟨rfl, hB2⟩; have HC2 : Hid (w2.heap[w.heap.size]? = some (.cells arr 45)) := (hB2.block _ (by simp; omega)).trans HC.out; clear HC; have HC := HC2; clear HC2; have HX2 : Hid (w2.heap[wr.heap.size]? = some (.cells #[.int .i64 x, .int .i64 y] 101)) := (hB2.block _ (by simp)).trans HX.out; have hf0 := cellOfHeap HX2.out 0; have hf1 := cellOfHeap HX2.out 1; have c2 := label_any arr n f0 y w2; rw [HYT.out] at c2)
            | (go_at_call 76; refine c2.mono ?_; clear c2; rintro e w3 ⟨rfl, hB3⟩; clear hf0 hf1; have hf0 := (cellOfHeap ((hB3.block _ (Array.getElem?_eq_some_iff.1 HX2.out).1).trans HX2.out) 0); have hf1 := (cellOfHeap ((hB3.block _ (Array.getElem?_eq_some_iff.1 HX2.out).1).trans HX2.out) 1)))
            have hz2 := hB2.size
            rw [World.size_alloc] at hz2
            go_ret
            exact ⟨by rw [HF.out]; rfl, ((HB0.out.trans (HBB.out.mono (by omega))).trans (hB2.mono (by simp; omega))).trans (hB3.mono (by omega))⟩
end Go.Proofs.YtllcbnfmihfaaaaGreatDoor
