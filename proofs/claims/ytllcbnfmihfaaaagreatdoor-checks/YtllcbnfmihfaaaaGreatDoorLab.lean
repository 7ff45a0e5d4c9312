import Derived.Test.YtllcbnfmihfaaaaGreatDoorBase
namespace Go.Proofs.YtllcbnfmihfaaaaGreatDoor
open Go.RowKit

def cyc2 (m : Nat → Nat → Bool) (a b : Nat) : Bool := m a b && m b a
def hasCycleB (n : Nat) (m : Nat → Nat → Bool) : Bool := (List.range n).any fun a => (List.range a).any fun b => cyc2 m a b
theorem hasCycle_yes {n : Nat} {m : Nat → Nat → Bool} {a b : Nat} (ha : a < n) (hb : b < a) (h : cyc2 m a b = true) : hasCycleB n m = true := by
  unfold hasCycleB
  rw [List.any_eq_true]
  refine ⟨a, List.mem_range.2 ha, ?_⟩
  rw [List.any_eq_true]
  exact ⟨b, List.mem_range.2 hb, h⟩
theorem hasCycle_no {n : Nat} {m : Nat → Nat → Bool} (h : ∀ a b, a < n → b < a → cyc2 m a b = false) : hasCycleB n m = false := by
  unfold hasCycleB
  rw [List.any_eq_false]
  intro a ha
  rw [List.any_eq_true]
  rintro ⟨b, hb, hc⟩
  rw [h a b (List.mem_range.1 ha) (List.mem_range.1 hb)] at hc
  cases hc

set_option maxRecDepth 100000 in
set_option maxHeartbeats 1000000 in
theorem hasCycle_any (arr : Array Value) (n : Nat) (m : Nat → Nat → Bool) (H : IsOrd arr n m) (hn : n ≤ 6) (w : World) :
    Calls Tryz.prog 133 #[.agg arr] w fun e w' => e = .returned (.bool (hasCycleB n m)) ∧ Below w.heap.size w w' := by
  have HA : Hid (∀ i j, i < 6 → j < 6 → arr[1 + i * 6 + j]? = some (.bool (m i j))) := H.at_
  have h0 := H.count
  clear H
  go_enter Tryz.func133, Tryz.ntmps133
  go_wp2
  go_loopg [7, 3] n (fun g x y wr => ∃ k : Nat, Hid (k + g = n) ∧ x = .int .i64 k ∧ w.alloc (.cells arr 107) = wr ∧ Hid (∀ a b, a < k → b < a → cyc2 m a b = false))
  case atStart => exact ⟨0, by show _ = _; omega, rfl, rfl, fun a b ha => by omega⟩
  case round =>
    obtain ⟨k, hk, rfl, rfl, HL⟩ := hrel
    cases gk with
    | zero =>
      have hlt : ¬ (k : Int) < n := by have := hk.out; omega
      go_wp2
      go_ret
      exact ⟨by rw [hasCycle_no (fun a b ha hb => HL.out a b (by have := hk.out; omega) hb)]; rfl, (Below.refl _ _).alloc (Nat.le_refl _) _⟩
    | succ g =>
      have hlt : (k : Int) < n := by have := hk.out; omega
      have hk6 : k < 6 := by omega
      go_wp2
      go_loopg [11, 4] k (fun g x y wr => ∃ q : Nat, Hid (q + g = k) ∧ x = .int .i64 q ∧ w.alloc (.cells arr 107) = wr ∧ Hid (∀ b, b < q → cyc2 m k b = false))
      case atStart => exact ⟨0, by show _ = _; omega, rfl, rfl, fun b hb => by omega⟩
      case round =>
        obtain ⟨q, hq, rfl, rfl, HQ⟩ := hrel
        cases gk with
        | zero =>
          have hql : ¬ (q : Int) < k := by have := hq.out; omega
          go_wp2
          go_roundg g
          case measure => omega
          case rel =>
            refine ⟨k + 1, by show _ = _; have := hk.out; omega, by go_num, rfl, fun a b ha hb => ?_⟩
            by_cases e : a = k
            · subst e; exact HQ.out b (by have := hq.out; omega)
            · exact HL.out a b (by omega) hb
        | succ g2 =>
          have hql : (q : Int) < k := by have := hq.out; omega
          have hq6 : q < 6 := by omega
          have h1 := HA.out k q hk6 hq6
          have h2 := HA.out q k hq6 hk6
          cases e1 : m k q
          · rw [e1] at h1
            have HE : Hid (m k q = false) := e1
            clear e1
            go_wp2
            go_roundg g2
            case measure => omega
            case rel =>
              refine ⟨q + 1, by show _ = _; have := hq.out; omega, by go_num, rfl, fun b hb => ?_⟩
              by_cases e : b = q
              · subst e; unfold cyc2; rw [HE.out]; rfl
              · exact HQ.out b (by omega)
          · rw [e1] at h1
            have HE : Hid (m k q = true) := e1
            clear e1
            cases e2 : m q k
            · rw [e2] at h2
              have HF : Hid (m q k = false) := e2
              clear e2
              go_wp2
              go_roundg g2
              case measure => omega
              case rel =>
                refine ⟨q + 1, by show _ = _; have := hq.out; omega, by go_num, rfl, fun b hb => ?_⟩
                by_cases e : b = q
                · subst e; unfold cyc2; rw [HE.out, HF.out]; rfl
                · exact HQ.out b (by omega)
            · rw [e2] at h2
              have HF : Hid (m q k = true) := e2
              clear e2
              go_wp2
              go_ret
              exact ⟨by rw [hasCycle_yes (a := k) (b := q) (by omega) (by omega) (by unfold cyc2; rw [HE.out, HF.out]; rfl)]; rfl, (Below.refl _ _).alloc (Nat.le_refl _) _⟩

set_option maxRecDepth 100000 in
set_option maxHeartbeats 400000 in
theorem atMost_any (arr : Array Value) (n : Nat) (m : Nat → Nat → Bool) (H : IsOrd arr n m) (hn : n ≤ 6) (a b : Nat) (ha : a < n) (hb : b < n) (w : World) :
    Calls Tryz.prog 151 #[.agg arr, .int .i64 a, .int .i64 b] w fun e w' => e = .returned (.bool (m a b)) ∧ Below w.heap.size w w' := by
  have h := H.at_ a b (by omega) (by omega)
  have h0 := H.count
  have HI : Hid ((Tryz.prog.info? 107).map (·.size) = some arr.size) := infoOrd H.size
  clear H
  have e1 : hasB n a = true := by unfold hasB; exact decide_eq_true (by omega)
  have e2 : hasB n b = true := by unfold hasB; exact decide_eq_true (by omega)
  go_enter Tryz.func151, Tryz.ntmps151
  have hw := heap_new w (.cells arr 107)
  have HW : Hid ((w.alloc (.cells arr 107)).heap[w.heap.size]? = some (.cells arr 107)) := hw
  clear hw
  have c1 := has_any arr n h0 a (w.alloc (.cells arr 107))
  rw [e1] at c1
  go_wp2_with (first
    | (refine wpList_load_row rfl 107 _ rfl _ rfl _ arr _ _ HW.out Tryz.underlying107 rfl HI.out ?_)
    | (refine wpList_load_row_g 107 _ rfl rfl _ rfl _ arr _ _ HW.out Tryz.underlying107 rfl HI.out ?_)
    | (go_at_call 132; refine c1.mono ?_; clear c1; rintro e w2 ⟨rfl, hB2⟩; have HW2 : Hid (w2.heap[w.heap.size]? = some (.cells arr 107)) := (hB2.block _ (by simp)).trans HW.out; clear HW; have HW := HW2; clear HW2; have c2 := has_any arr n h0 b w2; rw [e2] at c2; have hz := hB2.size; rw [World.size_alloc] at hz)
    | (go_at_call 132; refine c2.mono ?_; clear c2; rintro e w3 ⟨rfl, hB3⟩; have hc3 := (cellOfHeap ((hB3.block _ (by omega)).trans HW.out) (1 + a * 6 + b)).trans h))
  go_ret
  exact ⟨rfl, (((Below.refl _ _).alloc (Nat.le_refl _) _).trans (hB2.mono (by simp))).trans (hB3.mono (by omega))⟩
end Go.Proofs.YtllcbnfmihfaaaaGreatDoor
