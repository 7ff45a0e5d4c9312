import Derived.Test.YtllcbnfmihfaaaaGreatDoorLq00
namespace Go.Proofs.YtllcbnfmihfaaaaGreatDoor
open Go.RowKit

def cyc2 (m : Nat → Nat → Bool) (a b : Nat) : Bool := m a b && m b a
def hasCycleB (n : Nat) (m : Nat → Nat → Bool) : Bool := (List.range n).any fun a => (List.range a).any fun b => cyc2 m a b
theorem hasCycle_yes {n : Nat} {m : Nat → Nat → Bool} {a b : Nat} (ha : a < n) (hb : b < a) (h : cyc2 m a b = true) : hasCycleB n m = true := by
  unfold hasCycleB
  rw [List.any_eq_true]
  refine ⟨a, List.mem_range.2 ha, ?_⟩
  rw [List.any_eq_true]
  exact ⟨b, List.mem_range.2 hb, h⟩
theorem hasCycle_no {n : Nat} {m : Nat → Nat → Bool} (h : ∀ a b, a < n → b < a → cyc2 m a b = false) : hasCycleB n m = false := by
  unfold hasCycleB
  rw [List.any_eq_false]
  intro a ha
  rw [List.any_eq_true]
  rintro ⟨b, hb, hc⟩
  rw [h a b (List.mem_range.1 ha) (List.mem_range.1 hb)] at hc
  cases hc

set_option maxRecDepth 100000 in
set_option maxHeartbeats 1000000 in
theorem hasCycle_any (arr : Array Value) (n : Nat) (m : Nat → Nat → Bool) (H : IsOrd arr n m) (hn : n ≤ 6) (w : World) :
    Calls Tryz.prog 133 #[.agg arr] w fun e w' => e = .returned (.bool (hasCycleB n m)) ∧ Below w.heap.size w w' := by
  have HA : Hid (∀ i j, i < 6 → j < 6 → arr[1 + i * 6 + j]? = some (.bool (m i j))) := H.at_
  have h0 := H.count
  clear H
  go_enter Tryz.func133, Tryz.ntmps133
  go_wp2
  go_loopg [7, 3] n (fun g x y wr => ∃ k : Nat, Hid (k + g = n) ∧ x = .int .i64 k ∧ w.alloc (.cells arr 107) = wr ∧ Hid (∀ a b, a < k → b < a → cyc2 m a b = false))
  case atStart => exact ⟨0, by show _ = _; omega, rfl, rfl, fun a b ha => by omega⟩
  case round =>
    obtain ⟨k, hk, rfl, rfl, HL⟩ := hrel
    cases gk with
    | zero =>
      have hlt : ¬ (k : Int) < n := by have := hk.out; omega
      go_wp2
      go_ret
      exact ⟨by rw [hasCycle_no (fun a b ha hb => HL.out a b (by have := hk.out; omega) hb)]; rfl, (Below.refl _ _).alloc (Nat.le_refl _) _⟩
    | succ g =>
      have hlt : (k : Int) < n := by have := hk.out; omega
      have hk6 : k < 6 := by omega
      go_wp2
      go_loopg [11, 4] k (fun g x y wr => ∃ q : Nat, Hid (q + g = k) ∧ x = .int .i64 q ∧ w.alloc (.cells arr 107) = wr ∧ Hid (∀ b, b < q → cyc2 m k b = false))
      case atStart => exact ⟨0, by show _ = _; omega, rfl, rfl, fun b hb => by omega⟩
      case round =>
        obtain ⟨q, hq, rfl, rfl, HQ⟩ := hrel
        cases gk with
        | zero =>
          have hql : ¬ (q : Int) < k := by have := hq.out; omega
          go_wp2
          go_roundg g
          case measure => omega
          case rel =>
            refine ⟨k + 1, by show _ = _; have := hk.out; omega, by go_num, rfl, fun a b ha hb => ?_⟩
            by_cases e : a = k
            · subst e; exact HQ.out b (by have := hq.out; omega)
            · exact HL.out a b (by omega) hb
        | succ g2 =>
          have hql : (q : Int) < k := by have := hq.out; omega
          have hq6 : q < 6 := by omega
          have h1 := HA.out k q hk6 hq6
          have h2 := HA.out q k hq6 hk6
          cases e1 : m k q
          · rw [e1] at h1
            have HE : Hid (m k q = false) := e1
            clear e1
            go_wp2
            go_roundg g2
            case measure => omega
            case rel =>
              refine ⟨q + 1, by show _ = _; have := hq.out; omega, by go_num, rfl, fun b hb => ?_⟩
              by_cases e : b = q
              · subst e; unfold cyc2; rw [HE.out]; rfl
              · exact HQ.out b (by omega)
          · rw [e1] at h1
            have HE : Hid (m k q = true) := e1
            clear e1
            cases e2 : m q k
            · rw [e2] at h2
              have HF : Hid (m q k = false) := e2
              clear e2
              go_wp2
              go_roundg g2
              case measure => omega
              case rel =>
                refine ⟨q + 1, by show _ = _; have := hq.out; omega, by go_num, rfl, fun b hb => ?_⟩
                by_cases e : b = q
                · subst e; unfold cyc2; rw [HE.out, HF.out]; rfl
                · exact HQ.out b (by omega)
            · rw [e2] at h2
              have HF : Hid (m q k = true) := e2
              clear e2
              go_wp2
              go_ret
              exact ⟨by rw [hasCycle_yes (a := k) (b := q) (by omega) (by omega) (by unfold cyc2; rw [HE.out, HF.out]; rfl)]; rfl, (Below.refl _ _).alloc (Nat.le_refl _) _⟩

set_option maxRecDepth 100000 in
set_option maxHeartbeats 400000 in
theorem atMost_any (arr : Array Value) (n : Nat) (m : Nat → Nat → Bool) (H : IsOrd arr n m) (hn : n ≤ 6) (a b : Nat) (ha : a < n) (hb : b < n) (w : World) :
    Calls Tryz.prog 151 #[.agg arr, .int .i64 a, .int .i64 b] w fun e w' => e = .returned (.bool (m a b)) ∧ Below w.heap.size w w' := by
  have h := H.at_ a b (by omega) (by omega)
  have h0 := H.count
  have HI : Hid ((Tryz.prog.info? 107).map (·.size) = some arr.size) := infoOrd H.size
  clear H
  have e1 : hasB n a = true := by unfold hasB; exact decide_eq_true (by omega)
  have e2 : hasB n b = true := by unfold hasB; exact decide_eq_true (by omega)
  go_enter Tryz.func151, Tryz.ntmps151
  have hw := heap_new w (.cells arr 107)
  have HW : Hid ((w.alloc (.cells arr 107)).heap[w.heap.size]? = some (.cells arr 107)) := hw
  clear hw
  have c1 := has_any arr n h0 a (w.alloc (.cells arr 107))
  rw [e1] at c1
  go_wp2_with (first
    | (refine wpList_load_row rfl 107 _ rfl _ rfl _ arr _ _ HW.out Tryz.underlying107 rfl HI.out ?_)
    | (refine wpList_load_row_g 107 _ rfl rfl _ rfl _ arr _ _ HW.out Tryz.underlying107 rfl HI.out ?_)
    | (go_at_call 132; refine c1.mono ?_; clear c1; rintro e w2 ⟨rfl, hB2⟩; have HW2 : Hid (w2.heap[w.heap.size]? = some (.cells arr 107)) := (hB2.block _ (by simp)).trans HW.out; clear HW; have HW := HW2; clear HW2; have c2 := has_any arr n h0 b w2; rw [e2] at c2; have hz := hB2.size; rw [World.size_alloc] at hz)
    | (go_at_call 132; refine c2.mono ?_; clear c2; rintro e w3 ⟨rfl, hB3⟩; have hc3 := (cellOfHeap ((hB3.block _ (by omega)).trans HW.out) (1 + a * 6 + b)).trans h))
  go_ret
  exact ⟨rfl, (((Below.refl _ _).alloc (Nat.le_refl _) _).trans (hB2.mono (by simp))).trans (hB3.mono (by omega))⟩
end Go.Proofs.YtllcbnfmihfaaaaGreatDoor
namespace Go.Proofs.YtllcbnfmihfaaaaGreatDoor
open Go.RowKit
theorem setRow_other' (w : World) (g i : Nat) (cs : Array Value) (h : i ≠ g) : (w.setRow g cs).heap[i]? = w.heap[i]? := setRow_other w g i cs h
theorem below_setRow {B : Nat} {a w : World} (h : Below B a w) {g : Nat} (hg : B ≤ g) (cs : Array Value) : Below B a (w.setRow g cs) :=
  h.trans ⟨rfl, rfl, rfl, by simp, fun k hk => setRow_other w g k cs (by omega)⟩

/-- WHAT 'turned' STANDS ON BEHIND ITS FIRST STATEMENTS -/
structure TurnAt (w W : World) (arr : Array Value) (n : Nat) (M : Nat → Nat → Bool) : Prop where
  below : Below w.heap.size w W
  box : W.heap[w.heap.size]? = some (.cells arr 107)
  res : W.heap[w.heap.size + 1]? = some (.cells zOrd 107)
  own : W.heap[w.heap.size + 1 + 1]? = some (.cells (ordArr n M) 107)

theorem turnAt_mk (w : World) (arr : Array Value) (n : Nat) :
    TurnAt w ((((w.alloc (.cells arr 107)).alloc (.cells zOrd 107)).alloc (.cells zOrd 107)).setRow (w.heap.size + 1 + 1) (ordArr n fun _ _ => false)) arr n (fun _ _ => false) := by
  refine ⟨below_setRow ((((Below.refl _ _).alloc (Nat.le_refl _) _).alloc (by simp) _).alloc (by simp; omega) _) (by omega) _, ?_, ?_, ?_⟩
  · rw [setRow_other' _ _ _ _ (by omega), Below.heap_alloc _ _ _ (by simp; omega), Below.heap_alloc _ _ _ (by simp)]; exact heap_new w _
  · rw [setRow_other' _ _ _ _ (by omega), Below.heap_alloc _ _ _ (by simp)]; have := heap_new (w.alloc (.cells arr 107)) (.cells zOrd 107); rwa [World.size_alloc] at this
  · refine setRow_heap _ _ zOrd _ 107 (0, 0) ?_
    have := heap_new ((w.alloc (.cells arr 107)).alloc (.cells zOrd 107)) (.cells zOrd 107); rwa [World.size_alloc, World.size_alloc] at this
theorem TurnAt.set {w W : World} {arr : Array Value} {n : Nat} {M : Nat → Nat → Bool} (h : TurnAt w W arr n M) {i j : Nat} (hi : i < 6) (hj : j < 6) (b : Bool) :
    TurnAt w (W.setCell ⟨w.heap.size + 1 + 1, 1 + i * 6 + j, none⟩ (.bool b)) arr n (upd M i j b) :=
  ⟨h.below.setCell (by simp; omega) _, (heap_setCell_other W _ _ _ (by simp; omega)).trans h.box, (heap_setCell_other W _ _ _ (by simp)).trans h.res,
    by rw [heap_setCell_same W _ _ _ _ _ h.own, ordArr_set n M i j b hi hj]⟩
theorem TurnAt.drew {w W : World} {arr : Array Value} {n : Nat} {M : Nat → Nat → Bool} (h : TurnAt w W arr n M) : TurnAt w W.drew arr n M := ⟨h.below.drew, h.box, h.res, h.own⟩

def trM (n : Nat) (m : Nat → Nat → Bool) (k q : Nat) : Nat → Nat → Bool := fun i j => decide (j < n ∧ (i < k ∨ (i = k ∧ j < q))) && m j i
theorem trM_zero (n : Nat) (m : Nat → Nat → Bool) : trM n m 0 0 = fun _ _ => false := by
  funext i j; simp [trM]
theorem trM_step (n : Nat) (m : Nat → Nat → Bool) (k q : Nat) (hq : q < n) : upd (trM n m k q) k q (m q k) = trM n m k (q + 1) := by
  funext i j
  unfold upd trM
  by_cases h : i = k ∧ j = q
  · obtain ⟨rfl, rfl⟩ := h
    simp [hq]
  · rw [if_neg h]
    congr 1
    exact decide_eq_decide.2 (by omega)
theorem trM_row (n : Nat) (m : Nat → Nat → Bool) (k : Nat) : trM n m k n = trM n m (k + 1) 0 := by
  funext i j
  unfold trM
  congr 1
  exact decide_eq_decide.2 (by omega)
theorem trM_at (n : Nat) (m : Nat → Nat → Bool) (i j : Nat) (hi : i < n) (hj : j < n) : trM n m n 0 i j = m j i := by
  unfold trM
  rw [decide_eq_true (by omega), Bool.true_and]

set_option maxRecDepth 100000 in
set_option maxHeartbeats 1000000 in
theorem turned_any (arr : Array Value) (n : Nat) (m : Nat → Nat → Bool) (H : IsOrd arr n m) (hn : n ≤ 6) (w : World) :
    Calls Tryz.prog 181 #[.agg arr] w fun e w' => e = .returned (.agg (ordArr n (trM n m n 0))) ∧ Below w.heap.size w w' := by
  have HA : Hid (∀ i j, i < 6 → j < 6 → arr[1 + i * 6 + j]? = some (.bool (m i j))) := H.at_
  have h0 := H.count
  clear H
  have HT := turnAt_mk w arr n
  have HH : Hid ((((w.alloc (.cells arr 107)).alloc (.cells zOrd 107)).alloc (.cells zOrd 107)).heap[w.heap.size + 1 + 1]? = some (.cells zOrd 107)) := by
    have := heap_new ((w.alloc (.cells arr 107)).alloc (.cells zOrd 107)) (.cells zOrd 107)
    rw [World.size_alloc, World.size_alloc] at this
    exact this
  have HZ : Hid (zOrd.size = (ordArr n fun _ _ => false).size) := by rw [ordArr_size]; exact ordArr_size _ _
  generalize hW : (((w.alloc (.cells arr 107)).alloc (.cells zOrd 107)).alloc (.cells zOrd 107)).setRow (w.heap.size + 1 + 1) (ordArr n fun _ _ => false) = W at HT
  have HD : Hid (_ = W) := hW
  clear hW
  have hc0 := (cellOfHeap HT.box 0).trans h0
  have HTT : Hid (TurnAt w W arr n fun _ _ => false) := HT
  clear HT
  go_enter Tryz.func181, Tryz.ntmps181
  go_wp2_with (first
    | (refine wpList_allocOrd rfl rfl _ rfl (w.heap.size + 1) ?hN ?_; case hN => (simp only [World.size_alloc]; done))
    | (refine wpList_allocOrd rfl rfl _ rfl (w.heap.size + 1 + 1) ?hN ?_; case hN => (simp only [World.size_alloc]; done))
    | (refine wpList_buildAt rfl 107 _ rfl _ rfl _ [(0, .int .i64 n)] ?hl (built_ord n) ?_; case hl => simp [go_sem])
    | (refine wpList_store_row rfl 107 _ _ rfl _ _ rfl rfl 107 zOrd HH.out (infoOrd (ordArr_size _ _)) HZ.out (ordArr_all _ _) ?_; rw [HD.out]))
  go_loopg [11, 4] n (fun g x y wr => ∃ k : Nat, Hid (k + g = n) ∧ x = .int .i64 k ∧ Hid (TurnAt w wr arr n (trM n m k 0)))
  case atStart => exact ⟨0, by show _ = _; omega, rfl, by rw [trM_zero]; exact HTT⟩
  case round =>
    obtain ⟨k, hk, rfl, HL⟩ := hrel
    clear hc0 HTT HD
    have hc0 := (cellOfHeap HL.out.box 0).trans h0
    cases gk with
    | zero =>
      have hlt : ¬ (k : Int) < n := by have := hk.out; omega
      have e : k = n := by have := hk.out; omega
      subst e
      go_wp2_with (first
        | (refine wpList_load_row rfl 107 _ rfl _ rfl _ _ _ _ HL.out.own Tryz.underlying107 rfl (infoOrd (ordArr_size _ _)) ?_)
        | (refine wpList_store_row rfl 107 _ _ rfl _ _ rfl rfl 107 zOrd HL.out.res (infoOrd (ordArr_size _ _)) (by rw [ordArr_size]; exact ordArr_size _ _) (ordArr_all _ _) ?_))
      refine bodyPost_ret (results_cell_row Tryz.results181 _ _ (w.heap.size + 1) 107 (ordArr k (trM k m k 0)) (0, 0) _ rfl (setRow_heap _ _ zOrd _ _ _ HL.out.res) Tryz.underlying107 rfl (infoOrd (ordArr_size _ _))) rfl ⟨rfl, below_setRow HL.out.below (by omega) _⟩
    | succ g =>
      have hlt : (k : Int) < n := by have := hk.out; omega
      have hk6 : k < 6 := by omega
      go_wp2
      go_loopg [16, 5] n (fun g x y wr => ∃ q : Nat, Hid (q + g = n) ∧ x = .int .i64 q ∧ Hid (TurnAt w wr arr n (trM n m k q)))
      case atStart => exact ⟨0, by show _ = _; omega, rfl, HL⟩
      case round =>
        obtain ⟨q, hq, rfl, HQ⟩ := hrel
        clear hc0
        cases gk with
        | zero =>
          have hql : ¬ (q : Int) < n := by have := hq.out; omega
          go_wp2
          go_roundg g
          case measure => omega
          case rel =>
            have e : q = n := by have := hq.out; omega
            exact ⟨k + 1, by show _ = _; have := hk.out; omega, by go_num, by have := HQ.out; rw [e, trM_row] at this; exact this⟩
        | succ g2 =>
          have hql : (q : Int) < n := by have := hq.out; omega
          have hq6 : q < 6 := by omega
          have h1 := (cellOfHeap HQ.out.box _).trans (HA.out q k hq6 hk6)
          have h2 := (cellOfHeap HQ.out.own _).trans ((isOrd_ordArr n (trM n m k q)).at_ k q hk6 hq6)
          have h3 := frozen_of_row wr (w.heap.size + 1 + 1) (1 + k * 6 + q) _ _ HQ.out.own
          go_wp2
          go_region
          all_goals go_wp2
          go_roundg g2
          case measure => omega
          case rel => exact ⟨q + 1, by show _ = _; have := hq.out; omega, by go_num, by have := (HQ.out.set hk6 hq6 (m q k)).drew; rw [trM_step n m k q (by omega)] at this; exact this⟩
end Go.Proofs.YtllcbnfmihfaaaaGreatDoor
namespace Go.Proofs.YtllcbnfmihfaaaaGreatDoor
open Go.RowKit

def pairB (n : Nat) (m : Nat → Nat → Bool) (a b : Nat) : Bool := hasJoinB n m a b && hasJoinB n (fun i j => m j i) a b
def isLatticeB (n : Nat) (m : Nat → Nat → Bool) : Bool := (List.range n).all fun a => (List.range a).all fun b => pairB n m a b
theorem isLattice_no {n : Nat} {m : Nat → Nat → Bool} {a b : Nat} (ha : a < n) (hb : b < a) (h : pairB n m a b = false) : isLatticeB n m = false := by
  unfold isLatticeB
  rw [List.all_eq_false]
  refine ⟨a, List.mem_range.2 ha, ?_⟩
  rw [Bool.not_eq_true, List.all_eq_false]
  exact ⟨b, List.mem_range.2 hb, by rw [h]; decide⟩
theorem isLattice_yes {n : Nat} {m : Nat → Nat → Bool} (h : ∀ a b, a < n → b < a → pairB n m a b = true) : isLatticeB n m = true := by
  unfold isLatticeB
  rw [List.all_eq_true]
  intro a ha
  rw [List.all_eq_true]
  intro b hb
  exact h a b (List.mem_range.1 ha) (List.mem_range.1 hb)

theorem ubB_congr {n : Nat} {m m' : Nat → Nat → Bool} (h : ∀ i j, i < n → j < n → m i j = m' i j) {a b k : Nat} (ha : a < n) (hb : b < n) (hk : k < n) : ubB m a b k = ubB m' a b k := by
  unfold ubB; rw [h a k ha hk, h b k hb hk]
theorem leastB_congr {n : Nat} {m m' : Nat → Nat → Bool} (h : ∀ i j, i < n → j < n → m i j = m' i j) {a b k : Nat} (ha : a < n) (hb : b < n) (hk : k < n) : leastB n m a b k = leastB n m' a b k := by
  unfold leastB
  rw [ubB_congr h ha hb hk]
  congr 1
  rw [Bool.eq_iff_iff, List.all_eq_true, List.all_eq_true]
  constructor
  · intro g j hj
    have hj' := List.mem_range.1 hj
    rw [← ubB_congr h ha hb hj', ← h k j hk hj']; exact g j hj
  · intro g j hj
    have hj' := List.mem_range.1 hj
    rw [ubB_congr h ha hb hj', h k j hk hj']; exact g j hj
theorem hasJoinB_congr {n : Nat} {m m' : Nat → Nat → Bool} (h : ∀ i j, i < n → j < n → m i j = m' i j) {a b : Nat} (ha : a < n) (hb : b < n) : hasJoinB n m a b = hasJoinB n m' a b := by
  unfold hasJoinB
  rw [Bool.eq_iff_iff, List.any_eq_true, List.any_eq_true]
  constructor
  · rintro ⟨k, hk, g⟩
    exact ⟨k, hk, by rw [← leastB_congr h ha hb (List.mem_range.1 hk)]; exact g⟩
  · rintro ⟨k, hk, g⟩
    exact ⟨k, hk, by rw [leastB_congr h ha hb (List.mem_range.1 hk)]; exact g⟩

set_option maxRecDepth 100000 in
set_option maxHeartbeats 1000000 in
theorem isLattice_any (arr : Array Value) (n : Nat) (m : Nat → Nat → Bool) (H : IsOrd arr n m) (hn : n ≤ 6) (w : World) :
    Calls Tryz.prog 134 #[.agg arr] w fun e w' => e = .returned (.bool (isLatticeB n m)) ∧ Below w.heap.size w w' := by
  have h0 := H.count
  have HO : Hid (IsOrd arr n m) := H
  have HI : Hid ((Tryz.prog.info? 107).map (·.size) = some arr.size) := infoOrd H.size
  clear H
  have HW : Hid ((w.alloc (.cells arr 107)).heap[w.heap.size]? = some (.cells arr 107)) := heap_new w (.cells arr 107)
  have HB : Hid (Below w.heap.size w (w.alloc (.cells arr 107))) := (Below.refl w.heap.size w).alloc (Nat.le_refl _) (.cells arr 107)
  have cT := turned_any arr n m HO.out hn (w.alloc (.cells arr 107))
  go_enter Tryz.func134, Tryz.ntmps134
  go_wp2_with (first
    | (refine wpList_load_row rfl 107 _ rfl _ rfl _ arr _ _ HW.out Tryz.underlying107 rfl HI.out ?_)
    | (go_at_call 181; refine cT.mono ?_; clear cT; rintro e w2 ⟨rfl, hB2⟩; have hz := hB2.size; rw [World.size_alloc] at hz)
    | (refine wpList_allocOrd rfl rfl _ rfl w2.heap.size rfl ?_)
    | (refine wpList_store_row rfl 107 _ _ rfl _ _ rfl rfl 107 zOrd (heap_new w2 _) (infoOrd (ordArr_size _ _)) (by rw [ordArr_size]; exact ordArr_size _ _) (ordArr_all _ _) ?_; rw [World.setRow_alloc_new]; have hc0 : (w2.alloc (.cells (ordArr n (trM n m n 0)) 107)).cell? ⟨w.heap.size, 0, none⟩ = some (.int .i64 n) := (cellOfHeap ((Below.heap_alloc _ _ _ (by omega)).trans ((hB2.block _ (by simp)).trans HW.out)) 0).trans h0))
  have HX : Hid ((w2.alloc (.cells (ordArr n (trM n m n 0)) 107)).heap[w.heap.size]? = some (.cells arr 107)) := (Below.heap_alloc _ _ _ (by omega)).trans ((hB2.block _ (by simp)).trans HW.out)
  have HY : Hid ((w2.alloc (.cells (ordArr n (trM n m n 0)) 107)).heap[w2.heap.size]? = some (.cells (ordArr n (trM n m n 0)) 107)) := heap_new _ _
  have HZ : Hid ((w2.alloc (.cells (ordArr n (trM n m n 0)) 107)).heap.size = w2.heap.size + 1) := by show _ = _; simp
  have HBB : Hid (Below w.heap.size w (w2.alloc (.cells (ordArr n (trM n m n 0)) 107))) := (HB.out.trans (hB2.mono (by simp))).alloc (by omega) _
  clear hc0 hB2 HW HB
  generalize w2.alloc (.cells (ordArr n (trM n m n 0)) 107) = W3 at *
  have hN : Hid (w.heap.size < w2.heap.size) := by show _ < _; omega
  generalize w2.heap.size = N3 at *
  go_loopg [10, 4] n (fun g x y wr => ∃ k : Nat, Hid (k + g = n) ∧ x = .int .i64 k ∧ Below (N3 + 1) W3 wr ∧ Hid (∀ a b, a < k → b < a → pairB n m a b = true))
  case atStart => exact ⟨0, by show _ = _; omega, rfl, Below.refl _ _, fun a b ha => by omega⟩
  case round =>
    obtain ⟨k, hk, rfl, hB, HL⟩ := hrel
    cases gk with
    | zero =>
      have hlt : ¬ (k : Int) < n := by have := hk.out; omega
      go_wp2
      go_ret
      exact ⟨by rw [isLattice_yes (fun a b ha hb => HL.out a b (by have := hk.out; omega) hb)]; rfl, HBB.out.trans (hB.mono (by have := hN.out; omega))⟩
    | succ g =>
      have hlt : (k : Int) < n := by have := hk.out; omega
      have hk6 : k < 6 := by omega
      go_wp2
      go_loopg [14, 5] k (fun g x y wr => ∃ q : Nat, Hid (q + g = k) ∧ x = .int .i64 q ∧ Below (N3 + 1) W3 wr ∧ Hid (∀ b, b < q → pairB n m k b = true))
      case atStart => exact ⟨0, by show _ = _; omega, rfl, hB, fun b hb => by omega⟩
      case round =>
        clear hB
        obtain ⟨q, hq, rfl, hB, HQ⟩ := hrel
        cases gk with
        | zero =>
          have hql : ¬ (q : Int) < k := by have := hq.out; omega
          go_wp2
          go_roundg g
          case measure => omega
          case rel =>
            refine ⟨k + 1, by show _ = _; have := hk.out; omega, by go_num, hB, fun a b ha hb => ?_⟩
            by_cases e : a = k
            · subst e; exact HQ.out b (by have := hq.out; omega)
            · exact HL.out a b (by omega) hb
        | succ g2 =>
          have hql : (q : Int) < k := by have := hq.out; omega
          have hq6 : q < 6 := by omega
          have HX2 : Hid (wr.heap[w.heap.size]? = some (.cells arr 107)) := (hB.block _ (by have := hN.out; omega)).trans HX.out
          have HY2 : Hid (wr.heap[N3]? = some (.cells (ordArr n (trM n m n 0)) 107)) := (hB.block _ (by omega)).trans HY.out
          have hz := hB.size
          rw [HZ.out] at hz
          have c1 := hasJoin_any arr n m HO.out hn k q hk6 hq6 wr
          have HE : Hid (hasJoinB n (trM n m n 0) k q = hasJoinB n (fun i j => m j i) k q) := hasJoinB_congr (fun i j hi hj => trM_at n m i j hi hj) (by omega) (by omega)
          cases e1 : hasJoinB n m k q
          · rw [e1] at c1
            have HF : Hid (pairB n m k q = false) := by show _ = _; unfold pairB; rw [e1]; rfl
            clear e1
            go_wp2_with (first
              | (refine wpList_load_row rfl 107 _ rfl _ rfl _ arr _ _ HX2.out Tryz.underlying107 rfl HI.out ?_)
              | (go_at_call 182; refine c1.mono ?_; clear c1; rintro e w4 ⟨rfl, hB4⟩))
            go_ret
            exact ⟨by rw [isLattice_no (a := k) (b := q) (by omega) (by omega) HF.out]; rfl, HBB.out.trans ((hB.mono (by have := hN.out; omega)).trans (hB4.mono (by have := hN.out; omega)))⟩
          · rw [e1] at c1
            have HE1 : Hid (hasJoinB n m k q = true) := e1
            clear e1
            cases e2 : hasJoinB n (fun i j => m j i) k q
            · have HF : Hid (pairB n m k q = false) := by show _ = _; unfold pairB; rw [e2, HE1.out]; rfl
              have HG : Hid (hasJoinB n (trM n m n 0) k q = false) := HE.out.trans e2
              clear e2 HE
              go_wp2_with (first
                | (refine wpList_load_row rfl 107 _ rfl _ rfl _ arr _ _ HX2.out Tryz.underlying107 rfl HI.out ?_)
                | (go_at_call 182; refine c1.mono ?_; clear c1; rintro e w4 ⟨rfl, hB4⟩; have c2 := hasJoin_any _ n _ (isOrd_ordArr n (trM n m n 0)) hn k q hk6 hq6 w4; rw [HG.out] at c2; have HY4 : Hid (w4.heap[N3]? = some (.cells (ordArr n (trM n m n 0)) 107)) := (hB4.block _ (by omega)).trans HY2.out)
                | (refine wpList_load_row_g 107 _ rfl rfl _ rfl _ _ _ _ HY4.out Tryz.underlying107 rfl (infoOrd (ordArr_size _ _)) ?_)
                | (go_at_call 182; refine c2.mono ?_; clear c2; rintro e w5 ⟨rfl, hB5⟩))
              go_ret
              have hz4 := hB4.size
              exact ⟨by rw [isLattice_no (a := k) (b := q) (by omega) (by omega) HF.out]; rfl, HBB.out.trans ((hB.mono (by have := hN.out; omega)).trans ((hB4.mono (by have := hN.out; omega)).trans (hB5.mono (by have := hN.out; omega))))⟩
            · have HF : Hid (pairB n m k q = true) := by show _ = _; unfold pairB; rw [e2, HE1.out]; rfl
              have HG : Hid (hasJoinB n (trM n m n 0) k q = true) := HE.out.trans e2
              clear e2 HE
              go_wp2_with (first
                | (refine wpList_load_row rfl 107 _ rfl _ rfl _ arr _ _ HX2.out Tryz.underlying107 rfl HI.out ?_)
                | (go_at_call 182; refine c1.mono ?_; clear c1; rintro e w4 ⟨rfl, hB4⟩; have c2 := hasJoin_any _ n _ (isOrd_ordArr n (trM n m n 0)) hn k q hk6 hq6 w4; rw [HG.out] at c2; have HY4 : Hid (w4.heap[N3]? = some (.cells (ordArr n (trM n m n 0)) 107)) := (hB4.block _ (by omega)).trans HY2.out)
                | (refine wpList_load_row_g 107 _ rfl rfl _ rfl _ _ _ _ HY4.out Tryz.underlying107 rfl (infoOrd (ordArr_size _ _)) ?_)
                | (go_at_call 182; refine c2.mono ?_; clear c2; rintro e w5 ⟨rfl, hB5⟩))
              have hz4 := hB4.size
              go_roundg g2
              case measure => omega
              case rel =>
                refine ⟨q + 1, by show _ = _; have := hq.out; omega, by go_num, hB.trans ((hB4.mono hz).trans (hB5.mono (by omega))), fun b hb => ?_⟩
                by_cases e : b = q
                · subst e; exact HF.out
                · exact HQ.out b (by omega)
end Go.Proofs.YtllcbnfmihfaaaaGreatDoor
namespace Go.Proofs.YtllcbnfmihfaaaaGreatDoor
open Go.RowKit

def fst (n k : Nat) (m : Nat → Nat → Bool) (l h : Nat) : Nat → Nat → Bool := fun i j => m i j || (decide (j < n ∧ (i < l ∨ (i = l ∧ j < h))) && (m i k && m k j))
def fwTo (n : Nat) : Nat → (Nat → Nat → Bool) → Nat → Nat → Bool
  | 0, m => m
  | k + 1, m => fst n k (fwTo n k m) n 0
theorem fst_zero (n k : Nat) (m : Nat → Nat → Bool) : fst n k m 0 0 = m := by
  funext i j; simp [fst]
theorem fst_row (n k : Nat) (m : Nat → Nat → Bool) (l : Nat) : fst n k m l n = fst n k m (l + 1) 0 := by
  funext i j
  unfold fst
  congr 2
  exact decide_eq_decide.2 (by omega)
theorem fst_col (n k : Nat) (m : Nat → Nat → Bool) (l h i : Nat) : fst n k m l h i k = m i k := by
  unfold fst
  cases m i k <;> simp
theorem fst_line (n k : Nat) (m : Nat → Nat → Bool) (l h j : Nat) : fst n k m l h k j = m k j := by
  unfold fst
  cases m k j <;> simp
theorem fst_yes (n k : Nat) (m : Nat → Nat → Bool) (l h : Nat) (hh : h < n) (e1 : m l k = true) (e2 : m k h = true) : upd (fst n k m l h) l h true = fst n k m l (h + 1) := by
  funext i j
  unfold upd fst
  by_cases c : i = l ∧ j = h
  · obtain ⟨rfl, rfl⟩ := c
    simp [hh, e1, e2]
  · rw [if_neg c]
    congr 2
    exact decide_eq_decide.2 (by omega)
theorem fst_no (n k : Nat) (m : Nat → Nat → Bool) (l h : Nat) (e : (m l k && m k h) = false) : fst n k m l h = fst n k m l (h + 1) := by
  funext i j
  unfold fst
  by_cases c : i = l ∧ j = h
  · obtain ⟨rfl, rfl⟩ := c
    rw [e]
    simp
  · congr 2
    exact decide_eq_decide.2 (by omega)

/-- The order's block, and what lies below it as it was. -/
structure OrdAt (w W : World) (b n : Nat) (M : Nat → Nat → Bool) : Prop where
  below : Below b w W
  own : W.heap[b]? = some (.cells (ordArr n M) 107)
theorem OrdAt.set {w W : World} {b n : Nat} {M : Nat → Nat → Bool} (h : OrdAt w W b n M) {i j : Nat} (hi : i < 6) (hj : j < 6) (v : Bool) :
    OrdAt w (W.setCell ⟨b, 1 + i * 6 + j, none⟩ (.bool v)) b n (upd M i j v) :=
  ⟨h.below.setCell (Nat.le_refl _) _, by rw [heap_setCell_same W _ _ _ _ _ h.own, ordArr_set n M i j v hi hj]⟩
theorem OrdAt.count {w W : World} {b n : Nat} {M : Nat → Nat → Bool} (h : OrdAt w W b n M) : W.cell? ⟨b, 0, none⟩ = some (.int .i64 n) := (cellOfHeap h.own 0).trans (isOrd_ordArr n M).count
theorem OrdAt.at_ {w W : World} {b n : Nat} {M : Nat → Nat → Bool} (h : OrdAt w W b n M) {i j : Nat} (hi : i < 6) (hj : j < 6) : W.cell? ⟨b, 1 + i * 6 + j, none⟩ = some (.bool (M i j)) := (cellOfHeap h.own _).trans ((isOrd_ordArr n M).at_ i j hi hj)
theorem OrdAt.frozen {w W : World} {b n : Nat} {M : Nat → Nat → Bool} (h : OrdAt w W b n M) (j : Nat) : W.frozen? ⟨b, j, none⟩ = false := frozen_of_row W b j _ _ h.own
theorem OrdAt.drew {w W : World} {b n : Nat} {M : Nat → Nat → Bool} (h : OrdAt w W b n M) : OrdAt w W.drew b n M := ⟨h.below.drew, h.own⟩

set_option maxRecDepth 100000 in
set_option maxHeartbeats 2000000 in
theorem follow_any (b n : Nat) (m : Nat → Nat → Bool) (hn : n ≤ 6) (w : World) (hown : w.heap[b]? = some (.cells (ordArr n m) 107)) :
    Calls Tryz.prog 180 #[.pointer (some ⟨b, 0, none⟩)] w fun e w' => e = .returned (.tuple #[]) ∧ OrdAt w w' b n (fwTo n n m) := by
  have HT : Hid (OrdAt w w b n (fwTo n 0 m)) := ⟨Below.refl _ _, hown⟩
  clear hown
  have hc0 := HT.out.count
  go_enter Tryz.func180, Tryz.ntmps180
  go_wp2
  go_loopg [9, 2] n (fun g x y wr => ∃ k : Nat, Hid (k + g = n) ∧ x = .int .i64 k ∧ Hid (OrdAt w wr b n (fwTo n k m)))
  case atStart => exact ⟨0, by show _ = _; omega, rfl, HT⟩
  case round =>
    clear hc0 HT
    obtain ⟨k, hk, rfl, HK⟩ := hrel
    have hc0 := HK.out.count
    cases gk with
    | zero =>
      have hlt : ¬ (k : Int) < n := by have := hk.out; omega
      go_wp2
      go_end0
      have e : k = n := by have := hk.out; omega
      exact ⟨rfl, by have := HK.out; rw [e] at this; exact this⟩
    | succ g =>
      have hlt : (k : Int) < n := by have := hk.out; omega
      have hk6 : k < 6 := by omega
      go_wp2
      go_loopg [16, 3] n (fun g x y wr => ∃ l : Nat, Hid (l + g = n) ∧ x = .int .i64 l ∧ Hid (OrdAt w wr b n (fst n k (fwTo n k m) l 0)))
      case atStart => exact ⟨0, by show _ = _; omega, rfl, by rw [fst_zero]; exact HK⟩
      case round =>
        clear hc0 HK
        obtain ⟨l, hl, rfl, HL⟩ := hrel
        have hc0 := HL.out.count
        cases gk with
        | zero =>
          have hll : ¬ (l : Int) < n := by have := hl.out; omega
          go_wp2
          go_roundg g
          case measure => omega
          case rel =>
            have e : l = n := by have := hl.out; omega
            exact ⟨k + 1, by show _ = _; have := hk.out; omega, by go_num, by have := HL.out; rw [e] at this; exact this⟩
        | succ g2 =>
          have hll : (l : Int) < n := by have := hl.out; omega
          have hl6 : l < 6 := by omega
          go_wp2
          go_loopg [23, 4] n (fun g x y wr => ∃ h : Nat, Hid (h + g = n) ∧ x = .int .i64 h ∧ Hid (OrdAt w wr b n (fst n k (fwTo n k m) l h)))
          case atStart => exact ⟨0, by show _ = _; omega, rfl, HL⟩
          case round =>
            clear hc0 HL
            obtain ⟨h, hh, rfl, HH⟩ := hrel
            cases gk with
            | zero =>
              have hhl : ¬ (h : Int) < n := by have := hh.out; omega
              go_wp2
              go_roundg g2
              case measure => omega
              case rel =>
                have e : h = n := by have := hh.out; omega
                exact ⟨l + 1, by show _ = _; have := hl.out; omega, by go_num, by have := HH.out; rw [e, fst_row] at this; exact this⟩
            | succ g3 =>
              have hhl : (h : Int) < n := by have := hh.out; omega
              have hh6 : h < 6 := by omega
              have c1 := HH.out.at_ hl6 hk6
              have c2 := HH.out.at_ hk6 hh6
              have c3 := HH.out.at_ hl6 hh6
              have c4 := HH.out.frozen (1 + l * 6 + h)
              rw [fst_col] at c1
              rw [fst_line] at c2
              generalize hM : fwTo n k m = M at *
              clear hM
              cases e1 : M l k
              · rw [e1] at c1
                have HE : Hid ((M l k && M k h) = false) := by show _ = _; rw [e1]; rfl
                clear e1 c2 c3 c4
                go_wp2
                go_roundg g3
                case measure => omega
                case rel => exact ⟨h + 1, by show _ = _; have := hh.out; omega, by go_num, by have := HH.out; rw [fst_no n k M l h HE.out] at this; exact this⟩
              · rw [e1] at c1
                cases e2 : M k h
                · rw [e2] at c2
                  have HE : Hid ((M l k && M k h) = false) := by show _ = _; rw [e1, e2]; rfl
                  clear e1 e2 c3 c4
                  go_wp2
                  go_roundg g3
                  case measure => omega
                  case rel => exact ⟨h + 1, by show _ = _; have := hh.out; omega, by go_num, by have := HH.out; rw [fst_no n k M l h HE.out] at this; exact this⟩
                · rw [e2] at c2
                  have HE1 : Hid (M l k = true) := e1
                  have HE2 : Hid (M k h = true) := e2
                  clear e1 e2
                  generalize hV : fst n k M l h l h = v0 at c3
                  clear hV
                  go_wp2
                  go_roundg g3
                  case measure => omega
                  case rel => exact ⟨h + 1, by show _ = _; have := hh.out; omega, by go_num, by have := HH.out.set hl6 hh6 true; rw [fst_yes n k M l h (by omega) HE1.out HE2.out] at this; exact this⟩
end Go.Proofs.YtllcbnfmihfaaaaGreatDoor
