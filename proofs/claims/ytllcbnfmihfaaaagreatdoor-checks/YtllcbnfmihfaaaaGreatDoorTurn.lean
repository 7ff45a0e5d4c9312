import Derived.Test.YtllcbnfmihfaaaaGreatDoorLab
namespace Go.Proofs.YtllcbnfmihfaaaaGreatDoor
open Go.RowKit
theorem setRow_other' (w : World) (g i : Nat) (cs : Array Value) (h : i ≠ g) : (w.setRow g cs).heap[i]? = w.heap[i]? := setRow_other w g i cs h
theorem below_setRow {B : Nat} {a w : World} (h : Below B a w) {g : Nat} (hg : B ≤ g) (cs : Array Value) : Below B a (w.setRow g cs) :=
  h.trans ⟨rfl, rfl, rfl, by simp, fun k hk => setRow_other w g k cs (by omega)⟩

/-- WHAT 'turned' STANDS ON BEHIND ITS FIRST STATEMENTS -/
structure TurnAt (w W : World) (arr : Array Value) (n : Nat) (M : Nat → Nat → Bool) : Prop where
  below : Below w.heap.size w W
  box : W.heap[w.heap.size]? = some (.cells arr 107)
  res : W.heap[w.heap.size + 1]? = some (.cells zOrd 107)
  own : W.heap[w.heap.size + 1 + 1]? = some (.cells (ordArr n M) 107)

theorem turnAt_mk (w : World) (arr : Array Value) (n : Nat) :
    TurnAt w ((((w.alloc (.cells arr 107)).alloc (.cells zOrd 107)).alloc (.cells zOrd 107)).setRow (w.heap.size + 1 + 1) (ordArr n fun _ _ => false)) arr n (fun _ _ => false) := by
  refine ⟨below_setRow ((((Below.refl _ _).alloc (Nat.le_refl _) _).alloc (by simp) _).alloc (by simp; omega) _) (by omega) _, ?_, ?_, ?_⟩
  · rw [setRow_other' _ _ _ _ (by omega), Below.heap_alloc _ _ _ (by simp; omega), Below.heap_alloc _ _ _ (by simp)]; exact heap_new w _
  · rw [setRow_other' _ _ _ _ (by omega), Below.heap_alloc _ _ _ (by simp)]; have := heap_new (w.alloc (.cells arr 107)) (.cells zOrd 107); rwa [World.size_alloc] at this
  · refine setRow_heap _ _ zOrd _ 107 (0, 0) ?_
    have := heap_new ((w.alloc (.cells arr 107)).alloc (.cells zOrd 107)) (.cells zOrd 107); rwa [World.size_alloc, World.size_alloc] at this
theorem TurnAt.set {w W : World} {arr : Array Value} {n : Nat} {M : Nat → Nat → Bool} (h : TurnAt w W arr n M) {i j : Nat} (hi : i < 6) (hj : j < 6) (b : Bool) :
    TurnAt w (W.setCell ⟨w.heap.size + 1 + 1, 1 + i * 6 + j, none⟩ (.bool b)) arr n (upd M i j b) :=
  ⟨h.below.setCell (by simp; omega) _, (heap_setCell_other W _ _ _ (by simp; omega)).trans h.box, (heap_setCell_other W _ _ _ (by simp)).trans h.res,
    by rw [heap_setCell_same W _ _ _ _ _ h.own, ordArr_set n M i j b hi hj]⟩
theorem TurnAt.drew {w W : World} {arr : Array Value} {n : Nat} {M : Nat → Nat → Bool} (h : TurnAt w W arr n M) : TurnAt w W.drew arr n M := ⟨h.below.drew, h.box, h.res, h.own⟩

def trM (n : Nat) (m : Nat → Nat → Bool) (k q : Nat) : Nat → Nat → Bool := fun i j => decide (j < n ∧ (i < k ∨ (i = k ∧ j < q))) && m j i
theorem trM_zero (n : Nat) (m : Nat → Nat → Bool) : trM n m 0 0 = fun _ _ => false := by
  funext i j; simp [trM]
theorem trM_step (n : Nat) (m : Nat → Nat → Bool) (k q : Nat) (hq : q < n) : upd (trM n m k q) k q (m q k) = trM n m k (q + 1) := by
  funext i j
  unfold upd trM
  by_cases h : i = k ∧ j = q
  · obtain ⟨rfl, rfl⟩ := h
    simp [hq]
  · rw [if_neg h]
    congr 1
    exact decide_eq_decide.2 (by omega)
theorem trM_row (n : Nat) (m : Nat → Nat → Bool) (k : Nat) : trM n m k n = trM n m (k + 1) 0 := by
  funext i j
  unfold trM
  congr 1
  exact decide_eq_decide.2 (by omega)
theorem trM_at (n : Nat) (m : Nat → Nat → Bool) (i j : Nat) (hi : i < n) (hj : j < n) : trM n m n 0 i j = m j i := by
  unfold trM
  rw [decide_eq_true (by omega), Bool.true_and]

set_option maxRecDepth 100000 in
set_option maxHeartbeats 1000000 in
theorem turned_any (arr : Array Value) (n : Nat) (m : Nat → Nat → Bool) (H : IsOrd arr n m) (hn : n ≤ 6) (w : World) :
    Calls Tryz.prog 181 #[.agg arr] w fun e w' => e = .returned (.agg (ordArr n (trM n m n 0))) ∧ Below w.heap.size w w' := by
  have HA : Hid (∀ i j, i < 6 → j < 6 → arr[1 + i * 6 + j]? = some (.bool (m i j))) := H.at_
  have h0 := H.count
  clear H
  have HT := turnAt_mk w arr n
  have HH : Hid ((((w.alloc (.cells arr 107)).alloc (.cells zOrd 107)).alloc (.cells zOrd 107)).heap[w.heap.size + 1 + 1]? = some (.cells zOrd 107)) := by
    have := heap_new ((w.alloc (.cells arr 107)).alloc (.cells zOrd 107)) (.cells zOrd 107)
    rw [World.size_alloc, World.size_alloc] at this
    exact this
  have HZ : Hid (zOrd.size = (ordArr n fun _ _ => false).size) := by rw [ordArr_size]; exact ordArr_size _ _
  generalize hW : (((w.alloc (.cells arr 107)).alloc (.cells zOrd 107)).alloc (.cells zOrd 107)).setRow (w.heap.size + 1 + 1) (ordArr n fun _ _ => false) = W at HT
  have HD : Hid (_ = W) := hW
  clear hW
  have hc0 := (cellOfHeap HT.box 0).trans h0
  have HTT : Hid (TurnAt w W arr n fun _ _ => false) := HT
  clear HT
  go_enter Tryz.func181, Tryz.ntmps181
  go_wp2_with (first
    | (refine wpList_allocOrd rfl rfl _ rfl (w.heap.size + 1) ?hN ?_; case hN => (simp only [World.size_alloc]; done))
    | (refine wpList_allocOrd rfl rfl _ rfl (w.heap.size + 1 + 1) ?hN ?_; case hN => (simp only [World.size_alloc]; done))
    | (refine wpList_buildAt rfl 107 _ rfl _ rfl _ [(0, .int .i64 n)] ?hl (built_ord n) ?_; case hl => simp [go_sem])
    | (refine wpList_store_row rfl 107 _ _ rfl _ _ rfl rfl 107 zOrd HH.out (infoOrd (ordArr_size _ _)) HZ.out (ordArr_all _ _) ?_; rw [HD.out]))
  go_loopg [11, 4] n (fun g x y wr => ∃ k : Nat, Hid (k + g = n) ∧ x = .int .i64 k ∧ Hid (TurnAt w wr arr n (trM n m k 0)))
  case atStart => exact ⟨0, by show _ = _; omega, rfl, by rw [trM_zero]; exact HTT⟩
  case round =>
    obtain ⟨k, hk, rfl, HL⟩ := hrel
    clear hc0 HTT HD
    have hc0 := (cellOfHeap HL.out.box 0).trans h0
    cases gk with
    | zero =>
      have hlt : ¬ (k : Int) < n := by have := hk.out; omega
      have e : k = n := by have := hk.out; omega
      subst e
      go_wp2_with (first
        | (refine wpList_load_row rfl 107 _ rfl _ rfl _ _ _ _ HL.out.own Tryz.underlying107 rfl (infoOrd (ordArr_size _ _)) ?_)
        | (refine wpList_store_row rfl 107 _ _ rfl _ _ rfl rfl 107 zOrd HL.out.res (infoOrd (ordArr_size _ _)) (by rw [ordArr_size]; exact ordArr_size _ _) (ordArr_all _ _) ?_))
      refine bodyPost_ret (results_cell_row Tryz.results181 _ _ (w.heap.size + 1) 107 (ordArr k (trM k m k 0)) (0, 0) _ rfl (setRow_heap _ _ zOrd _ _ _ HL.out.res) Tryz.underlying107 rfl (infoOrd (ordArr_size _ _))) rfl ⟨rfl, below_setRow HL.out.below (by omega) _⟩
    | succ g =>
      have hlt : (k : Int) < n := by have := hk.out; omega
      have hk6 : k < 6 := by omega
      go_wp2
      go_loopg [16, 5] n (fun g x y wr => ∃ q : Nat, Hid (q + g = n) ∧ x = .int .i64 q ∧ Hid (TurnAt w wr arr n (trM n m k q)))
      case atStart => exact ⟨0, by show _ = _; omega, rfl, HL⟩
      case round =>
        obtain ⟨q, hq, rfl, HQ⟩ := hrel
        clear hc0
        cases gk with
        | zero =>
          have hql : ¬ (q : Int) < n := by have := hq.out; omega
          go_wp2
          go_roundg g
          case measure => omega
          case rel =>
            have e : q = n := by have := hq.out; omega
            exact ⟨k + 1, by show _ = _; have := hk.out; omega, by go_num, by have := HQ.out; rw [e, trM_row] at this; exact this⟩
        | succ g2 =>
          have hql : (q : Int) < n := by have := hq.out; omega
          have hq6 : q < 6 := by omega
          have h1 := (cellOfHeap HQ.out.box _).trans (HA.out q k hq6 hk6)
          have h2 := (cellOfHeap HQ.out.own _).trans ((isOrd_ordArr n (trM n m k q)).at_ k q hk6 hq6)
          have h3 := frozen_of_row wr (w.heap.size + 1 + 1) (1 + k * 6 + q) _ _ HQ.out.own
          go_wp2
          go_region
          all_goals go_wp2
          go_roundg g2
          case measure => omega
          case rel => exact ⟨q + 1, by show _ = _; have := hq.out; omega, by go_num, by have := (HQ.out.set hk6 hq6 (m q k)).drew; rw [trM_step n m k q (by omega)] at this; exact this⟩
end Go.Proofs.YtllcbnfmihfaaaaGreatDoor
