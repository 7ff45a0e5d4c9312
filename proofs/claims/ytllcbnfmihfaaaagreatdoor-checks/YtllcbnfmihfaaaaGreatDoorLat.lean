import Derived.Test.YtllcbnfmihfaaaaGreatDoorTurn
namespace Go.Proofs.YtllcbnfmihfaaaaGreatDoor
open Go.RowKit

def pairB (n : Nat) (m : Nat → Nat → Bool) (a b : Nat) : Bool := hasJoinB n m a b && hasJoinB n (fun i j => m j i) a b
def isLatticeB (n : Nat) (m : Nat → Nat → Bool) : Bool := (List.range n).all fun a => (List.range a).all fun b => pairB n m a b
theorem isLattice_no {n : Nat} {m : Nat → Nat → Bool} {a b : Nat} (ha : a < n) (hb : b < a) (h : pairB n m a b = false) : isLatticeB n m = false := by
  unfold isLatticeB
  rw [List.all_eq_false]
  refine ⟨a, List.mem_range.2 ha, ?_⟩
  rw [Bool.not_eq_true, List.all_eq_false]
  exact ⟨b, List.mem_range.2 hb, by rw [h]; decide⟩
theorem isLattice_yes {n : Nat} {m : Nat → Nat → Bool} (h : ∀ a b, a < n → b < a → pairB n m a b = true) : isLatticeB n m = true := by
  unfold isLatticeB
  rw [List.all_eq_true]
  intro a ha
  rw [List.all_eq_true]
  intro b hb
  exact h a b (List.mem_range.1 ha) (List.mem_range.1 hb)

theorem ubB_congr {n : Nat} {m m' : Nat → Nat → Bool} (h : ∀ i j, i < n → j < n → m i j = m' i j) {a b k : Nat} (ha : a < n) (hb : b < n) (hk : k < n) : ubB m a b k = ubB m' a b k := by
  unfold ubB; rw [h a k ha hk, h b k hb hk]
theorem leastB_congr {n : Nat} {m m' : Nat → Nat → Bool} (h : ∀ i j, i < n → j < n → m i j = m' i j) {a b k : Nat} (ha : a < n) (hb : b < n) (hk : k < n) : leastB n m a b k = leastB n m' a b k := by
  unfold leastB
  rw [ubB_congr h ha hb hk]
  congr 1
  rw [Bool.eq_iff_iff, List.all_eq_true, List.all_eq_true]
  constructor
  · intro g j hj
    have hj' := List.mem_range.1 hj
    rw [← ubB_congr h ha hb hj', ← h k j hk hj']; exact g j hj
  · intro g j hj
    have hj' := List.mem_range.1 hj
    rw [ubB_congr h ha hb hj', h k j hk hj']; exact g j hj
theorem hasJoinB_congr {n : Nat} {m m' : Nat → Nat → Bool} (h : ∀ i j, i < n → j < n → m i j = m' i j) {a b : Nat} (ha : a < n) (hb : b < n) : hasJoinB n m a b = hasJoinB n m' a b := by
  unfold hasJoinB
  rw [Bool.eq_iff_iff, List.any_eq_true, List.any_eq_true]
  constructor
  · rintro ⟨k, hk, g⟩
    exact ⟨k, hk, by rw [← leastB_congr h ha hb (List.mem_range.1 hk)]; exact g⟩
  · rintro ⟨k, hk, g⟩
    exact ⟨k, hk, by rw [leastB_congr h ha hb (List.mem_range.1 hk)]; exact g⟩

set_option maxRecDepth 100000 in
set_option maxHeartbeats 1000000 in
theorem isLattice_any (arr : Array Value) (n : Nat) (m : Nat → Nat → Bool) (H : IsOrd arr n m) (hn : n ≤ 6) (w : World) :
    Calls Tryz.prog 134 #[.agg arr] w fun e w' => e = .returned (.bool (isLatticeB n m)) ∧ Below w.heap.size w w' := by
  have h0 := H.count
  have HO : Hid (IsOrd arr n m) := H
  have HI : Hid ((Tryz.prog.info? 107).map (·.size) = some arr.size) := infoOrd H.size
  clear H
  have HW : Hid ((w.alloc (.cells arr 107)).heap[w.heap.size]? = some (.cells arr 107)) := heap_new w (.cells arr 107)
  have HB : Hid (Below w.heap.size w (w.alloc (.cells arr 107))) := (Below.refl w.heap.size w).alloc (Nat.le_refl _) (.cells arr 107)
  have cT := turned_any arr n m HO.out hn (w.alloc (.cells arr 107))
  go_enter Tryz.func134, Tryz.ntmps134
  go_wp2_with (first
    | (refine wpList_load_row rfl 107 _ rfl _ rfl _ arr _ _ HW.out Tryz.underlying107 rfl HI.out ?_)
    | (go_at_call 181; refine cT.mono ?_; clear cT; rintro e w2 ⟨rfl, hB2⟩; have hz := hB2.size; rw [World.size_alloc] at hz)
    | (refine wpList_allocOrd rfl rfl _ rfl w2.heap.size rfl ?_)
    | (refine wpList_store_row rfl 107 _ _ rfl _ _ rfl rfl 107 zOrd (heap_new w2 _) (infoOrd (ordArr_size _ _)) (by rw [ordArr_size]; exact ordArr_size _ _) (ordArr_all _ _) ?_; rw [World.setRow_alloc_new]; have hc0 : (w2.alloc (.cells (ordArr n (trM n m n 0)) 107)).cell? ⟨w.heap.size, 0, none⟩ = some (.int .i64 n) := (cellOfHeap ((Below.heap_alloc _ _ _ (by omega)).trans ((hB2.block _ (by simp)).trans HW.out)) 0).trans h0))
  have HX : Hid ((w2.alloc (.cells (ordArr n (trM n m n 0)) 107)).heap[w.heap.size]? = some (.cells arr 107)) := (Below.heap_alloc _ _ _ (by omega)).trans ((hB2.block _ (by simp)).trans HW.out)
  have HY : Hid ((w2.alloc (.cells (ordArr n (trM n m n 0)) 107)).heap[w2.heap.size]? = some (.cells (ordArr n (trM n m n 0)) 107)) := heap_new _ _
  have HZ : Hid ((w2.alloc (.cells (ordArr n (trM n m n 0)) 107)).heap.size = w2.heap.size + 1) := by show _ = _; simp
  have HBB : Hid (Below w.heap.size w (w2.alloc (.cells (ordArr n (trM n m n 0)) 107))) := (HB.out.trans (hB2.mono (by simp))).alloc (by omega) _
  clear hc0 hB2 HW HB
  generalize w2.alloc (.cells (ordArr n (trM n m n 0)) 107) = W3 at *
  have hN : Hid (w.heap.size < w2.heap.size) := by show _ < _; omega
  generalize w2.heap.size = N3 at *
  go_loopg [10, 4] n (fun g x y wr => ∃ k : Nat, Hid (k + g = n) ∧ x = .int .i64 k ∧ Below (N3 + 1) W3 wr ∧ Hid (∀ a b, a < k → b < a → pairB n m a b = true))
  case atStart => exact ⟨0, by show _ = _; omega, rfl, Below.refl _ _, fun a b ha => by omega⟩
  case round =>
    obtain ⟨k, hk, rfl, hB, HL⟩ := hrel
    cases gk with
    | zero =>
      have hlt : ¬ (k : Int) < n := by have := hk.out; omega
      go_wp2
      go_ret
      exact ⟨by rw [isLattice_yes (fun a b ha hb => HL.out a b (by have := hk.out; omega) hb)]; rfl, HBB.out.trans (hB.mono (by have := hN.out; omega))⟩
    | succ g =>
      have hlt : (k : Int) < n := by have := hk.out; omega
      have hk6 : k < 6 := by omega
      go_wp2
      go_loopg [14, 5] k (fun g x y wr => ∃ q : Nat, Hid (q + g = k) ∧ x = .int .i64 q ∧ Below (N3 + 1) W3 wr ∧ Hid (∀ b, b < q → pairB n m k b = true))
      case atStart => exact ⟨0, by show _ = _; omega, rfl, hB, fun b hb => by omega⟩
      case round =>
        clear hB
        obtain ⟨q, hq, rfl, hB, HQ⟩ := hrel
        cases gk with
        | zero =>
          have hql : ¬ (q : Int) < k := by have := hq.out; omega
          go_wp2
          go_roundg g
          case measure => omega
          case rel =>
            refine ⟨k + 1, by show _ = _; have := hk.out; omega, by go_num, hB, fun a b ha hb => ?_⟩
            by_cases e : a = k
            · subst e; exact HQ.out b (by have := hq.out; omega)
            · exact HL.out a b (by omega) hb
        | succ g2 =>
          have hql : (q : Int) < k := by have := hq.out; omega
          have hq6 : q < 6 := by omega
          have HX2 : Hid (wr.heap[w.heap.size]? = some (.cells arr 107)) := (hB.block _ (by have := hN.out; omega)).trans HX.out
          have HY2 : Hid (wr.heap[N3]? = some (.cells (ordArr n (trM n m n 0)) 107)) := (hB.block _ (by omega)).trans HY.out
          have hz := hB.size
          rw [HZ.out] at hz
          have c1 := hasJoin_any arr n m HO.out hn k q hk6 hq6 wr
          have HE : Hid (hasJoinB n (trM n m n 0) k q = hasJoinB n (fun i j => m j i) k q) := hasJoinB_congr (fun i j hi hj => trM_at n m i j hi hj) (by omega) (by omega)
          cases e1 : hasJoinB n m k q
          · rw [e1] at c1
            have HF : Hid (pairB n m k q = false) := by show _ = _; unfold pairB; rw [e1]; rfl
            clear e1
            go_wp2_with (first
              | (refine wpList_load_row rfl 107 _ rfl _ rfl _ arr _ _ HX2.out Tryz.underlying107 rfl HI.out ?_)
              | (go_at_call 182; refine c1.mono ?_; clear c1; rintro e w4 ⟨rfl, hB4⟩))
            go_ret
            exact ⟨by rw [isLattice_no (a := k) (b := q) (by omega) (by omega) HF.out]; rfl, HBB.out.trans ((hB.mono (by have := hN.out; omega)).trans (hB4.mono (by have := hN.out; omega)))⟩
          · rw [e1] at c1
            have HE1 : Hid (hasJoinB n m k q = true) := e1
            clear e1
            cases e2 : hasJoinB n (fun i j => m j i) k q
            · have HF : Hid (pairB n m k q = false) := by show _ = _; unfold pairB; rw [e2, HE1.out]; rfl
              have HG : Hid (hasJoinB n (trM n m n 0) k q = false) := HE.out.trans e2
              clear e2 HE
              go_wp2_with (first
                | (refine wpList_load_row rfl 107 _ rfl _ rfl _ arr _ _ HX2.out Tryz.underlying107 rfl HI.out ?_)
                | (go_at_call 182; refine c1.mono ?_; clear c1; rintro e w4 ⟨rfl, hB4⟩; have c2 := hasJoin_any _ n _ (isOrd_ordArr n (trM n m n 0)) hn k q hk6 hq6 w4; rw [HG.out] at c2; have HY4 : Hid (w4.heap[N3]? = some (.cells (ordArr n (trM n m n 0)) 107)) := (hB4.block _ (by omega)).trans HY2.out)
                | (refine wpList_load_row_g 107 _ rfl rfl _ rfl _ _ _ _ HY4.out Tryz.underlying107 rfl (infoOrd (ordArr_size _ _)) ?_)
                | (go_at_call 182; refine c2.mono ?_; clear c2; rintro e w5 ⟨rfl, hB5⟩))
              go_ret
              have hz4 := hB4.size
              exact ⟨by rw [isLattice_no (a := k) (b := q) (by omega) (by omega) HF.out]; rfl, HBB.out.trans ((hB.mono (by have := hN.out; omega)).trans ((hB4.mono (by have := hN.out; omega)).trans (hB5.mono (by have := hN.out; omega))))⟩
            · have HF : Hid (pairB n m k q = true) := by show _ = _; unfold pairB; rw [e2, HE1.out]; rfl
              have HG : Hid (hasJoinB n (trM n m n 0) k q = true) := HE.out.trans e2
              clear e2 HE
              go_wp2_with (first
                | (refine wpList_load_row rfl 107 _ rfl _ rfl _ arr _ _ HX2.out Tryz.underlying107 rfl HI.out ?_)
                | (go_at_call 182; refine c1.mono ?_; clear c1; rintro e w4 ⟨rfl, hB4⟩; have c2 := hasJoin_any _ n _ (isOrd_ordArr n (trM n m n 0)) hn k q hk6 hq6 w4; rw [HG.out] at c2; have HY4 : Hid (w4.heap[N3]? = some (.cells (ordArr n (trM n m n 0)) 107)) := (hB4.block _ (by omega)).trans HY2.out)
                | (refine wpList_load_row_g 107 _ rfl rfl _ rfl _ _ _ _ HY4.out Tryz.underlying107 rfl (infoOrd (ordArr_size _ _)) ?_)
                | (go_at_call 182; refine c2.mono ?_; clear c2; rintro e w5 ⟨rfl, hB5⟩))
              have hz4 := hB4.size
              go_roundg g2
              case measure => omega
              case rel =>
                refine ⟨q + 1, by show _ = _; have := hq.out; omega, by go_num, hB.trans ((hB4.mono hz).trans (hB5.mono (by omega))), fun b hb => ?_⟩
                by_cases e : b = q
                · subst e; exact HF.out
                · exact HQ.out b (by omega)
end Go.Proofs.YtllcbnfmihfaaaaGreatDoor
