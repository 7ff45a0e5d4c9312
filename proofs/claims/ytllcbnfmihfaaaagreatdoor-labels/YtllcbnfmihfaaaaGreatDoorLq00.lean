import Derived.Test.YtllcbnfmihfaaaaGreatDoorRows
import Derived.WalkKit
import Derived.WalkSpells
import Derived.WalkLawsBesides
import Derived.WalkMore
import Derived.Deep.QuietTactic
import Derived.BigQuiet
import Derived.Deep.LoopGhost
import Derived.Great.Walk
import Derived.Great.BuildSlice
import Derived.Deep.WholeRow
namespace Go.Proofs.YtllcbnfmihfaaaaGreatDoor
open Go.RowKit

/-- all old cells, all old marks read as before -/
theorem bcell {B : Nat} {W w1 : World} (hb : Below B W w1) : (∀ b o, b < B → w1.cell? ⟨b, o, none⟩ = W.cell? ⟨b, o, none⟩) ∧ (∀ b o, b < B → w1.frozen? ⟨b, o, none⟩ = W.frozen? ⟨b, o, none⟩) :=
  ⟨fun b o h => hb.cell (p := ⟨b, o, none⟩) h, fun b o h => hb.frozen (p := ⟨b, o, none⟩) h⟩
theorem heap_new (w : World) (o : Obj) : (w.alloc o).heap[w.heap.size]? = some o := by
  show (w.heap.push o)[w.heap.size]? = _
  simp
theorem cellOfHeap {w : World} {g : Nat} {cs : Array Value} {t : TypeId} {fr : Nat × Nat} (hg : w.heap[g]? = some (.cells cs t fr)) (j : Nat) : w.cell? ⟨g, j, none⟩ = cs[j]? := cell_of_row w g j cs t fr hg

/-- A whole row loaded by a guarded operation whose guard lets it. -/
theorem wpList_load_row_g {P : Program} {ops : Array Oper} {rest : List Oper} {o : Oper} {a : Act} {w : World} {Q : Exit → Act → World → Prop} (ty : TypeId) (x : Operand) (ho : o.op = .load ty x) (hgd : Region.wanted o (yielded ops a.tmps) = true)
    (g : Nat) (hx : a.eval x = .pointer (some ⟨g, 0, none⟩)) (t : TypeId) (cs : Array Value) (fr : Nat × Nat) (d : TypeDesc) (hg : w.heap[g]? = some (.cells cs t fr))
    (hu : P.underlying ty = some d) (hd : (match d with | .struct _ | .array _ _ => true | _ => false) = true) (hi : (P.info? ty).map (·.size) = some cs.size)
    (h : wpList P ops Q rest (a.put o.dst (.agg cs)) w) : wpList P ops Q (o :: rest) a w :=
  wpList_step fun K hK => by rw [if_pos hgd]; exact wp_load_row ty x ho g hx t cs fr d hg hu hd hi (hK _ _ h)

theorem wpList_buildAt {P : Program} {ops : Array Oper} {rest : List Oper} {o : Oper} {a : Act} {w : World} {Q : Exit → Act → World → Prop} (hg : o.guard = none) (t : TypeId) (parts : Array (Nat × Operand)) (ho : o.op = .build t parts)
    (d : Option Tmp) (hd : o.dst = d) (cells : Array Value) (l : List (Nat × Value)) (hl : (parts.map fun (i, x) => (i, a.eval x)).toList = l) (hf : P.built t l = some cells)
    (h : wpList P ops Q rest (a.put d (.agg cells)) w) : wpList P ops Q (o :: rest) a w :=
  wpList_buildTo hg t parts ho d hd cells (by rw [hl]; exact hf) h

/-- The value of an Order: n labels, the matrix m. -/
structure IsOrd (arr : Array Value) (n : Nat) (m : Nat → Nat → Bool) : Prop where
  size : arr.size = 37
  count : arr[0]? = some (.int .i64 n)
  at_ : ∀ i j, i < 6 → j < 6 → arr[1 + i * 6 + j]? = some (.bool (m i j))

/-- The same, written out. -/
def ordArr (n : Nat) (m : Nat → Nat → Bool) : Array Value := (.int .i64 n :: (List.range 36).map fun k => .bool (m (k / 6) (k % 6))).toArray
theorem ordArr_size (n : Nat) (m : Nat → Nat → Bool) : (ordArr n m).size = 37 := by simp [ordArr]
theorem isOrd_ordArr (n : Nat) (m : Nat → Nat → Bool) : IsOrd (ordArr n m) n m := by
  refine ⟨ordArr_size n m, rfl, fun i j hi hj => ?_⟩
  have e1 : 1 + i * 6 + j = (i * 6 + j) + 1 := by omega
  rw [e1]
  simp only [ordArr, List.getElem?_toArray, List.getElem?_cons_succ, List.getElem?_map]
  rw [List.getElem?_range (by omega)]
  simp only [Option.map_some]
  have e2 : (i * 6 + j) / 6 = i := by omega
  have e3 : (i * 6 + j) % 6 = j := by omega
  rw [e2, e3]
def upd (m : Nat → Nat → Bool) (i j : Nat) (b : Bool) : Nat → Nat → Bool := fun x y => if x = i ∧ y = j then b else m x y
theorem ordArr_set (n : Nat) (m : Nat → Nat → Bool) (i j : Nat) (b : Bool) (hi : i < 6) (hj : j < 6) : (ordArr n m).setIfInBounds (1 + i * 6 + j) (.bool b) = ordArr n (upd m i j b) := by
  apply Array.ext_getElem?
  intro k
  rw [Array.getElem?_setIfInBounds]
  by_cases hk : 1 + i * 6 + j = k
  · subst hk
    rw [if_pos rfl, (isOrd_ordArr n (upd m i j b)).at_ i j hi hj, if_pos (by rw [ordArr_size]; omega)]
    simp [upd]
  · rw [if_neg hk]
    cases k with
    | zero => rw [(isOrd_ordArr n m).count, (isOrd_ordArr n (upd m i j b)).count]
    | succ q =>
      by_cases hq : q < 36
      · have e1 : q + 1 = 1 + (q / 6) * 6 + q % 6 := by omega
        rw [e1, (isOrd_ordArr n m).at_ _ _ (by omega) (by omega), (isOrd_ordArr n (upd m i j b)).at_ _ _ (by omega) (by omega)]
        have : ¬ (q / 6 = i ∧ q % 6 = j) := by omega
        simp [upd, this]
      · rw [Array.getElem?_eq_none (by rw [ordArr_size]; omega), Array.getElem?_eq_none (by rw [ordArr_size]; omega)]
theorem ordArr_all (n : Nat) (m : Nat → Nat → Bool) : (ordArr n m).all (·.oneCell') = true := by
  rw [Array.all_eq_true_iff_forall_mem]
  intro x hx
  simp only [ordArr, List.mem_toArray, List.mem_cons, List.mem_map] at hx
  rcases hx with rfl | ⟨k, _, rfl⟩ <;> rfl
theorem ordArr_congr {n : Nat} {m m' : Nat → Nat → Bool} (h : ∀ i j, i < 6 → j < 6 → m i j = m' i j) : ordArr n m = ordArr n m' := by
  unfold ordArr
  congr 2
  apply List.map_congr_left
  intro k hk
  rw [h (k / 6) (k % 6) (by have := List.mem_range.1 hk; omega) (by omega)]
def zOrd : Array Value := ordArr 0 fun _ _ => false
theorem run_allocOrd (ρ : Operand → Value) (o : Oper) (ho : o.op = .alloc 107) (w : World) : (execOp ρ o).run Tryz.prog w = .ok (.value (.pointer (some ⟨w.heap.size, 0, none⟩))) (w.alloc (.cells zOrd 107)) := by
  unfold execOp
  rw [ho]
  kernel_rfl
theorem wpList_allocOrd {ops : Array Oper} {rest : List Oper} {o : Oper} {a : Act} {w : World} {Q : Exit → Act → World → Prop} (hg : o.guard = none) (ho : o.op = .alloc 107) (d : Option Tmp) (hd : o.dst = d) (N : Nat) (hN : w.heap.size = N)
    (h : wpList Tryz.prog ops Q rest (a.put d (.pointer (some ⟨N, 0, none⟩))) (w.alloc (.cells zOrd 107))) : wpList Tryz.prog ops Q (o :: rest) a w := by
  subst hN
  exact Great.wpList_allocTo hg d hd _ _ (run_allocOrd _ _ ho _) h
theorem built_ord (n : Nat) : Tryz.prog.built 107 [(0, .int .i64 n)] = some (ordArr n fun _ _ => false) := by kernel_rfl
theorem built_ord0 : Tryz.prog.built 107 [] = some zOrd := by kernel_rfl

def ubB (m : Nat → Nat → Bool) (a b c : Nat) : Bool := m a c && m b c

theorem infoOrd {arr : Array Value} (h : arr.size = 37) : (Tryz.prog.info? 107).map (·.size) = some arr.size := by rw [h]; kernel_rfl

set_option maxHeartbeats 400000 in
theorem boundsBoth_any (arr : Array Value) (n : Nat) (m : Nat → Nat → Bool) (H : IsOrd arr n m) (a b c : Nat) (ha : a < 6) (hb : b < 6) (hc : c < 6) (w : World) :
    Calls Tryz.prog 212 #[.agg arr, .int .i64 c, .int .i64 a, .int .i64 b] w fun e w' => e = .returned (.bool (ubB m a b c)) ∧ Below w.heap.size w w' := by
  have h := H.at_
  clear H
  go_enter Tryz.func212, Tryz.ntmps212
  go_wp2
  all_goals go_ret
  all_goals exact ⟨by simp [ubB, *], (Below.refl _ _).alloc (Nat.le_refl _) _⟩

def hasB (n : Nat) (a : Int) : Bool := decide (0 ≤ a ∧ a < n)

set_option maxHeartbeats 400000 in
theorem has_any (arr : Array Value) (n : Nat) (h : arr[0]? = some (.int .i64 n)) (a : Int) (w : World) :
    Calls Tryz.prog 132 #[.agg arr, .int .i64 a] w fun e w' => e = .returned (.bool (hasB n a)) ∧ Below w.heap.size w w' := by
  go_enter Tryz.func132, Tryz.ntmps132
  go_wp2
  all_goals go_ret
  · exact ⟨by simp [hasB, *], (Below.refl _ _).alloc (Nat.le_refl _) _⟩
  · exact ⟨by have h1 : ¬ 0 ≤ a := by omega
              simp [hasB, h1], (Below.refl _ _).alloc (Nat.le_refl _) _⟩

def leastB (n : Nat) (m : Nat → Nat → Bool) (a b j : Nat) : Bool := ubB m a b j && (List.range n).all fun k => !ubB m a b k || m j k
def hasJoinB (n : Nat) (m : Nat → Nat → Bool) (a b : Nat) : Bool := (List.range n).any fun j => leastB n m a b j

theorem not_least_of {n : Nat} {m : Nat → Nat → Bool} {a b j k : Nat} (hk : k < n) (h : ubB m a b k = true) (h2 : m j k = false) : leastB n m a b j = false := by
  unfold leastB
  rw [Bool.and_eq_false_iff]
  right
  rw [List.all_eq_false]
  exact ⟨k, List.mem_range.2 hk, by simp [h, h2]⟩
theorem least_of {n : Nat} {m : Nat → Nat → Bool} {a b j : Nat} (hj : ubB m a b j = true) (h : ∀ k, k < n → ubB m a b k = true → m j k = true) : leastB n m a b j = true := by
  unfold leastB
  rw [hj, Bool.true_and, List.all_eq_true]
  intro k hk
  have := h k (List.mem_range.1 hk)
  cases hu : ubB m a b k <;> simp_all
theorem hasJoin_of {n : Nat} {m : Nat → Nat → Bool} {a b j : Nat} (hj : j < n) (h : leastB n m a b j = true) : hasJoinB n m a b = true := by
  unfold hasJoinB
  rw [List.any_eq_true]
  exact ⟨j, List.mem_range.2 hj, h⟩
theorem hasJoin_no {n : Nat} {m : Nat → Nat → Bool} {a b : Nat} (h : ∀ j, j < n → leastB n m a b j = false) : hasJoinB n m a b = false := by
  unfold hasJoinB
  rw [List.any_eq_false]
  intro j hj
  simp [h j (List.mem_range.1 hj)]

set_option maxRecDepth 100000 in
set_option maxHeartbeats 1000000 in
theorem hasJoin_any (arr : Array Value) (n : Nat) (m : Nat → Nat → Bool) (H : IsOrd arr n m) (hn : n ≤ 6) (a b : Nat) (ha : a < 6) (hb : b < 6) (w : World) :
    Calls Tryz.prog 182 #[.agg arr, .int .i64 a, .int .i64 b] w fun e w' => e = .returned (.bool (hasJoinB n m a b)) ∧ Below w.heap.size w w' := by
  have h := H.at_
  have h0 := H.count
  have hi := infoOrd H.size
  have HH : Hid (IsOrd arr n m) := H
  have HI : Hid ((Tryz.prog.info? 107).map (·.size) = some arr.size) := hi
  clear H hi
  have hbw := (Below.refl w.heap.size w).alloc (Nat.le_refl _) (.cells arr 107)
  have hnew := heap_new w (.cells arr 107)
  have hsz : (w.alloc (.cells arr 107)).heap.size = w.heap.size + 1 := by simp
  have HB : Hid (Below w.heap.size w (w.alloc (.cells arr 107))) := hbw
  have HN : Hid ((w.alloc (.cells arr 107)).heap[w.heap.size]? = some (.cells arr 107)) := hnew
  have HZ : Hid ((w.alloc (.cells arr 107)).heap.size = w.heap.size + 1) := hsz
  clear hbw hnew hsz
  go_enter Tryz.func182, Tryz.ntmps182
  go_wp2
  go_step3
  go_wp2
  go_step3
  go_wp2
  generalize hW : w.alloc (.cells arr 107) = W1 at *
  clear hW
  go_loopg [11, 7] n (fun g x y wr => ∃ k : Nat, Hid (k + g = n) ∧ x = .int .i64 k ∧ Below (w.heap.size + 1) W1 wr ∧ Hid (∀ j, j < k → leastB n m a b j = false))
  case atStart => exact ⟨0, by show _ = _; omega, rfl, Below.refl _ _, fun j hj => by omega⟩
  case round =>
    obtain ⟨k, hk, rfl, hB, HL⟩ := hrel
    have hw : wr.heap[w.heap.size]? = some (.cells arr 107) := (hB.block _ (by omega)).trans HN.out
    have hc0 := (cellOfHeap hw 0).trans h0
    have hz := hB.size
    rw [HZ.out] at hz
    have HW : Hid (wr.heap[w.heap.size]? = some (.cells arr 107)) := hw
    clear hw
    cases gk with
    | zero =>
      have hlt : ¬ (k : Int) < n := by have := hk.out; omega
      go_wp2
      go_ret
      exact ⟨by rw [hasJoin_no (fun j hj => HL.out j (by have := hk.out; omega))]; rfl, HB.out.trans (hB.mono (by omega))⟩
    | succ g =>
      have hlt : (k : Int) < n := by have := hk.out; omega
      have hk6 : k < 6 := by omega
      have cBB := boundsBoth_any arr n m HH.out a b k ha hb hk6 wr
      cases hu : ubB m a b k
      · rw [hu] at cBB
        have HU : Hid (ubB m a b k = false) := hu
        clear hu
        go_wp2_with (first
          | (refine wpList_load_row rfl 107 _ rfl _ rfl _ arr _ _ HW.out Tryz.underlying107 rfl HI.out ?_)
          | (go_at_call 212; refine cBB.mono ?_; rintro e w2 ⟨rfl, hB2⟩))
        go_roundg g
        case measure => omega
        case rel =>
          refine ⟨k + 1, by show _ = _; have := hk.out; omega, by go_num, hB.trans (hB2.mono hz), ?_⟩
          intro j hj
          by_cases e : j = k
          · subst e; unfold leastB; rw [HU.out]; rfl
          · exact HL.out j (by omega)
      · rw [hu] at cBB
        have HU : Hid (ubB m a b k = true) := hu
        clear hu
        go_wp2_with (first
          | (refine wpList_load_row rfl 107 _ rfl _ rfl _ arr _ _ HW.out Tryz.underlying107 rfl HI.out ?_)
          | (go_at_call 212; refine cBB.mono ?_; rintro e w2 ⟨rfl, hB2⟩; clear cBB hc0; have hc0 := (cellOfHeap (((hB2.block _ (by omega)).trans HW.out)) 0).trans h0))
        have hB3 : Below (w.heap.size + 1) W1 w2 := hB.trans (hB2.mono hz)
        clear hB2 hc0 HW
        go_loopg [22, 8] n (fun g x y wq => ∃ q : Nat, Hid (q + g = n) ∧ x = .int .i64 q ∧ Below (w.heap.size + 1) W1 wq ∧ Hid (∀ j, j < q → ubB m a b j = true → m k j = true))
        case atStart => exact ⟨0, by show _ = _; omega, rfl, hB3, fun j hj => by omega⟩
        case round =>
          obtain ⟨q, hq, rfl, hBq, HQ⟩ := hrel
          have hw : wr.heap[w.heap.size]? = some (.cells arr 107) := (hBq.block _ (by omega)).trans HN.out
          have hz := hBq.size
          rw [HZ.out] at hz
          have HW : Hid (wr.heap[w.heap.size]? = some (.cells arr 107)) := hw
          clear hw
          cases gk with
          | zero =>
            have hql : ¬ (q : Int) < n := by have := hq.out; omega
            go_wp2
            go_ret
            exact ⟨by rw [hasJoin_of (by omega) (least_of HU.out (fun j hj => HQ.out j (by have := hq.out; omega)))]; rfl, HB.out.trans (hBq.mono (by omega))⟩
          | succ g2 =>
            have hql : (q : Int) < n := by have := hq.out; omega
            have hq6 : q < 6 := by omega
            have cBB := boundsBoth_any arr n m HH.out a b q ha hb hq6 wr
            cases hu : ubB m a b q
            · rw [hu] at cBB
              have HV : Hid (ubB m a b q = false) := hu
              clear hu
              go_wp2_with (first
                | (refine wpList_load_row rfl 107 _ rfl _ rfl _ arr _ _ HW.out Tryz.underlying107 rfl HI.out ?_)
                | (go_at_call 212; refine cBB.mono ?_; rintro e w2 ⟨rfl, hB2⟩))
              go_roundg g2
              case measure => omega
              case rel =>
                refine ⟨q + 1, by show _ = _; have := hq.out; omega, by go_num, hBq.trans (hB2.mono hz), ?_⟩
                intro j hj h2
                by_cases e : j = q
                · subst e; rw [HV.out] at h2; cases h2
                · exact HQ.out j (by omega) h2
            · rw [hu] at cBB
              have HV : Hid (ubB m a b q = true) := hu
              clear hu
              have hkq := h k q hk6 hq6
              cases hm : m k q
              · rw [hm] at hkq
                have HM : Hid (m k q = false) := hm
                clear hm
                go_wp2_with (first
                  | (refine wpList_load_row rfl 107 _ rfl _ rfl _ arr _ _ HW.out Tryz.underlying107 rfl HI.out ?_)
                  | (go_at_call 212; refine cBB.mono ?_; rintro e w2 ⟨rfl, hB2⟩; clear cBB; have hc0 := (cellOfHeap (((hB2.block _ (by omega)).trans HW.out)) (1 + k * 6 + q)).trans hkq))
                go_roundg g
                case measure => omega
                case rel =>
                  refine ⟨k + 1, by show _ = _; have := hk.out; omega, by go_num, hBq.trans (hB2.mono hz), ?_⟩
                  intro j hj
                  by_cases e : j = k
                  · subst e; exact not_least_of (by omega) HV.out HM.out
                  · exact HL.out j (by omega)
              · rw [hm] at hkq
                have HM : Hid (m k q = true) := hm
                clear hm
                go_wp2_with (first
                  | (refine wpList_load_row rfl 107 _ rfl _ rfl _ arr _ _ HW.out Tryz.underlying107 rfl HI.out ?_)
                  | (go_at_call 212; refine cBB.mono ?_; rintro e w2 ⟨rfl, hB2⟩; clear cBB; have hc0 := (cellOfHeap (((hB2.block _ (by omega)).trans HW.out)) (1 + k * 6 + q)).trans hkq))
                go_roundg g2
                case measure => omega
                case rel =>
                  refine ⟨q + 1, by show _ = _; have := hq.out; omega, by go_num, hBq.trans (hB2.mono hz), ?_⟩
                  intro j hj h2
                  by_cases e : j = q
                  · subst e; exact HM.out
                  · exact HQ.out j (by omega) h2
end Go.Proofs.YtllcbnfmihfaaaaGreatDoor
