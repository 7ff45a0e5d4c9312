import Derived.Test.YtllcbnfmihfaaaaGreatDoorDocN
import Derived.Defers
import Derived.Recover
import Derived.RangeFuncBox
namespace Go.Proofs.YtllcbnfmihfaaaaGreatDoor
open Go.RowKit

/-- The deferred function of a frame that returns: nothing is recovered, nothing turns. -/
theorem catch_idle (p q : Addr) (w : World) :
    CallsD Tryz.prog 64 #[.pointer (some p), .pointer (some q)] .returning w fun e u' w' => e = .returned (.tuple #[]) ∧ u' = .returning ∧ w' = w := by
  refine callsD_of_wpS Tryz.func64 rfl fun c₀ cs hu => ?_
  simp only [Tryz.ntmps64, List.size_toArray, List.length_cons, List.length_nil, Nat.reduceAdd, Nat.reduceSub, Array.replicate_succ, Array.replicate_zero, List.push_toArray, List.append_toArray, List.nil_append, List.cons_append]
  apply wpS_seq
  apply wpS_region
  simp [wpOpsS, go_sem, recoverD, hu, Exit.thenS]
  refine wpS_of_wp ?_
  go_wp2
  cases c₀
  simp_all [bodyPostS, results, Tryz.results64]
set_option maxRecDepth 100000 in
theorem catch_fail (p q : Nat) (en pl x y : Int) (w : World) (hp : w.cell? ⟨p, 0, none⟩ = some (.int .i64 x)) (hq : w.cell? ⟨q, 0, none⟩ = some (.int .i64 y)) (fp : w.frozen? ⟨p, 0, none⟩ = false) (fq : w.frozen? ⟨q, 0, none⟩ = false) (hne : p ≠ q) :
    CallsD Tryz.prog 64 #[.pointer (some ⟨p, 0, none⟩), .pointer (some ⟨q, 0, none⟩)] (.panicking [{ v := failV en pl, recovered := false }]) w fun e u' w' => e = .returned (.tuple #[]) ∧ u' = .panicking [{ v := failV en pl, recovered := true }] ∧
      (w'.cell? ⟨p, 0, none⟩ = some (.int .i64 en) ∧ w'.cell? ⟨q, 0, none⟩ = some (.int .i64 pl) ∧ ∀ B, B ≤ p → B ≤ q → B ≤ w.heap.size → Below B w w') := by
  refine callsD_of_wpS Tryz.func64 rfl fun c₀ cs hu => ?_
  simp only [Tryz.ntmps64, List.size_toArray, List.length_cons, List.length_nil, Nat.reduceAdd, Nat.reduceSub, Array.replicate_succ, Array.replicate_zero, List.push_toArray, List.append_toArray, List.nil_append, List.cons_append]
  apply wpS_seq
  apply wpS_region
  simp [wpOpsS, go_sem, recoverD, hu, Exit.thenS, failV]
  refine wpS_of_wp ?_
  have hta : ∀ w : World, (Instr.typeAssert (.iface 134 (.agg #[.int .i64 en, .int .i64 pl])) 20 134 true).run Tryz.prog w = .ok (.tuple #[.agg #[.int .i64 en, .int .i64 pl], .bool true]) w := fun w => by kernel_rfl
  go_wp2
  have hN : w.heap.size ≠ p ∧ w.heap.size ≠ q := ⟨by have h1 : p < w.heap.size := block_lt_of_cell hp; omega, by have h1 : q < w.heap.size := block_lt_of_cell hq; omega⟩
  have a1 : (w.alloc (.cells #[.int .i64 en, .int .i64 pl] 134)).cell? ⟨p, 0, none⟩ = some (.int .i64 x) := (World.cell?_alloc_some w _ _ (by rw [hp]; rfl)).trans hp
  have a2 : (w.alloc (.cells #[.int .i64 en, .int .i64 pl] 134)).cell? ⟨q, 0, none⟩ = some (.int .i64 y) := (World.cell?_alloc_some w _ _ (by rw [hq]; rfl)).trans hq
  have hb1 : Below w.heap.size w (w.alloc (.cells #[.int .i64 en, .int .i64 pl] 134)) := (Below.refl _ _).alloc (Nat.le_refl _) _
  have g1 : (w.alloc (.cells #[.int .i64 en, .int .i64 pl] 134)).frozen? ⟨p, 0, none⟩ = false := (hb1.frozen (p := ⟨p, 0, none⟩) (block_lt_of_cell hp)).trans fp
  have g2 : (w.alloc (.cells #[.int .i64 en, .int .i64 pl] 134)).frozen? ⟨q, 0, none⟩ = false := (hb1.frozen (p := ⟨q, 0, none⟩) (block_lt_of_cell hq)).trans fq
  have a3 : (w.alloc (.cells #[.int .i64 en, .int .i64 pl] 134)).cell? ⟨w.heap.size, 0, none⟩ = some (.int .i64 en) := cellOfHeap (heap_new _ _) 0
  have a4 : (w.alloc (.cells #[.int .i64 en, .int .i64 pl] 134)).cell? ⟨w.heap.size, 1, none⟩ = some (.int .i64 pl) := cellOfHeap (heap_new _ _) 1
  have HB : Hid (Below w.heap.size w (w.alloc (.cells #[.int .i64 en, .int .i64 pl] 134))) := hb1
  have hn1 := hN.1
  have hn2 := hN.2
  have hn3 : q ≠ p := fun e => hne e.symm
  clear hp hq fp fq hb1 hN
  generalize w.alloc (.cells #[.int .i64 en, .int .i64 pl] 134) = V at *
  go_region
  have r1 : ((V.setCell ⟨p, 0, none⟩ (.int .i64 en)).setCell ⟨q, 0, none⟩ (.int .i64 pl)).drew.cell? ⟨p, 0, none⟩ = some (.int .i64 en) := by
    show ((V.setCell ⟨p, 0, none⟩ (.int .i64 en)).setCell ⟨q, 0, none⟩ (.int .i64 pl)).cell? ⟨p, 0, none⟩ = _
    rw [World.cell?_of_block (w := V.setCell ⟨p, 0, none⟩ (.int .i64 en)) (heap_setCell_other _ _ _ _ (by simpa using hne))]
    exact World.cell?_setCell_same' _ _ _ (by rw [a1]; rfl)
  have r2 : ((V.setCell ⟨p, 0, none⟩ (.int .i64 en)).setCell ⟨q, 0, none⟩ (.int .i64 pl)).drew.cell? ⟨q, 0, none⟩ = some (.int .i64 pl) := by
    show ((V.setCell ⟨p, 0, none⟩ (.int .i64 en)).setCell ⟨q, 0, none⟩ (.int .i64 pl)).cell? ⟨q, 0, none⟩ = _
    refine World.cell?_setCell_same' _ _ _ ?_
    rw [World.cell?_of_block (w := V) (heap_setCell_other _ _ _ _ (by simpa using hn3)), a2]
    rfl
  have r3 : ∀ B, B ≤ p → B ≤ q → B ≤ w.heap.size → Below B w ((V.setCell ⟨p, 0, none⟩ (.int .i64 en)).setCell ⟨q, 0, none⟩ (.int .i64 pl)).drew := fun B h1 h2 h3 =>
    (HB.out.mono h3).trans ⟨rfl, rfl, rfl, by simp [World.setCell, World.drew], fun k hk => (heap_setCell_other _ _ _ _ (by simp; omega)).trans (heap_setCell_other V _ _ _ (by simp; omega))⟩
  generalize ((V.setCell ⟨p, 0, none⟩ (.int .i64 en)).setCell ⟨q, 0, none⟩ (.int .i64 pl)).drew = X at *
  clear a1 a2 a3 a4 g1 g2 HB hta hn1 hn2 hn3 hne
  exact ⟨rfl, _, rfl, _, results_none rfl _ _ _, rfl, rfl, r1, r2, r3⟩

/-- What attempt answers: the thing, the error, its place. -/
def attV {α : Type} (val : α → Value) (r : Except (Int × Int) α) : Value := match r with
  | .ok z => .tuple #[val z, .int .i64 0, .int .i64 0]
  | .error (en, pl) => .tuple #[.nilIface, .int .i64 en, .int .i64 pl]

set_option maxRecDepth 100000 in
set_option maxHeartbeats 1000000 in
theorem attempt_any {α : Type} (val : α → Value) (W : World) (f : Nat) (caps : Array Value) (r : Except (Int × Int) α) (hf : f = 40)
    (cR : Calls Tryz.prog f caps ((W.alloc (.cells #[.int .i64 0] 31)).alloc (.cells #[.int .i64 0] 3)) (Says1 ((W.alloc (.cells #[.int .i64 0] 31)).alloc (.cells #[.int .i64 0] 3)) val r)) :
    Calls Tryz.prog 39 #[.func (.func f) #[] caps] W fun e W' => e = .returned (attV val r) ∧ Below W.heap.size W W' := by
  subst hf
  have hmf : ∀ (fn : Fn) (first cap : Array Value) (w : World), (Instr.makeFunc fn first cap).run Tryz.prog w = .ok (.func fn first cap) w := fun _ _ _ _ => rfl
  have b1 : Below W.heap.size W ((W.alloc (.cells #[.int .i64 0] 31)).alloc (.cells #[.int .i64 0] 3)) := ((Below.refl _ _).alloc (Nat.le_refl _) _).alloc (by simp) _
  have k1 := Boxed.new W 31 (.int .i64 0)
  have k2 := Boxed.new (W.alloc (.cells #[.int .i64 0] 31)) 3 (.int .i64 0)
  have k1' := k1.alloc (.cells #[.int .i64 0] 3)
  rw [World.size_alloc] at k2
  have HB : Hid (Below W.heap.size W ((W.alloc (.cells #[.int .i64 0] 31)).alloc (.cells #[.int .i64 0] 3))) := b1
  have HK1 : Hid (Boxed ((W.alloc (.cells #[.int .i64 0] 31)).alloc (.cells #[.int .i64 0] 3)) W.heap.size 31 (.int .i64 0)) := k1'
  have HK2 : Hid (Boxed ((W.alloc (.cells #[.int .i64 0] 31)).alloc (.cells #[.int .i64 0] 3)) (W.heap.size + 1) 3 (.int .i64 0)) := k2
  clear b1 k1 k2 k1'
  go_enter_defers Tryz.func39, Tryz.ntmps39
  go_wp2_with fail
  refine cR.mono ?_
  clear cR
  rcases r with ⟨en, pl⟩ | z
  · rintro e w2 ⟨hB2, hF⟩
    obtain rfl := hF
    have q1 : Boxed w2 W.heap.size 31 (.int .i64 0) := (hB2.block _ HK1.out.lt).trans HK1.out
    have q2 : Boxed w2 (W.heap.size + 1) 3 (.int .i64 0) := (hB2.block _ HK2.out.lt).trans HK2.out
    have hBW : Below W.heap.size W w2 := HB.out.trans (hB2.mono HB.out.size)
    have HQ1 : Hid (Boxed w2 W.heap.size 31 (.int .i64 0)) := q1
    have HQ2 : Hid (Boxed w2 (W.heap.size + 1) 3 (.int .i64 0)) := q2
    have HBW : Hid (Below W.heap.size W w2) := hBW
    clear q1 q2 hBW hB2 HB HK1 HK2
    go_wp2
    refine leaves_cons (f := 64) (args := #[.pointer (some ⟨W.heap.size, 0, none⟩), .pointer (some ⟨W.heap.size + 1, 0, none⟩)]) (by simp) (by simp [go_sem]) ?_
    refine (catch_fail W.heap.size (W.heap.size + 1) en pl 0 0 w2 HQ1.out.cell HQ2.out.cell HQ1.out.frozen HQ2.out.frozen (by omega)).mono ?_
    rintro e u' w3 ⟨rfl, rfl, c1, c2, c3⟩
    have hfin : Below W.heap.size W w3 := HBW.out.trans (c3 _ (Nat.le_refl _) (by omega) HBW.out.size)
    simp [Leaves, settle, results, Tryz.results39, go_sem, c1, c2, attV, hfin]
  · rintro e w2 ⟨hB2, rfl⟩
    have q1 : Boxed w2 W.heap.size 31 (.int .i64 0) := (hB2.block _ HK1.out.lt).trans HK1.out
    have q2 : Boxed w2 (W.heap.size + 1) 3 (.int .i64 0) := (hB2.block _ HK2.out.lt).trans HK2.out
    have hBW : Below W.heap.size W w2 := HB.out.trans (hB2.mono HB.out.size)
    have HQ1 : Hid (Boxed w2 W.heap.size 31 (.int .i64 0)) := q1
    have HQ2 : Hid (Boxed w2 (W.heap.size + 1) 3 (.int .i64 0)) := q2
    have HBW : Hid (Below W.heap.size W w2) := hBW
    have c1 := q1.cell
    have f1 := q1.frozen
    have c2 := q2.cell
    have f2 := q2.frozen
    clear q1 q2 hBW hB2 HB HK1 HK2
    go_wp2
    have g1 := grownBy_setCell' w2 W.heap.size (.int .i64 0)
    have g2 := grownBy_setCell' (w2.setCell ⟨W.heap.size, 0, none⟩ (.int .i64 0)) (W.heap.size + 1) (.int .i64 0)
    have t1 := ((HQ1.out.set (.int .i64 0)).kept g2 (by intro e; injection e with e; omega)).cell
    have t2 := (Boxed.set (.int .i64 0) (HQ2.out.kept g1 (by intro e; injection e with e; omega))).cell
    have hfin : Below W.heap.size W ((w2.setCell ⟨W.heap.size, 0, none⟩ (.int .i64 0)).setCell ⟨W.heap.size + 1, 0, none⟩ (.int .i64 0)) :=
      HBW.out.trans ⟨rfl, rfl, rfl, by simp [World.setCell], fun k hk => (heap_setCell_other _ _ _ _ (by simp; omega)).trans (heap_setCell_other w2 _ _ _ (by simp; omega))⟩
    generalize (w2.setCell ⟨W.heap.size, 0, none⟩ (.int .i64 0)).setCell ⟨W.heap.size + 1, 0, none⟩ (.int .i64 0) = V at *
    refine leaves_cons (f := 64) (args := #[.pointer (some ⟨W.heap.size, 0, none⟩), .pointer (some ⟨W.heap.size + 1, 0, none⟩)]) (by simp) (by simp [go_sem]) ?_
    refine (catch_idle ⟨W.heap.size, 0, none⟩ ⟨W.heap.size + 1, 0, none⟩ V).mono ?_
    rintro e u' w3 ⟨rfl, rfl, rfl⟩
    simp [Leaves, settle, results, Tryz.results39, go_sem, t1, t2, attV, hfin]
end Go.Proofs.YtllcbnfmihfaaaaGreatDoor
