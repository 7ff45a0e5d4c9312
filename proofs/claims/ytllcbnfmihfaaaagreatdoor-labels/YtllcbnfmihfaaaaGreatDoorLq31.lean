import Derived.Test.YtllcbnfmihfaaaaGreatDoorCards
import Derived.Test.YtllcbnfmihfaaaaGreatDoorTie
import Derived.Carry
import Derived.WalkKit
import Derived.ProofKit
import Derived.OpenShut
import Derived.Deep.DeepHandedRow
import Derived.Lib.LaidTab
import Derived.Test.YtllcbnfmihfaaaaGreatDoorLq03
import Derived.Test.YtllcbnfmihfaaaaGreatDoorLq17
import Derived.Test.YtllcbnfmihfaaaaGreatDoorLq20
import Derived.Test.YtllcbnfmihfaaaaGreatDoorLq23
import Derived.Test.YtllcbnfmihfaaaaGreatDoorLq25
import Derived.Test.YtllcbnfmihfaaaaGreatDoorLq29
import Derived.Test.YtllcbnfmihfaaaaGreatDoorLq30
namespace Go.Proofs.YtllcbnfmihfaaaaGreatDoor
open Go.ChangeShapes Go.WideShapes Go.ChangeAt Go.RowKit Go.Lib

theorem Tryz.own : ownKnob Tryz.prog.godebug = none := by kernel_rfl
theorem Tryz.laidOut : laidOutB Tryz.prog = true := by kernel_rfl

/-- What a datum's cells are. -/
def flatN : Nat → DataW Unit → List Value
  | 0, _ => []
  | _ + 1, .lit (.int k z) => [.int k z]
  | _ + 1, .lit (.string b) => [.string ⟨b.toArray⟩]
  | n + 1, .agg ds => ds.flatMap (flatN n)
  | _ + 1, _ => []
def putObj' (h : Array Obj) (g : Nat) (cs : Array Value) : Array Obj := h.modify g fun
  | .cells _ t frozen => .cells cs t frozen
  | o => o
/-- A WORLD FOR THE WITNESS: the settled one, the listed variables holding what they are said to hold. -/
def laidW (w0 : World) : World :=
  let h0 := putObj' w0.heap 7 (flatN 5 Rows.laid_math_bits_deBruijn32tab).toArray
  let h1 := putObj' h0 8 (flatN 5 Rows.laid_math_bits_deBruijn64tab).toArray
  let h2 := putObj' h1 6 (flatN 5 Rows.laid_internal_strconv_uint64pow10).toArray
  let h3 := putObj' h2 5 (flatN 5 Rows.laid_unicode_utf8_acceptRanges).toArray
  let h4 := putObj' h3 0 (flatN 5 Rows.laid_redact_reading_cborSorts).toArray
  let h5 := putObj' h4 1 (flatN 5 Rows.laid_redact_reading_packHeads).toArray
  let h6 := putObj' h5 2 (flatN 5 Rows.laid_redact_policy_signs).toArray
  let h7 := putObj' h6 4 (flatN 5 Rows.laid_unicode_utf8_first).toArray
  { w0 with heap := h7 }
theorem laid_met (os : Os) : laidMet Tryz.prog Rows.checksRow.laid ((laidW (World.holding Tryz.prog os ⟨#[], #[], []⟩)).forCall (fun _ _ => 0) ⟨#[], #[.slice none 0 0, .slice none 0 0], []⟩).memory :=
  laidMet_of_run' 8 (by kernel_rfl) (by kernel_rfl)

end Go.Proofs.YtllcbnfmihfaaaaGreatDoor
namespace Go.Proofs.YtllcbnfmihfaaaaGreatDoor
open Go.RowKit Go.Deep

theorem cyc_ordered {n : Nat} {m m' : Nat → Nat → Bool} (h : ∀ i j, i < n → j < n → m i j = m' i j) : hasCycleB n m = !orderedB n m' := by
  cases hc : hasCycleB n m
  · symm
    rw [Bool.not_eq_false']
    refine orderedB_yes (fun a b ha hb => ?_)
    cases ht : tiedB n m' a b
    · rfl
    · exfalso
      unfold tiedB at ht
      simp only [Bool.and_eq_true, Bool.not_eq_true', beq_eq_false_iff_ne] at ht
      obtain ⟨_, ⟨hne, h1⟩, h2⟩ := ht
      rw [← h a b ha hb] at h1
      rw [← h b a hb ha] at h2
      rcases Nat.lt_or_ge b a with hlt | hge
      · have := hasCycle_yes (m := m) ha hlt (by unfold cyc2; rw [h1, h2]; rfl)
        rw [hc] at this; cases this
      · have := hasCycle_yes (m := m) hb (show a < b by omega) (by unfold cyc2; rw [h1, h2]; rfl)
        rw [hc] at this; cases this
  · symm
    rw [Bool.not_eq_true']
    unfold hasCycleB at hc
    rw [List.any_eq_true] at hc
    obtain ⟨a, ha, hc⟩ := hc
    rw [List.any_eq_true] at hc
    obtain ⟨b, hb, hc⟩ := hc
    have ha' := List.mem_range.1 ha
    have hb' := List.mem_range.1 hb
    unfold cyc2 at hc
    simp only [Bool.and_eq_true] at hc
    refine orderedB_no (a := a) (b := b) ha' (by omega) ?_
    unfold tiedB
    rw [← h a b ha' (by omega), ← h b a (by omega) ha', hc.1, hc.2, beq_eq_false_iff_ne.2 (show a ≠ b by omega)]
    simp
theorem ubB_symm (m : Nat → Nat → Bool) (a b k : Nat) : ubB m a b k = ubB m b a k := by unfold ubB; exact Bool.and_comm _ _
theorem hasJoinB_symm (n : Nat) (m : Nat → Nat → Bool) (a b : Nat) : hasJoinB n m a b = hasJoinB n m b a := by
  unfold hasJoinB
  congr 1
  funext j
  unfold leastB
  rw [ubB_symm]
  congr 2
  funext k
  rw [ubB_symm]
theorem hasJoinB_self {n : Nat} {m : Nat → Nat → Bool} {a : Nat} (ha : a < n) (hr : m a a = true) : hasJoinB n m a a = true := by
  refine hasJoin_of ha (least_of (by unfold ubB; rw [hr]; rfl) (fun k _ hu => ?_))
  unfold ubB at hu
  simp only [Bool.and_eq_true] at hu
  exact hu.1
theorem lattice_eq {n : Nat} {m m' : Nat → Nat → Bool} (h : ∀ i j, i < n → j < n → m i j = m' i j) (hr : ∀ i, i < n → m' i i = true) : isLatticeB n m = latticeB n m' := by
  have hp : ∀ a b, a < n → b < n → pairB n m a b = boundB n m' a b := fun a b ha hb => by
    unfold pairB boundB
    rw [hasJoinB_congr h ha hb, hasJoinB_congr (fun i j hi hj => h j i hj hi) ha hb]
  have hs : ∀ a b, boundB n m' a b = boundB n m' b a := fun a b => by
    unfold boundB
    rw [hasJoinB_symm, hasJoinB_symm n (fun i j => m' j i)]
  have hself : ∀ a, a < n → boundB n m' a a = true := fun a ha => by
    unfold boundB
    rw [hasJoinB_self ha (hr a ha), hasJoinB_self (m := fun i j => m' j i) ha (hr a ha)]
    rfl
  cases hc : isLatticeB n m
  · symm
    unfold isLatticeB at hc
    rw [List.all_eq_false] at hc
    obtain ⟨a, ha, hc⟩ := hc
    rw [Bool.not_eq_true, List.all_eq_false] at hc
    obtain ⟨b, hb, hc⟩ := hc
    have ha' := List.mem_range.1 ha
    have hb' := List.mem_range.1 hb
    exact latticeB_no (a := a) (b := b) ha' (by omega) (by rw [← hp a b ha' (by omega)]; exact Bool.not_eq_true _ ▸ hc)
  · symm
    refine latticeB_yes (fun a b ha hb => ?_)
    have hall : ∀ a b, a < n → b < a → boundB n m' a b = true := fun a b ha hb => by
      rw [← hp a b ha (by omega)]
      exact List.all_eq_true.1 (List.all_eq_true.1 hc a (List.mem_range.2 ha)) b (List.mem_range.2 hb)
    rcases Nat.lt_trichotomy a b with hlt | heq | hgt
    · rw [hs]; exact hall b a hb hlt
    · subst heq; exact hself a ha
    · exact hall a b ha hgt
end Go.Proofs.YtllcbnfmihfaaaaGreatDoor
namespace Go.Proofs.YtllcbnfmihfaaaaGreatDoor
open Go.RowKit

/-- The answer of Check, as data. -/
def ordOK (c : Cfg) : Bool := newOK c.labels c.L && hasB c.labels.toNat c.dflt && hasB c.labels.toNat c.clr
def chkE (c : Cfg) : Int :=
  if ordOK c = false then 1
  else if orderedB c.labels.toNat (leqF c.labels.toNat c.L) = false then 2
  else if latticeB c.labels.toNat (leqF c.labels.toNat c.L) = false then 3
  else if limB c.inn c.out c.depth c.bytes = false then 4
  else if bucketsR c.B = false then 5
  else if 0 ≤ rulesV c.labels.toNat c.pol.data.toList then 6 else 0
def chkN (c : Cfg) : Int := if chkE c = 6 then rulesV c.labels.toNat c.pol.data.toList else 0
theorem chkE_blind : Blind chkE := fun _ _ => rfl
theorem chkN_blind : Blind chkN := fun _ _ => rfl

/-- A call's own box of its configuration. -/
structure BoxAt (w : World) (c : Cfg) (W : World) : Prop where
  below : Below w.heap.size w W
  box : W.heap[w.heap.size]? = some (.cells c.arr 45)
theorem BoxAt.step {w W W' : World} {c : Cfg} (h : BoxAt w c W) (hb : Below W.heap.size W W') : BoxAt w c W' :=
  ⟨h.below.trans (hb.mono h.below.size), (hb.block _ (Array.getElem?_eq_some_iff.1 h.box).1).trans h.box⟩
theorem boxAt_mk (w : World) (c : Cfg) : BoxAt w c (w.alloc (.cells c.arr 45)) := ⟨(Below.refl _ _).alloc (Nat.le_refl _) _, heap_new _ _⟩
theorem BoxAt.cell {w W : World} {c : Cfg} (h : BoxAt w c W) (j : Nat) : W.cell? ⟨w.heap.size, j, none⟩ = c.arr[j]? := cellOfHeap h.box j
theorem BoxAt.cfg {w W : World} {c : Cfg} (h : BoxAt w c W) (hc : CfgW w c) : CfgW W c := hc.below h.below

theorem labels_c (c : Cfg) (w : World) (h : CfgW w c) : Calls Tryz.prog 75 #[.agg c.arr] w fun e w' => e = .returned (.bool (newOK c.labels c.L)) ∧ Below w.heap.size w w' := by
  by_cases hc : 1 ≤ c.labels ∧ c.labels ≤ 6 ∧ c.L.length ≤ 30
  · have e : newOK c.labels c.L = edgesB c.labels.toNat c.L := by unfold newOK; rw [decide_eq_true hc]; rfl
    rw [e]
    have hn : ((c.labels.toNat : Nat) : Int) = c.labels := Int.toNat_of_nonneg (by omega)
    exact labels_in c.arr c.labels.toNat c.L c.ea c.ecap ⟨c.size, by rw [hn]; rfl, rfl⟩ (by omega) (by omega) hc.2.2 w h.edges
  · have e : newOK c.labels c.L = false := by unfold newOK; rw [decide_eq_false hc]; rfl
    rw [e]
    exact labels_out c.arr c.labels c.L c.ea c.ecap rfl rfl (by have := h.eb; unfold maxLen; omega) w hc
theorem newOK_parts {c : Cfg} (h : newOK c.labels c.L = true) : ((c.labels.toNat : Nat) : Int) = c.labels ∧ RefOK c.arr c.labels.toNat c.L c.ea c.ecap := by
  unfold newOK at h
  rw [Bool.and_eq_true] at h
  have hc := of_decide_eq_true h.1
  have hn : ((c.labels.toNat : Nat) : Int) = c.labels := Int.toNat_of_nonneg (by omega)
  exact ⟨hn, ⟨⟨c.size, by rw [hn]; rfl, rfl⟩, by omega, hc.2.2, h.2⟩⟩
end Go.Proofs.YtllcbnfmihfaaaaGreatDoor
