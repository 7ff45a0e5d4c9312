import Derived.Test.YtllcbnfmihfaaaaGreatDoorPolG
import Derived.Test.YtllcbnfmihfaaaaGreatDoorMathB
import Derived.Test.YtllcbnfmihfaaaaGreatDoorOrd
import Derived.Test.YtllcbnfmihfaaaaGreatDoorLim
import Derived.Test.YtllcbnfmihfaaaaGreatDoorBuck
namespace Go.Proofs.YtllcbnfmihfaaaaGreatDoor
open Go.RowKit

/-- The answer of Check, as data. -/
def ordOK (c : Cfg) : Bool := newOK c.labels c.L && hasB c.labels.toNat c.dflt && hasB c.labels.toNat c.clr
def chkE (c : Cfg) : Int :=
  if ordOK c = false then 1
  else if orderedB c.labels.toNat (leqF c.labels.toNat c.L) = false then 2
  else if latticeB c.labels.toNat (leqF c.labels.toNat c.L) = false then 3
  else if limB c.inn c.out c.depth c.bytes = false then 4
  else if bucketsR c.B = false then 5
  else if 0 ≤ rulesV c.labels.toNat c.pol.data.toList then 6 else 0
def chkN (c : Cfg) : Int := if chkE c = 6 then rulesV c.labels.toNat c.pol.data.toList else 0
theorem chkE_blind : Blind chkE := fun _ _ => rfl
theorem chkN_blind : Blind chkN := fun _ _ => rfl

/-- A call's own box of its configuration. -/
structure BoxAt (w : World) (c : Cfg) (W : World) : Prop where
  below : Below w.heap.size w W
  box : W.heap[w.heap.size]? = some (.cells c.arr 45)
theorem BoxAt.step {w W W' : World} {c : Cfg} (h : BoxAt w c W) (hb : Below W.heap.size W W') : BoxAt w c W' :=
  ⟨h.below.trans (hb.mono h.below.size), (hb.block _ (Array.getElem?_eq_some_iff.1 h.box).1).trans h.box⟩
theorem boxAt_mk (w : World) (c : Cfg) : BoxAt w c (w.alloc (.cells c.arr 45)) := ⟨(Below.refl _ _).alloc (Nat.le_refl _) _, heap_new _ _⟩
theorem BoxAt.cell {w W : World} {c : Cfg} (h : BoxAt w c W) (j : Nat) : W.cell? ⟨w.heap.size, j, none⟩ = c.arr[j]? := cellOfHeap h.box j
theorem BoxAt.cfg {w W : World} {c : Cfg} (h : BoxAt w c W) (hc : CfgW w c) : CfgW W c := hc.below h.below

theorem labels_c (c : Cfg) (w : World) (h : CfgW w c) : Calls Tryz.prog 75 #[.agg c.arr] w fun e w' => e = .returned (.bool (newOK c.labels c.L)) ∧ Below w.heap.size w w' := by
  by_cases hc : 1 ≤ c.labels ∧ c.labels ≤ 6 ∧ c.L.length ≤ 30
  · have e : newOK c.labels c.L = edgesB c.labels.toNat c.L := by unfold newOK; rw [decide_eq_true hc]; rfl
    rw [e]
    have hn : ((c.labels.toNat : Nat) : Int) = c.labels := Int.toNat_of_nonneg (by omega)
    exact labels_in c.arr c.labels.toNat c.L c.ea c.ecap ⟨c.size, by rw [hn]; rfl, rfl⟩ (by omega) (by omega) hc.2.2 w h.edges
  · have e : newOK c.labels c.L = false := by unfold newOK; rw [decide_eq_false hc]; rfl
    rw [e]
    exact labels_out c.arr c.labels c.L c.ea c.ecap rfl rfl (by have := h.eb; unfold maxLen; omega) w hc
theorem newOK_parts {c : Cfg} (h : newOK c.labels c.L = true) : ((c.labels.toNat : Nat) : Int) = c.labels ∧ RefOK c.arr c.labels.toNat c.L c.ea c.ecap := by
  unfold newOK at h
  rw [Bool.and_eq_true] at h
  have hc := of_decide_eq_true h.1
  have hn : ((c.labels.toNat : Nat) : Int) = c.labels := Int.toNat_of_nonneg (by omega)
  exact ⟨hn, ⟨⟨c.size, by rw [hn]; rfl, rfl⟩, by omega, hc.2.2, h.2⟩⟩
end Go.Proofs.YtllcbnfmihfaaaaGreatDoor
