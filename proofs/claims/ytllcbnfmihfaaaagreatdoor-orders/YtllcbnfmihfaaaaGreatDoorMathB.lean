import Derived.Test.YtllcbnfmihfaaaaGreatDoorMathA
import Derived.Test.YtllcbnfmihfaaaaGreatDoorRefD
namespace Go.Proofs.YtllcbnfmihfaaaaGreatDoor
open Go.RowKit Go.Deep

theorem cyc_ordered {n : Nat} {m m' : Nat → Nat → Bool} (h : ∀ i j, i < n → j < n → m i j = m' i j) : hasCycleB n m = !orderedB n m' := by
  cases hc : hasCycleB n m
  · symm
    rw [Bool.not_eq_false']
    refine orderedB_yes (fun a b ha hb => ?_)
    cases ht : tiedB n m' a b
    · rfl
    · exfalso
      unfold tiedB at ht
      simp only [Bool.and_eq_true, Bool.not_eq_true', beq_eq_false_iff_ne] at ht
      obtain ⟨_, ⟨hne, h1⟩, h2⟩ := ht
      rw [← h a b ha hb] at h1
      rw [← h b a hb ha] at h2
      rcases Nat.lt_or_ge b a with hlt | hge
      · have := hasCycle_yes (m := m) ha hlt (by unfold cyc2; rw [h1, h2]; rfl)
        rw [hc] at this; cases this
      · have := hasCycle_yes (m := m) hb (show a < b by omega) (by unfold cyc2; rw [h1, h2]; rfl)
        rw [hc] at this; cases this
  · symm
    rw [Bool.not_eq_true']
    unfold hasCycleB at hc
    rw [List.any_eq_true] at hc
    obtain ⟨a, ha, hc⟩ := hc
    rw [List.any_eq_true] at hc
    obtain ⟨b, hb, hc⟩ := hc
    have ha' := List.mem_range.1 ha
    have hb' := List.mem_range.1 hb
    unfold cyc2 at hc
    simp only [Bool.and_eq_true] at hc
    refine orderedB_no (a := a) (b := b) ha' (by omega) ?_
    unfold tiedB
    rw [← h a b ha' (by omega), ← h b a (by omega) ha', hc.1, hc.2, beq_eq_false_iff_ne.2 (show a ≠ b by omega)]
    simp
theorem ubB_symm (m : Nat → Nat → Bool) (a b k : Nat) : ubB m a b k = ubB m b a k := by unfold ubB; exact Bool.and_comm _ _
theorem hasJoinB_symm (n : Nat) (m : Nat → Nat → Bool) (a b : Nat) : hasJoinB n m a b = hasJoinB n m b a := by
  unfold hasJoinB
  congr 1
  funext j
  unfold leastB
  rw [ubB_symm]
  congr 2
  funext k
  rw [ubB_symm]
theorem hasJoinB_self {n : Nat} {m : Nat → Nat → Bool} {a : Nat} (ha : a < n) (hr : m a a = true) : hasJoinB n m a a = true := by
  refine hasJoin_of ha (least_of (by unfold ubB; rw [hr]; rfl) (fun k _ hu => ?_))
  unfold ubB at hu
  simp only [Bool.and_eq_true] at hu
  exact hu.1
theorem lattice_eq {n : Nat} {m m' : Nat → Nat → Bool} (h : ∀ i j, i < n → j < n → m i j = m' i j) (hr : ∀ i, i < n → m' i i = true) : isLatticeB n m = latticeB n m' := by
  have hp : ∀ a b, a < n → b < n → pairB n m a b = boundB n m' a b := fun a b ha hb => by
    unfold pairB boundB
    rw [hasJoinB_congr h ha hb, hasJoinB_congr (fun i j hi hj => h j i hj hi) ha hb]
  have hs : ∀ a b, boundB n m' a b = boundB n m' b a := fun a b => by
    unfold boundB
    rw [hasJoinB_symm, hasJoinB_symm n (fun i j => m' j i)]
  have hself : ∀ a, a < n → boundB n m' a a = true := fun a ha => by
    unfold boundB
    rw [hasJoinB_self ha (hr a ha), hasJoinB_self (m := fun i j => m' j i) ha (hr a ha)]
    rfl
  cases hc : isLatticeB n m
  · symm
    unfold isLatticeB at hc
    rw [List.all_eq_false] at hc
    obtain ⟨a, ha, hc⟩ := hc
    rw [Bool.not_eq_true, List.all_eq_false] at hc
    obtain ⟨b, hb, hc⟩ := hc
    have ha' := List.mem_range.1 ha
    have hb' := List.mem_range.1 hb
    exact latticeB_no (a := a) (b := b) ha' (by omega) (by rw [← hp a b ha' (by omega)]; exact Bool.not_eq_true _ ▸ hc)
  · symm
    refine latticeB_yes (fun a b ha hb => ?_)
    have hall : ∀ a b, a < n → b < a → boundB n m' a b = true := fun a b ha hb => by
      rw [← hp a b ha (by omega)]
      exact List.all_eq_true.1 (List.all_eq_true.1 hc a (List.mem_range.2 ha)) b (List.mem_range.2 hb)
    rcases Nat.lt_trichotomy a b with hlt | heq | hgt
    · rw [hs]; exact hall b a hb hlt
    · subst heq; exact hself a ha
    · exact hall a b ha hgt
end Go.Proofs.YtllcbnfmihfaaaaGreatDoor
