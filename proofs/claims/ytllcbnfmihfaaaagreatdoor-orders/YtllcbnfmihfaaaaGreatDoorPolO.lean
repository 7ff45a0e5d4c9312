import Derived.Test.YtllcbnfmihfaaaaGreatDoorPolF
import Derived.Lib.IndexMore
namespace Go.Proofs.YtllcbnfmihfaaaaGreatDoor
open Go.RowKit

theorem index_cases (c : UInt8) : ∀ l : List UInt8, (Lib.index l [c] = -1 ∧ splitL c l = [l]) ∨ ∃ a r, l = a ++ c :: r ∧ Lib.index l [c] = a.length ∧ splitL c l = a :: splitL c r
  | [] => Or.inl ⟨rfl, rfl⟩
  | x :: r => by
    by_cases hx : x = c
    · subst hx
      right
      exact ⟨[], r, rfl, by simp [Lib.index], by simp [splitL]⟩
    · have hp : ([c].isPrefixOf (x :: r)) = false := by simp [List.isPrefixOf, Ne.symm hx]
      have hb : (x == c) = false := by simp [hx]
      rcases index_cases c r with ⟨h1, h2⟩ | ⟨a, q, h1, h2, h3⟩
      · left
        refine ⟨?_, ?_⟩
        · unfold Lib.index; rw [hp, h1]; rfl
        · unfold splitL; rw [hb, h2]; rfl
      · right
        refine ⟨x :: a, q, by rw [h1]; rfl, ?_, ?_⟩
        · unfold Lib.index
          rw [hp, h2]
          have : ((a.length : Int) == -1) = false := by rw [beq_eq_false_iff_ne]; omega
          rw [this]
          simp
        · rw [splitL, hb, h3]
          rfl
theorem cut_cases (c : UInt8) (l : List UInt8) : (Lib.cut l [c] = (l, [], false) ∧ splitL c l = [l]) ∨ ∃ a r, Lib.cut l [c] = (a, r, true) ∧ l = a ++ c :: r ∧ splitL c l = a :: splitL c r := by
  rcases index_cases c l with ⟨h1, h2⟩ | ⟨a, r, h1, h2, h3⟩
  · left
    refine ⟨?_, h2⟩
    unfold Lib.cut
    rw [h1, if_neg (by omega)]
  · right
    refine ⟨a, r, ?_, h1, h3⟩
    unfold Lib.cut
    rw [h2, if_pos (by omega)]
    simp [h1]

/-- The program's rule: what stands before the first blank, before the second, behind it. -/
def ruleP (n : Nat) (l : List UInt8) : Bool :=
  patB (Lib.cut l [32]).1 && (labB (Lib.cut (Lib.cut l [32]).2.1 [32]).1 n && actV ⟨(Lib.cut (Lib.cut l [32]).2.1 [32]).2.1.toArray⟩ != 0)

theorem act_list (l : List UInt8) : actV ⟨l.toArray⟩ = if l == [100, 114, 111, 112] then 1 else if l == [109, 97, 115, 107] then 2 else if l == [116, 97, 103] then 3 else 0 := by
  unfold actV
  rw [Lib.toList_data]
theorem act_blank (a r : List UInt8) : actV ⟨(a ++ 32 :: r).toArray⟩ = 0 := by
  have hm : (32 : UInt8) ∈ a ++ 32 :: r := by simp
  rw [act_list]
  generalize a ++ 32 :: r = l at *
  rw [if_neg (by intro h; rw [eq_of_beq h] at hm; revert hm; decide), if_neg (by intro h; rw [eq_of_beq h] at hm; revert hm; decide), if_neg (by intro h; rw [eq_of_beq h] at hm; revert hm; decide)]
theorem rule_eq (n : Nat) (l : List UInt8) : ruleP n l = ruleB n l := by
  unfold ruleP ruleB
  rcases cut_cases 32 l with ⟨h1, h2⟩ | ⟨a, r, h1, _, h2⟩
  · rw [h1, h2]
    rcases cut_cases 32 [] with ⟨h3, h4⟩ | ⟨a, r, _, h3, _⟩
    · simp [h3, labB, ruleL]
    · simp at h3
  · rw [h1, h2]
    rcases cut_cases 32 r with ⟨h3, h4⟩ | ⟨b, q, h3, _, h4⟩
    · rw [h3, h4]
      have : actV ⟨([] : List UInt8).toArray⟩ = 0 := by rw [act_list]; rfl
      simp [this, ruleL]
    · rw [h3, h4]
      rcases cut_cases 32 q with ⟨h5, h6⟩ | ⟨d, e, h5, h6, h7⟩
      · rw [h6]; rfl
      · rw [h7, ruleL_not (by have := List.length_pos_iff.2 (splitL_ne 32 e); simp only [List.length_cons]; omega), h6]
        simp [act_blank]
end Go.Proofs.YtllcbnfmihfaaaaGreatDoor
