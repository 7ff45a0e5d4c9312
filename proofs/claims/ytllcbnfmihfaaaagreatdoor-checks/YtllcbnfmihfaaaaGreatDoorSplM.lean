import Derived.Lib.IndexLaws
import Derived.Lib.IndexMore
namespace Go.Proofs.YtllcbnfmihfaaaaGreatDoor

/-- The parts of a text between the bytes c. -/
def splitL (c : UInt8) : List UInt8 → List (List UInt8)
  | [] => [[]]
  | x :: r => if x == c then [] :: splitL c r else match splitL c r with
    | h :: t => (x :: h) :: t
    | [] => [[x]]
theorem splitL_ne (c : UInt8) (l : List UInt8) : splitL c l ≠ [] := by
  cases l with
  | nil => simp [splitL]
  | cons x r =>
    unfold splitL
    split
    · simp
    · split <;> simp
theorem splitL_none (c : UInt8) : ∀ l : List UInt8, (∀ x, x ∈ l → (x == c) = false) → splitL c l = [l]
  | [], _ => rfl
  | x :: r, h => by
    have h1 := h x (List.mem_cons_self ..)
    have h2 := splitL_none c r (fun y hy => h y (List.mem_cons_of_mem _ hy))
    simp only [splitL, h1, h2]
    rfl
theorem splitL_found (c : UInt8) : ∀ (a b : List UInt8), (∀ x, x ∈ a → (x == c) = false) → splitL c (a ++ c :: b) = a :: splitL c b
  | [], b, _ => by simp [splitL]
  | x :: a, b, h => by
    have h1 := h x (List.mem_cons_self ..)
    have h2 := splitL_found c a b (fun y hy => h y (List.mem_cons_of_mem _ hy))
    simp only [List.cons_append, splitL, h1, h2]
    rfl
theorem index_split_none {c : UInt8} {l : List UInt8} (h : Lib.indexByte l c = -1) : splitL c l = [l] := by
  refine splitL_none c l (fun x hx => ?_)
  obtain ⟨k, hk, rfl⟩ := List.getElem_of_mem hx
  have := Lib.indexByte_none h k
  rw [beq_eq_false_iff_ne]
  intro e
  exact this (by rw [List.getElem?_eq_getElem hk, e])
theorem index_split_some {c : UInt8} {l : List UInt8} {o : Nat} (h : Lib.indexByte l c = o) : o < l.length ∧ splitL c l = l.take o :: splitL c (l.drop (o + 1)) := by
  obtain ⟨h1, h2⟩ := Lib.indexByte_some h
  have ho : o < l.length := (List.getElem?_eq_some_iff.1 h1).1
  refine ⟨ho, ?_⟩
  have e : l = l.take o ++ c :: l.drop (o + 1) := by
    have h3 : l[o] = c := (List.getElem?_eq_some_iff.1 h1).2
    rw [← h3]
    simp
  conv => lhs; rw [e]
  refine splitL_found c _ _ (fun x hx => ?_)
  obtain ⟨k, hk, rfl⟩ := List.getElem_of_mem hx
  have hk' : k < o := by simp at hk; omega
  rw [beq_eq_false_iff_ne]
  intro e
  refine h2 k hk' ?_
  rw [List.getElem?_eq_getElem (by omega)]
  rw [List.getElem_take] at e
  rw [e]
end Go.Proofs.YtllcbnfmihfaaaaGreatDoor
