import Derived.Test.YtllcbnfmihfaaaaGreatDoorPolM
import Derived.Lib.ValidU
namespace Go.Proofs.YtllcbnfmihfaaaaGreatDoor
open Go.RowKit

set_option maxRecDepth 100000 in
set_option maxHeartbeats 4000000 in
theorem rune_ge (n b0 b1 b2 b3 : Nat) (h0 : 128 ≤ b0) : 128 ≤ (Lib.decodeN n b0 b1 b2 b3).1 := by
  unfold Lib.decodeN
  repeat' split
  all_goals first | (simp; done) | (simp only []; omega)

/-- No character of a literal is this. -/
def badR (r : Nat) : Bool := decide (r ≤ 32) || (r == 42 || (r == 91 || (r == 93 || (r == 47 || r == 46))))
def litQ : Nat → List UInt8 → Option Nat
  | _, [] => some 0
  | 0, _ :: _ => none
  | g + 1, b :: t => if badR (Lib.decodeL (b :: t)).1 = true then none else (litQ g ((b :: t).drop (Lib.decodeL (b :: t)).2)).map (· + 1)

theorem bad_eq (b : UInt8) (t : List UInt8) : badR (Lib.decodeL (b :: t)).1 = badB b := by
  by_cases h : b.toNat < 128
  · rw [Lib.decodeL_ascii b t h]; rfl
  · have h1 : 128 ≤ (Lib.decodeL (b :: t)).1 := by
      rw [Lib.decodeL_N]
      exact rune_ge _ _ _ _ _ (by show 128 ≤ b.toNat; omega)
    have e1 : badR (Lib.decodeL (b :: t)).1 = false := by
      unfold badR
      simp only [Bool.or_eq_false_iff, decide_eq_false_iff_not, beq_eq_false_iff_ne]
      omega
    have e2 : badB b = false := by
      unfold badB
      simp only [Bool.or_eq_false_iff, decide_eq_false_iff_not, beq_eq_false_iff_ne]
      omega
    rw [e1, e2]
/-- Where all is characters, both count alike; where it is not, the reference counts none. -/
theorem lit_valid : ∀ (g : Nat) (l : List UInt8), l.length ≤ g → litC g l = if Lib.validD l then litQ g l else none
  | g, [], _ => by cases g <;> simp [litC, litQ, Lib.validD_nil]
  | 0, b :: t, h => by simp at h
  | g + 1, b :: t, h => by
    rw [Lib.validD_step (b :: t) (by simp)]
    rcases szL_decode (b :: t) (by simp) with ⟨hz, hd⟩ | ⟨hz, hd, hn⟩
    · simp [litC, hz, hd]
    · rw [if_neg hn, litC, litQ, bad_eq, hd]
      by_cases hb : badB b = true
      · rw [if_pos (Or.inr hb), if_pos hb]
        split <;> rfl
      · rw [if_neg (by intro hh; rcases hh with hh | hh; omega; exact hb hh), if_neg hb, lit_valid g _ (by rw [List.length_drop]; simp at h ⊢; omega)]
        split <;> rfl
theorem litB_eq (l : List UInt8) : litB l = (Lib.validD l && cntB (litQ l.length l)) := by
  unfold litB
  rw [lit_valid l.length l (Nat.le_refl _)]
  cases Lib.validD l
  · rfl
  · rfl
end Go.Proofs.YtllcbnfmihfaaaaGreatDoor
