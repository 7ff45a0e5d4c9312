import Derived.Lib.ValidLaws
import Derived.Test.YtllcbnfmihfaaaaGreatDoorLq11
namespace Go.Proofs.YtllcbnfmihfaaaaGreatDoor
open Go.RowKit
set_option linter.unusedSimpArgs false

theorem ok1 (l : List UInt8) (lo hi : Nat) : okAt lo hi l 1 = true ↔ (1 < l.length ∧ lo ≤ (l.getD 1 0).toNat ∧ (l.getD 1 0).toNat ≤ hi) := by
  unfold okAt
  rw [if_pos rfl, Bool.and_eq_true, decide_eq_true_eq, decide_eq_true_eq]
  omega
theorem ok2 (l : List UInt8) (lo hi : Int) (j : Nat) (hj : j ≠ 1) : okAt lo hi l j = true ↔ (j < l.length ∧ 128 ≤ (l.getD j 0).toNat ∧ (l.getD j 0).toNat ≤ 191) := by
  unfold okAt
  rw [if_neg hj, Bool.and_eq_true, decide_eq_true_eq, decide_eq_true_eq]

theorem szL_k (l : List UInt8) (k lo hi : Nat) (hk : k = 2 ∨ k = 3 ∨ k = 4) (h : secs ((l.getD 0 0).toNat : Int) = ((lo : Int), (hi : Int), (k : Int))) :
    szL l = (Lib.checkN l.length (l.getD 1 0).toNat (l.getD 2 0).toNat (l.getD 3 0).toNat k lo hi).getD 0 := by
  unfold szL begV
  rw [h]
  simp only []
  rw [if_neg (show ¬ ((k : Nat) : Int) = 0 by omega)]
  have o1 := ok1 l lo hi
  have o2 := ok2 l lo hi 2 (by omega)
  have o3 := ok2 l lo hi 3 (by omega)
  generalize (l.getD 0 0) = b0 at *
  generalize (l.getD 1 0) = b1 at *
  generalize (l.getD 2 0) = b2 at *
  generalize (l.getD 3 0) = b3 at *
  rcases hk with rfl | rfl | rfl
  · cases e1 : okAt lo hi l 1
    · have c : l.length < 2 ∨ b1.toNat < lo ∨ hi < b1.toNat := by rw [e1] at o1; simp at o1; omega
      simp [begF, e1, Lib.checkN, c]
    · have c : ¬ (l.length < 2 ∨ b1.toNat < lo ∨ hi < b1.toNat) := by have := o1.1 e1; omega
      simp [begF, e1, Lib.checkN, c]
  · cases e1 : okAt lo hi l 1
    · have c : l.length < 3 ∨ b1.toNat < lo ∨ hi < b1.toNat ∨ b2.toNat < 128 ∨ 191 < b2.toNat := by rw [e1] at o1; simp at o1; omega
      simp [begF, e1, Lib.checkN, c]
    · cases e2 : okAt lo hi l 2
      · have c : l.length < 3 ∨ b1.toNat < lo ∨ hi < b1.toNat ∨ b2.toNat < 128 ∨ 191 < b2.toNat := by rw [e2] at o2; simp at o2; omega
        simp [begF, e1, e2, Lib.checkN, c]
      · have c : ¬ (l.length < 3 ∨ b1.toNat < lo ∨ hi < b1.toNat ∨ b2.toNat < 128 ∨ 191 < b2.toNat) := by have := o1.1 e1; have := o2.1 e2; omega
        simp [begF, e1, e2, Lib.checkN, c]
  · cases e1 : okAt lo hi l 1
    · have c : l.length < 4 ∨ b1.toNat < lo ∨ hi < b1.toNat ∨ b2.toNat < 128 ∨ 191 < b2.toNat ∨ b3.toNat < 128 ∨ 191 < b3.toNat := by rw [e1] at o1; simp at o1; omega
      simp [begF, e1, Lib.checkN, c]
    · cases e2 : okAt lo hi l 2
      · have c : l.length < 4 ∨ b1.toNat < lo ∨ hi < b1.toNat ∨ b2.toNat < 128 ∨ 191 < b2.toNat ∨ b3.toNat < 128 ∨ 191 < b3.toNat := by rw [e2] at o2; simp at o2; omega
        simp [begF, e1, e2, Lib.checkN, c]
      · cases e3 : okAt lo hi l 3
        · have c : l.length < 4 ∨ b1.toNat < lo ∨ hi < b1.toNat ∨ b2.toNat < 128 ∨ 191 < b2.toNat ∨ b3.toNat < 128 ∨ 191 < b3.toNat := by rw [e3] at o3; simp at o3; omega
          simp [begF, e1, e2, e3, Lib.checkN, c]
        · have c : ¬ (l.length < 4 ∨ b1.toNat < lo ∨ hi < b1.toNat ∨ b2.toNat < 128 ∨ 191 < b2.toNat ∨ b3.toNat < 128 ∨ 191 < b3.toNat) := by have := o1.1 e1; have := o2.1 e2; have := o3.1 e3; omega
          simp [begF, e1, e2, e3, Lib.checkN, c]

theorem szL_0 (l : List UInt8) (h : (secs ((l.getD 0 0).toNat : Int)).2.2 = 0) : szL l = 0 := by
  unfold szL begV
  rw [if_pos h]
  rfl
theorem szL_1 (l : List UInt8) (h : (l.getD 0 0).toNat < 128) : szL l = 1 := by
  have e : secs ((l.getD 0 0).toNat : Int) = (0, 0, 1) := by unfold secs; rw [if_pos (by omega)]
  unfold szL begV
  rw [e]
  rfl

/-- The reference's size of a character is what utf8.ValidString's switch says. -/
theorem szL_check (l : List UInt8) (h0 : 128 ≤ (l.getD 0 0).toNat) :
    szL l = (Lib.checkN l.length (l.getD 1 0).toNat (l.getD 2 0).toNat (l.getD 3 0).toNat (Lib.firstT (l.getD 0 0).toNat % 8) (Lib.accLo (Lib.firstT (l.getD 0 0).toNat / 16)) (Lib.accHi (Lib.firstT (l.getD 0 0).toNat / 16))).getD 0 := by
  have h256 := (l.getD 0 0).toNat_lt
  have key : ∀ k lo hi, Lib.firstT (l.getD 0 0).toNat % 8 = k → Lib.accLo (Lib.firstT (l.getD 0 0).toNat / 16) = lo → Lib.accHi (Lib.firstT (l.getD 0 0).toNat / 16) = hi → (k = 2 ∨ k = 3 ∨ k = 4) → secs ((l.getD 0 0).toNat : Int) = ((lo : Int), (hi : Int), (k : Int)) →
      szL l = (Lib.checkN l.length (l.getD 1 0).toNat (l.getD 2 0).toNat (l.getD 3 0).toNat (Lib.firstT (l.getD 0 0).toNat % 8) (Lib.accLo (Lib.firstT (l.getD 0 0).toNat / 16)) (Lib.accHi (Lib.firstT (l.getD 0 0).toNat / 16))).getD 0 := fun k lo hi e1 e2 e3 hk hs => by
    rw [e1, e2, e3]
    exact szL_k l k lo hi hk hs
  have none0 : Lib.firstT (l.getD 0 0).toNat = 241 → (secs ((l.getD 0 0).toNat : Int)).2.2 = 0 →
      szL l = (Lib.checkN l.length (l.getD 1 0).toNat (l.getD 2 0).toNat (l.getD 3 0).toNat (Lib.firstT (l.getD 0 0).toNat % 8) (Lib.accLo (Lib.firstT (l.getD 0 0).toNat / 16)) (Lib.accHi (Lib.firstT (l.getD 0 0).toNat / 16))).getD 0 := fun e hs => by
    rw [e, szL_0 l hs]
    rfl
  generalize hb : (l.getD 0 0).toNat = b0 at *
  by_cases c0 : b0 < 194
  · exact none0 (by unfold Lib.firstT; rw [if_neg (by omega), if_pos c0]) (by unfold secs; repeat (first | rw [if_neg (by omega)] | rw [if_pos (by omega)]))
  by_cases c1 : b0 < 224
  · exact key 2 128 191 (by simp [Lib.firstT, show ¬ b0 < 128 by omega, c0, c1]) (by simp [Lib.firstT, Lib.accLo, show ¬ b0 < 128 by omega, c0, c1]) (by simp [Lib.firstT, Lib.accHi, show ¬ b0 < 128 by omega, c0, c1]) (by omega) (by unfold secs; (repeat (first | rw [if_neg (by omega)] | rw [if_pos (by omega)])); rfl)
  by_cases c2 : b0 = 224
  · exact key 3 160 191 (by simp [Lib.firstT, show ¬ b0 < 128 by omega, c0, c1, c2]) (by simp [Lib.firstT, Lib.accLo, show ¬ b0 < 128 by omega, c0, c1, c2]) (by simp [Lib.firstT, Lib.accHi, show ¬ b0 < 128 by omega, c0, c1, c2]) (by omega) (by unfold secs; (repeat (first | rw [if_neg (by omega)] | rw [if_pos (by omega)])); rfl)
  by_cases c3 : b0 < 237
  · exact key 3 128 191 (by simp [Lib.firstT, show ¬ b0 < 128 by omega, c0, c1, c2, c3]) (by simp [Lib.firstT, Lib.accLo, show ¬ b0 < 128 by omega, c0, c1, c2, c3]) (by simp [Lib.firstT, Lib.accHi, show ¬ b0 < 128 by omega, c0, c1, c2, c3]) (by omega) (by unfold secs; (repeat (first | rw [if_neg (by omega)] | rw [if_pos (by omega)])); rfl)
  by_cases c4 : b0 = 237
  · exact key 3 128 159 (by simp [Lib.firstT, show ¬ b0 < 128 by omega, c0, c1, c2, c3, c4]) (by simp [Lib.firstT, Lib.accLo, show ¬ b0 < 128 by omega, c0, c1, c2, c3, c4]) (by simp [Lib.firstT, Lib.accHi, show ¬ b0 < 128 by omega, c0, c1, c2, c3, c4]) (by omega) (by unfold secs; (repeat (first | rw [if_neg (by omega)] | rw [if_pos (by omega)])); rfl)
  by_cases c5 : b0 < 240
  · exact key 3 128 191 (by simp [Lib.firstT, show ¬ b0 < 128 by omega, c0, c1, c2, c3, c4, c5]) (by simp [Lib.firstT, Lib.accLo, show ¬ b0 < 128 by omega, c0, c1, c2, c3, c4, c5]) (by simp [Lib.firstT, Lib.accHi, show ¬ b0 < 128 by omega, c0, c1, c2, c3, c4, c5]) (by omega) (by unfold secs; (repeat (first | rw [if_neg (by omega)] | rw [if_pos (by omega)])); rfl)
  by_cases c6 : b0 = 240
  · exact key 4 144 191 (by simp [Lib.firstT, show ¬ b0 < 128 by omega, c0, c1, c2, c3, c4, c5, c6]) (by simp [Lib.firstT, Lib.accLo, show ¬ b0 < 128 by omega, c0, c1, c2, c3, c4, c5, c6]) (by simp [Lib.firstT, Lib.accHi, show ¬ b0 < 128 by omega, c0, c1, c2, c3, c4, c5, c6]) (by omega) (by unfold secs; (repeat (first | rw [if_neg (by omega)] | rw [if_pos (by omega)])); rfl)
  by_cases c7 : b0 < 244
  · exact key 4 128 191 (by simp [Lib.firstT, show ¬ b0 < 128 by omega, c0, c1, c2, c3, c4, c5, c6, c7]) (by simp [Lib.firstT, Lib.accLo, show ¬ b0 < 128 by omega, c0, c1, c2, c3, c4, c5, c6, c7]) (by simp [Lib.firstT, Lib.accHi, show ¬ b0 < 128 by omega, c0, c1, c2, c3, c4, c5, c6, c7]) (by omega) (by unfold secs; (repeat (first | rw [if_neg (by omega)] | rw [if_pos (by omega)])); rfl)
  by_cases c8 : b0 = 244
  · exact key 4 128 143 (by simp [Lib.firstT, show ¬ b0 < 128 by omega, c0, c1, c2, c3, c4, c5, c6, c7, c8]) (by simp [Lib.firstT, Lib.accLo, show ¬ b0 < 128 by omega, c0, c1, c2, c3, c4, c5, c6, c7, c8]) (by simp [Lib.firstT, Lib.accHi, show ¬ b0 < 128 by omega, c0, c1, c2, c3, c4, c5, c6, c7, c8]) (by omega) (by unfold secs; (repeat (first | rw [if_neg (by omega)] | rw [if_pos (by omega)])); rfl)
  · exact none0 (by simp [Lib.firstT, show ¬ b0 < 128 by omega, c0, c1, c2, c3, c4, c5, c6, c7, c8]) (by unfold secs; repeat (first | rw [if_neg (by omega)] | rw [if_pos (by omega)]))

/-- A character at the head: what the decoder says of it. -/
theorem szL_decode (l : List UInt8) (hne : l ≠ []) : (szL l = 0 ∧ Lib.decodeL l = (65533, 1)) ∨ (1 ≤ szL l ∧ (Lib.decodeL l).2 = szL l ∧ ¬ ((Lib.decodeL l).1 = 65533 ∧ (Lib.decodeL l).2 = 1)) := by
  have hl : 0 < l.length := List.length_pos_iff.2 hne
  by_cases h : (l.getD 0 0).toNat < 128
  · right
    obtain ⟨b, t, rfl⟩ : ∃ b t, l = b :: t := List.exists_cons_of_ne_nil hne
    rw [szL_1 _ h, Lib.decodeL_ascii b t h]
    refine ⟨Nat.le_refl _, rfl, fun hh => ?_⟩
    have : b.toNat = 65533 := hh.1
    have := b.toNat_lt
    omega
  · rw [szL_check l (by omega), Lib.decodeL_N]
    rcases Lib.check_decode l.length (l.getD 0 0).toNat (l.getD 1 0).toNat (l.getD 2 0).toNat (l.getD 3 0).toNat hl (by omega) (l.getD 0 0).toNat_lt (l.getD 1 0).toNat_lt (l.getD 2 0).toNat_lt (l.getD 3 0).toNat_lt with ⟨hc, hd⟩ | ⟨k, hk, hc, hd⟩
    · left; rw [hc, hd]; exact ⟨rfl, rfl⟩
    · right; rw [hc, hd]; exact ⟨by show 1 ≤ k; omega, rfl, fun hh => by omega⟩
end Go.Proofs.YtllcbnfmihfaaaaGreatDoor
