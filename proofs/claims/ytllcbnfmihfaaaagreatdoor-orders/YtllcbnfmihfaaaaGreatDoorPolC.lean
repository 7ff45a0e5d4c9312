import Derived.Test.YtllcbnfmihfaaaaGreatDoorPolB
namespace Go.Proofs.YtllcbnfmihfaaaaGreatDoor
open Go.RowKit

theorem okAt_lt {lo hi : Int} {l : List UInt8} {j : Nat} (h : okAt lo hi l j = true) : j < l.length := by
  unfold okAt at h
  rw [Bool.and_eq_true] at h
  exact of_decide_eq_true h.1
theorem begF_le {lo hi : Int} {l : List UInt8} : ∀ {g j : Nat}, (begF lo hi l g j).2 = true → j ≤ l.length → (begF lo hi l g j).1 ≤ l.length
  | 0, _, _, hj => hj
  | g + 1, j, h, _ => by
    unfold begF at h ⊢
    by_cases ho : okAt lo hi l j = true
    · rw [if_pos ho] at h ⊢
      exact begF_le h (okAt_lt ho)
    · rw [if_neg ho] at h
      exact absurd h (by simp)
theorem szL_le (l : List UInt8) (hl : 0 < l.length) : szL l ≤ l.length := by
  unfold szL
  by_cases h : (begV l).2 = true
  · rw [if_pos h]
    unfold begV at h ⊢
    by_cases hk : (secs (l.getD 0 0).toNat).2.2 = 0
    · rw [if_pos hk]; exact Nat.zero_le _
    · rw [if_neg hk] at h ⊢
      exact begF_le h hl
  · rw [if_neg h]; exact Nat.zero_le _

/-- No byte of a literal begins so. -/
def badB (b : UInt8) : Bool := decide (b.toNat ≤ 32) || (b.toNat == 42 || (b.toNat == 91 || (b.toNat == 93 || (b.toNat == 47 || b.toNat == 46))))
/-- How many characters; none: it is none. -/
def litC : Nat → List UInt8 → Option Nat
  | _, [] => some 0
  | 0, _ :: _ => none
  | g + 1, b :: t => if szL (b :: t) = 0 ∨ badB b = true then none else (litC g ((b :: t).drop (szL (b :: t)))).map (· + 1)
def cntB : Option Nat → Bool
  | some n => decide (1 ≤ n ∧ n ≤ 16)
  | none => false
def litB (l : List UInt8) : Bool := cntB (litC l.length l)

set_option maxRecDepth 100000 in
set_option maxHeartbeats 2000000 in
theorem literal_any (s : ByteArray) (w : World) (hs : s.size ≤ 4611686018427387904) :
    Calls Tryz.prog 211 #[.string s] w fun e w' => e = .returned (.bool (litB s.data.toList)) ∧ w' = w := by
  have hl : s.data.toList.length = s.size := Array.length_toList
  obtain ⟨A, HA⟩ : ∃ A, Hid (litC s.data.toList.length s.data.toList = A) := ⟨_, show _ = _ from rfl⟩
  have HB : Hid (litB s.data.toList = cntB A) := by show _ = _; unfold litB; rw [HA.out]
  go_enter Tryz.func211, Tryz.ntmps211
  go_wp2
  go_loopg [3, 4] s.size (fun g x y wr => ∃ n i : Nat, x = .int .i64 n ∧ y = .int .i64 i ∧ w = wr ∧ Hid (n ≤ i) ∧ Hid (i ≤ s.size) ∧ Hid (s.size ≤ i + g) ∧ Hid (A = (litC g (s.data.toList.drop i)).map (· + n)))
  case atStart =>
    refine ⟨0, 0, rfl, rfl, rfl, Nat.le_refl _, Nat.zero_le _, by show _ ≤ _; omega, ?_⟩
    show _ = _
    rw [← HA.out, hl, List.drop_zero]
    cases litC s.size s.data.toList <;> rfl
  case round =>
    obtain ⟨n, i, rfl, rfl, rfl, hni, his, hig, HL⟩ := hrel
    by_cases h1 : i = s.size
    · have hlt : ¬ (i : Int) < s.size := by omega
      have HF : Hid (litB s.data.toList = decide (1 ≤ n ∧ n ≤ 16)) := by
        show _ = _
        have hA : A = some n := by
          rw [HL.out, h1, ← hl, List.drop_length]
          cases gk <;> simp [litC]
        rw [HB.out, hA]; rfl
      by_cases ha : (1 : Int) ≤ n
      · by_cases hb : (n : Int) ≤ 16
        · have HF2 : Hid (litB s.data.toList = true) := by show _ = _; rw [HF.out, decide_eq_true (by omega)]
          go_wp2
          go_ret
          exact ⟨by rw [HF2.out]; rfl, rfl⟩
        · have HF2 : Hid (litB s.data.toList = false) := by show _ = _; rw [HF.out, decide_eq_false (by omega)]
          go_wp2
          go_ret
          exact ⟨by rw [HF2.out]; rfl, rfl⟩
      · have HF2 : Hid (litB s.data.toList = false) := by show _ = _; rw [HF.out, decide_eq_false (by omega)]
        go_wp2
        go_ret
        exact ⟨by rw [HF2.out]; rfl, rfl⟩
    · have hlt : (i : Int) < s.size := by have := his.out; omega
      have hn : i < s.size := by omega
      obtain ⟨g, rfl⟩ : ∃ g, gk = g + 1 := ⟨gk - 1, by have := hig.out; omega⟩
      obtain ⟨k, HK⟩ : ∃ k, Hid (szL (s.data.toList.drop i) = k) := ⟨_, show _ = _ from rfl⟩
      have HD : Hid (s.data.toList.drop i = s[i] :: s.data.toList.drop (i + 1)) := by show _ = _; rw [List.drop_eq_getElem_cons (by omega)]; rfl
      have HC : Hid (litC (g + 1) (s.data.toList.drop i) = if k = 0 ∨ badB s[i] = true then none else (litC g (s.data.toList.drop (i + k))).map (· + 1)) := by
        show _ = _
        have := HK.out
        rw [HD.out] at this ⊢
        rw [litC, this, ← HD.out, List.drop_drop]
      have hkl : k ≤ s.size - i := by
        have := szL_le (s.data.toList.drop i) (by rw [List.length_drop]; omega)
        rw [HK.out, List.length_drop] at this
        omega
      have HN : Hid (k = 0 ∨ badB s[i] = true → litB s.data.toList = false) := fun h => by
        have hA : A = none := by rw [HL.out, HC.out, if_pos h]; rfl
        rw [HB.out, hA]; rfl
      have HY : Hid (¬ (k = 0 ∨ badB s[i] = true) → A = (litC g (s.data.toList.drop (i + k))).map (· + (n + 1))) := fun h => by
        rw [HL.out, HC.out, if_neg h, Option.map_map]
        congr 1
        funext x
        simp only [Function.comp]
        omega
      have HBad : Hid (badB s[i] = true ↔ ((s[i].toNat : Int) ≤ 32 ∨ (s[i].toNat : Int) = 42 ∨ (s[i].toNat : Int) = 91 ∨ (s[i].toNat : Int) = 93 ∨ (s[i].toNat : Int) = 47 ∨ (s[i].toNat : Int) = 46)) := by
        show _ ↔ _
        unfold badB
        simp only [Bool.or_eq_true, decide_eq_true_eq, beq_iff_eq]
        omega
      clear HD HC HL
      have hn9 : n ≤ 4611686018427387904 := by have := hni.out; have := his.out; omega
      go_wp2_with (first
        | (go_at_call 43; refine (size_any s i _ hn hs).mono ?_; rintro e w2 ⟨rfl, rfl⟩; rw [HK.out]))
      all_goals first
        | (go_ret
           have hF := HN.out (by rw [HBad.out]; first | omega | (simp only [beq_iff_eq] at *; omega))
           exact ⟨by rw [hF]; rfl, rfl⟩)
        | (go_roundg g
           case measure => omega
           case rel =>
             have hT := HY.out (by rw [HBad.out]; first | omega | (simp only [beq_eq_false_iff_ne] at *; omega))
             refine ⟨n + 1, i + k, by go_num, by go_num, rfl, ?_, ?_, ?_, hT⟩
             all_goals (show _ ≤ _; have := hni.out; have := his.out; have := hig.out; omega))
        | skip
end Go.Proofs.YtllcbnfmihfaaaaGreatDoor
