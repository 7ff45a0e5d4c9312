import Derived.Test.YtllcbnfmihfaaaaGreatDoorPolA
namespace Go.Proofs.YtllcbnfmihfaaaaGreatDoor
open Go.RowKit

/-- Stands a byte at j that may stand there? -/
def okAt (lo hi : Int) (l : List UInt8) (j : Nat) : Bool :=
  decide (j < l.length) && (if j = 1 then decide (lo ≤ ((l.getD j 0).toNat : Int) ∧ ((l.getD j 0).toNat : Int) ≤ hi) else decide (128 ≤ (l.getD j 0).toNat ∧ (l.getD j 0).toNat ≤ 191))
def begF (lo hi : Int) (l : List UInt8) : Nat → Nat → Nat × Bool
  | 0, j => (j, true)
  | g + 1, j => if okAt lo hi l j then begF lo hi l g (j + 1) else (j, false)
def begV (l : List UInt8) : Nat × Bool :=
  if (secs (l.getD 0 0).toNat).2.2 = 0 then (0, false) else begF (secs (l.getD 0 0).toNat).1 (secs (l.getD 0 0).toNat).2.1 l ((secs (l.getD 0 0).toNat).2.2.toNat - 1) 1

theorem secs_k (c : Int) : (secs c).2.2 = 0 ∨ (secs c).2.2 = 1 ∨ (secs c).2.2 = 2 ∨ (secs c).2.2 = 3 ∨ (secs c).2.2 = 4 := by
  unfold secs
  repeat (first | (split; simp) | simp)

/-- The bytes from i to n. -/
def fromTo (s : ByteArray) (i n : Nat) : List UInt8 := (s.data.toList.take n).drop i
theorem fromTo_len (s : ByteArray) (i n : Nat) (h : n ≤ s.size) : (fromTo s i n).length = n - i := by
  unfold fromTo
  rw [List.length_drop, List.length_take]
  have : s.data.toList.length = s.size := Array.length_toList
  omega
theorem fromTo_get (s : ByteArray) (i n j : Nat) (h : n ≤ s.size) (hj : i + j < n) : (fromTo s i n).getD j 0 = s[i + j]'(by omega) := by
  unfold fromTo
  rw [List.getD_eq_getElem?_getD, List.getElem?_drop, List.getElem?_take, if_pos hj]
  have : i + j < s.data.toList.length := by
    have : s.data.toList.length = s.size := Array.length_toList
    omega
  rw [List.getElem?_eq_getElem this]
  rfl

set_option maxRecDepth 100000 in
set_option maxHeartbeats 1000000 in
theorem begins_any (s : ByteArray) (i n : Nat) (w : World) (hn : n ≤ s.size) (hi : i < n) (hs : s.size ≤ 4611686018427387904) :
    Calls Tryz.prog 68 #[.string s, .int .i64 i, .int .i64 n] w fun e w' => e = .returned (.tuple #[.int .i64 (begV (fromTo s i n)).1, .bool (begV (fromTo s i n)).2]) ∧ w' = w := by
  have hi0 : (i : Int) < s.size := by omega
  have his : i < s.size := by omega
  have HB0 : Hid (((fromTo s i n).getD 0 0) = s[i]) := fromTo_get s i n 0 hn (by omega)
  obtain ⟨lo, hi_, k, HK⟩ : ∃ lo hi_ k, Hid (secs (s[i].toNat : Int) = (lo, hi_, k)) := ⟨_, _, _, show secs _ = (_, _, _) from rfl⟩
  have hk := secs_k (s[i].toNat : Int)
  rw [HK.out] at hk
  simp only [] at hk
  have HV : Hid (begV (fromTo s i n) = if k = 0 then (0, false) else begF lo hi_ (fromTo s i n) (k.toNat - 1) 1) := by
    show _ = _
    unfold begV
    rw [HB0.out, HK.out]
  clear HB0
  by_cases h0 : k = 0
  · subst h0
    have HV2 : Hid (begV (fromTo s i n) = (0, false)) := by show _ = _; rw [HV.out, if_pos rfl]
    go_enter Tryz.func68, Tryz.ntmps68
    go_wp2_with (first
      | (go_at_call 112; refine (seconds_any _ _).mono ?_; rintro e w2 ⟨rfl, rfl⟩; rw [HK.out]))
    go_ret2
    exact ⟨by rw [HV2.out]; rfl, rfl⟩
  · obtain ⟨kn, rfl⟩ : ∃ kn : Nat, k = kn := ⟨k.toNat, by omega⟩
    have hk1 : 1 ≤ kn ∧ kn ≤ 4 := by simp at hk; omega
    have hk0 : ((kn : Int) == 0) = false := by rw [beq_eq_false_iff_ne]; omega
    have HV2 : Hid (begV (fromTo s i n) = begF lo hi_ (fromTo s i n) (kn - 1) 1) := by show _ = _; rw [HV.out, if_neg h0]; rfl
    go_enter Tryz.func68, Tryz.ntmps68
    go_wp2_with (first
      | (go_at_call 112; refine (seconds_any _ _).mono ?_; rintro e w2 ⟨rfl, rfl⟩; rw [HK.out]))
    go_loopg [11] (kn - 1) (fun g x wr => ∃ j : Nat, Hid (j + g = kn) ∧ x = .int .i64 j ∧ w2 = wr ∧ Hid (1 ≤ j) ∧ Hid (begV (fromTo s i n) = begF lo hi_ (fromTo s i n) g j))
    case atStart => exact ⟨1, by show _ = _; omega, rfl, rfl, Nat.le_refl 1, HV2.out⟩
    case round =>
      obtain ⟨j, hj, rfl, rfl, hj1, HL⟩ := hrel
      cases gk with
      | zero =>
        have hlt : ¬ (j : Int) < kn := by have := hj.out; omega
        go_wp2
        go_ret2
        exact ⟨by rw [HL.out]; have : j = kn := by have := hj.out; omega
                  subst this; rfl, rfl⟩
      | succ g =>
        have hlt : (j : Int) < kn := by have := hj.out; omega
        by_cases h1 : (n : Int) ≤ (i : Int) + j
        · have HF : Hid (begV (fromTo s i n) = (j, false)) := by
            show _ = _
            rw [HL.out, begF, okAt, fromTo_len _ _ _ hn, decide_eq_false (by omega)]
            rfl
          go_wp2
          go_ret2
          exact ⟨by rw [HF.out]; rfl, rfl⟩
        · have h1' : (i : Int) + j < n := by omega
          have h1s : (i : Int) + j < s.size := by omega
          have h1n : i + j < s.size := by omega
          have HO : Hid (okAt lo hi_ (fromTo s i n) j = if j = 1 then decide (lo ≤ (s[i + j].toNat : Int) ∧ (s[i + j].toNat : Int) ≤ hi_) else decide (128 ≤ s[i + j].toNat ∧ s[i + j].toNat ≤ 191)) := by
            show _ = _
            unfold okAt
            rw [fromTo_get s i n j hn (by omega), fromTo_len _ _ _ hn, decide_eq_true (by omega), Bool.true_and]
          have HT : Hid (okAt lo hi_ (fromTo s i n) j = true → begV (fromTo s i n) = begF lo hi_ (fromTo s i n) g (j + 1)) := fun h => by rw [HL.out, begF, if_pos h]
          have HF : Hid (okAt lo hi_ (fromTo s i n) j = false → begV (fromTo s i n) = (j, false)) := fun h => by rw [HL.out, begF, if_neg (by rw [h]; decide)]
          go_wp2
          all_goals first
            | (go_ret2
               have hF := HF.out (by rw [HO.out]; have := hj1.out; split <;> (apply decide_eq_false; omega))
               exact ⟨by rw [hF]; simp [*], rfl⟩)
            | (go_roundg g
               case measure => omega
               case rel =>
                 have hT := HT.out (by rw [HO.out]; have := hj1.out; split <;> (apply decide_eq_true; omega))
                 refine ⟨j + 1, by show _ = _; have := hj.out; omega, ?_, rfl, by show _ ≤ _; omega, hT⟩
                 first | go_num | (simp [*]; done))

theorem pair_eta {α β : Type} (p : α × β) : p = (p.1, p.2) := rfl
/-- How many bytes the character at the head has; 0: there is none. -/
def szL (l : List UInt8) : Nat := if (begV l).2 then (begV l).1 else 0
theorem size_any (s : ByteArray) (i : Nat) (w : World) (hi : i < s.size) (hs : s.size ≤ 4611686018427387904) :
    Calls Tryz.prog 43 #[.string s, .int .i64 i] w fun e w' => e = .returned (.int .i64 (szL (s.data.toList.drop i))) ∧ w' = w := by
  have HE : Hid (fromTo s i s.size = s.data.toList.drop i) := by
    show _ = _
    unfold fromTo
    have hl : s.data.toList.length = s.size := Array.length_toList
    rw [← hl, List.take_length]
  obtain ⟨k, b, HV⟩ : ∃ k b, Hid (begV (s.data.toList.drop i) = (k, b)) := ⟨_, _, pair_eta _⟩
  cases b
  · have HZ : Hid (szL (s.data.toList.drop i) = 0) := by show _ = _; unfold szL; rw [HV.out]; rfl
    go_enter Tryz.func43, Tryz.ntmps43
    go_wp2_with (first
      | (go_at_call 68; refine (begins_any s i s.size _ (Nat.le_refl _) hi hs).mono ?_; rintro e w2 ⟨rfl, rfl⟩; rw [HE.out, HV.out]))
    go_ret
    exact ⟨by rw [HZ.out]; rfl, rfl⟩
  · have HZ : Hid (szL (s.data.toList.drop i) = k) := by show _ = _; unfold szL; rw [HV.out]; rfl
    go_enter Tryz.func43, Tryz.ntmps43
    go_wp2_with (first
      | (go_at_call 68; refine (begins_any s i s.size _ (Nat.le_refl _) hi hs).mono ?_; rintro e w2 ⟨rfl, rfl⟩; rw [HE.out, HV.out]))
    go_ret
    exact ⟨by rw [HZ.out]; rfl, rfl⟩
end Go.Proofs.YtllcbnfmihfaaaaGreatDoor
