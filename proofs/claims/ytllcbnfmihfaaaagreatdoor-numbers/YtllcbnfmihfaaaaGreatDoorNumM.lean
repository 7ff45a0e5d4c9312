import Derived.Test.YtllcbnfmihfaaaaGreatDoorDocN
import Derived.Lib.ItoaLen
namespace Go.Proofs.YtllcbnfmihfaaaaGreatDoor
open Go.RowKit

/-- The number that digits make behind a number. -/
def valF : List UInt8 → Nat → Nat
  | [], n => n
  | c :: cs, n => valF cs (n * 10 + (c.toNat - 48))
theorem valF_ge : ∀ (ds : List UInt8) (n : Nat), n ≤ valF ds n
  | [], n => Nat.le_refl _
  | c :: cs, n => by
    have := valF_ge cs (n * 10 + (c.toNat - 48))
    unfold valF
    omega
theorem valF_append : ∀ (xs ys : List UInt8) (n : Nat), valF (xs ++ ys) n = valF ys (valF xs n)
  | [], ys, n => rfl
  | c :: cs, ys, n => by
    show valF (cs ++ ys) _ = valF ys (valF cs _)
    exact valF_append cs ys _
theorem drop_one {α : Type} {l : List α} {p : Nat} {c : α} {r : List α} (h : l.drop p = c :: r) : l[p]? = some c ∧ l.drop (p + 1) = r := by
  constructor
  · have := congrArg (fun x => x[0]?) h
    simpa using this
  · have := congrArg (fun x => x.drop 1) h
    simpa [List.drop_drop, Nat.add_comm] using this
theorem drop_none {α : Type} {l : List α} {p : Nat} (h : l.drop p = []) : l[p]? = none := by
  have := congrArg (fun x => x[0]?) h
  simpa using this
/-- Digits are read one behind another, while they are not too many. -/
theorem digF_run (bs : List UInt8) (lim : Int) (most : Nat) (hl : (bs.length : Int) < lim) (hm : 9 ≤ most) : ∀ (ds rest : List UInt8) (p num g : Nat), bs.drop p = ds ++ rest → (∀ c ∈ ds, isDig c = true) → valF ds num ≤ most →
    digF bs lim most false (g + ds.length) p num = digF bs lim most false g (p + ds.length) (valF ds num)
  | [], rest, p, num, g, _, _, _ => rfl
  | c :: ds, rest, p, num, g, hd, ha, hv => by
    obtain ⟨h1, h2⟩ := drop_one (show bs.drop p = c :: (ds ++ rest) from hd)
    have hp : p < bs.length := (List.getElem?_eq_some_iff.1 h1).1
    have hc := ha c (List.mem_cons_self ..)
    have hv2 : num * 10 + (c.toNat - 48) ≤ most := Nat.le_trans (valF_ge ds _) hv
    have hdd := of_decide_eq_true hc
    show digF bs lim most false (g + ds.length + 1) p num = _
    rw [digF, h1]
    simp only []
    rw [if_neg (by omega), if_pos hc, if_neg (by decide), if_neg (by omega)]
    rw [digF_run bs lim most hl hm ds rest (p + 1) _ g h2 (fun d hd => ha d (List.mem_cons_of_mem _ hd)) hv]
    show digF bs lim most false g (p + 1 + ds.length) _ = digF bs lim most false g (p + (ds.length + 1)) _
    rw [show p + 1 + ds.length = p + (ds.length + 1) by omega]
    rfl
/-- Noughts behind a number make it too large at last. -/
theorem digF_zeros (bs : List UInt8) (lim : Int) (most : Nat) (hl : (bs.length : Int) < lim) : ∀ (n : Nat) (p num g : Nat), bs.drop p = List.replicate n 48 → num ≤ most → most < num * 10 ^ n →
    ∃ k, digF bs lim most false (g + n) p num = .error (10, ((p + k : Nat) : Int)) ∧ most < num * 10 ^ (k + 1)
  | 0, p, num, g, _, h1, h2 => absurd h2 (by omega)
  | n + 1, p, num, g, hd, h1, h2 => by
    obtain ⟨h3, h4⟩ := drop_one (show bs.drop p = 48 :: List.replicate n 48 from hd)
    have hp : p < bs.length := (List.getElem?_eq_some_iff.1 h3).1
    have e : digF bs lim most false (g + (n + 1)) p num = if most / 10 < num then .error (10, (p : Int)) else digF bs lim most false (g + n) (p + 1) (num * 10) := by
      show digF bs lim most false (g + n + 1) p num = _
      rw [digF, h3]
      simp only []
      rw [if_neg (by omega), if_pos (by decide), if_neg (by decide)]
      rfl
    rw [e]
    by_cases hc : most / 10 < num
    · rw [if_pos hc]
      exact ⟨0, rfl, by omega⟩
    · rw [if_neg hc]
      obtain ⟨k, h5, h6⟩ := digF_zeros bs lim most hl n (p + 1) (num * 10) g h4 (by omega) (by rw [Nat.mul_assoc, ← Nat.pow_succ']; exact h2)
      refine ⟨k + 1, ?_, ?_⟩
      · rw [h5, show p + 1 + k = p + (k + 1) by omega]
      · rw [Nat.mul_assoc, ← Nat.pow_succ'] at h6
        exact h6
theorem digit_of (d : Nat) (h : d < 10) : (UInt8.ofNat (48 + d)).toNat = 48 + d := by
  rw [UInt8.toNat_ofNat', Nat.mod_eq_of_lt (by omega)]
theorem isDig_of (d : Nat) (h : d < 10) : isDig (UInt8.ofNat (48 + d)) = true := by
  unfold isDig
  rw [digit_of d h]
  simp
  omega
/-- The digits of a number: the first one, those behind it. -/
theorem decDigits_parts (u : Nat) : ∃ c cs, Lib.decDigits u = c :: cs ∧ isDig c = true ∧ (∀ d ∈ cs, isDig d = true) ∧ valF cs (c.toNat - 48) = u ∧ (c.toNat = 48 → u = 0) ∧ (u = 0 → c = 48 ∧ cs = []) ∧ u < 10 ^ (cs.length + 1) := by
  induction u using Nat.strongRecOn with
  | _ u ih =>
    by_cases h : u < 10
    · rw [Lib.decDigits, dif_pos h]
      refine ⟨_, [], rfl, isDig_of u h, by simp, ?_, ?_, ?_, by simpa using h⟩
      · show (UInt8.ofNat (48 + u)).toNat - 48 = u
        rw [digit_of u h]
        omega
      · rw [digit_of u h]
        omega
      · rintro rfl
        exact ⟨rfl, rfl⟩
    · rw [Lib.decDigits, dif_neg h]
      obtain ⟨c, cs, h1, h2, h3, h4, h5, h6, h7⟩ := ih (u / 10) (by omega)
      refine ⟨c, cs ++ [UInt8.ofNat (48 + u % 10)], by rw [h1]; rfl, h2, ?_, ?_, ?_, ?_, ?_⟩
      · intro d hd
        rcases List.mem_append.1 hd with hd | hd
        · exact h3 d hd
        · rw [List.mem_singleton.1 hd]
          exact isDig_of _ (Nat.mod_lt _ (by decide))
      · rw [valF_append, h4]
        show u / 10 * 10 + ((UInt8.ofNat (48 + u % 10)).toNat - 48) = u
        rw [digit_of _ (Nat.mod_lt _ (by decide))]
        omega
      · intro h8
        have := h5 h8
        omega
      · intro h8
        omega
      · rw [List.length_append, Nat.pow_succ]
        simp only [List.length_cons, List.length_nil]
        rw [show cs.length + (0 + 1) = cs.length + 1 by omega]
        omega
/-- What is read behind the digits of a number, up to its end. -/
def tailF (z : Int) (rest : List UInt8) (lim : Int) : Except (Int × Int) (Nat × Nat) :=
  digF (Lib.itoa z ++ rest) lim (if z < 0 then 9223372036854775808 else 9223372036854775807) (decide (z = 0)) (rest.length + 1) (Lib.itoa z).length z.natAbs

/-- How a number in digits begins, and what is behind it is read. -/
theorem numF_itoa (z : Int) (rest : List UInt8) (lim : Int) (hn1 : -9223372036854775808 ≤ z) (hn2 : z ≤ 9223372036854775807) (hl : ((Lib.itoa z ++ rest).length : Int) < lim) :
    ∃ c cs, Lib.itoa z = c :: cs ∧ (c.toNat = 45 ∨ isDig c = true) ∧ z.natAbs < 10 ^ (Lib.itoa z).length ∧ numF ⟨none, Lib.itoa z ++ rest, 0, 0, lim, 1, 0⟩ c = match tailF z rest lim with
      | .ok (x, p) => .ok (if z < 0 then -(x : Int) else (x : Int), p)
      | .error e => .error e := by
  unfold tailF
  obtain ⟨c, cs, h1, h2, h3, h4, h5, h6, h7⟩ := decDigits_parts z.natAbs
  have hdd := of_decide_eq_true h2
  by_cases hz : z < 0
  · have hi : Lib.itoa z = 45 :: c :: cs := by unfold Lib.itoa; rw [if_pos hz, h1]
    rw [hi] at hl ⊢
    rw [if_pos hz]
    simp only [List.length_append, List.length_cons] at hl
    refine ⟨45, c :: cs, rfl, .inl rfl, ?_, ?_⟩
    · simp only [List.length_cons]
      exact Nat.lt_of_lt_of_le h7 (Nat.pow_le_pow_right (by decide) (by omega))
    · have hc48 : (c.toNat == 48) = false := by
        simp only [beq_eq_false_iff_ne]
        intro h8
        have := h5 h8
        omega
      have hz0 : decide (z = 0) = false := by simp; omega
      unfold numF
      rw [if_pos (by rfl), hz0]
      simp only [List.cons_append, List.getElem?_cons_succ, List.getElem?_cons_zero]
      rw [if_neg (by omega), if_pos h2, hc48]
      have hrun := digF_run ((45 : UInt8) :: c :: (cs ++ rest)) lim 9223372036854775808 (by simp only [List.length_cons, List.length_append]; omega) (by decide) cs rest 2 (c.toNat - 48) (rest.length + 1) rfl h3 (by omega)
      rw [show ((45 : UInt8) :: c :: (cs ++ rest)).length + 1 - (1 + 1) = rest.length + 1 + cs.length by simp only [List.length_cons, List.length_append]; omega]
      rw [hrun, h4]
      rw [show (2 + cs.length) = ((45 : UInt8) :: c :: cs).length by simp only [List.length_cons]; omega]
      split <;> simp_all
  · have hi : Lib.itoa z = c :: cs := by unfold Lib.itoa; rw [if_neg hz, show z.toNat = z.natAbs by omega, h1]
    rw [hi] at hl ⊢
    rw [if_neg hz]
    simp only [List.length_append, List.length_cons] at hl
    have h45 : ¬ c.toNat = 45 := by omega
    refine ⟨c, cs, rfl, .inr h2, h7, ?_⟩
    unfold numF
    rw [if_neg h45]
    by_cases h0 : z = 0
    · obtain ⟨h8, h9⟩ := h6 (by omega)
      subst h8
      subst h9
      subst h0
      simp only [List.cons_append, List.nil_append]
      rw [show ((48 : UInt8) :: rest).length + 1 - 1 = rest.length + 1 by simp only [List.length_cons]; omega]
      rfl
    · have hc48 : (c.toNat == 48) = false := by
        simp only [beq_eq_false_iff_ne]
        intro h8
        have := h5 h8
        omega
      have hz0 : decide (z = 0) = false := by simp; omega
      rw [hc48, hz0]
      simp only [List.cons_append]
      have hrun := digF_run (c :: (cs ++ rest)) lim 9223372036854775807 (by simp only [List.length_cons, List.length_append]; omega) (by decide) cs rest 1 (c.toNat - 48) (rest.length + 1) rfl h3 (by omega)
      rw [show (c :: (cs ++ rest)).length + 1 - 1 = rest.length + 1 + cs.length by simp only [List.length_cons, List.length_append]; omega]
      rw [hrun, h4]
      rw [show (1 + cs.length) = (c :: cs).length by simp only [List.length_cons]; omega]
      split <;> simp_all
      omega
theorem tail_nil (z : Int) (lim : Int) : tailF z [] lim = .ok (z.natAbs, (Lib.itoa z).length) := by
  unfold tailF
  rw [List.append_nil, digF, List.getElem?_eq_none (Nat.le_refl _)]
theorem itoa_dot (z : Int) (x : UInt8) (r : List UInt8) : (Lib.itoa z ++ x :: r)[(Lib.itoa z).length]? = some x := by
  rw [List.getElem?_append_right (Nat.le_refl _), Nat.sub_self]
  rfl
theorem tail_dot (z : Int) (r : List UInt8) (lim : Int) (hl : ((Lib.itoa z ++ 46 :: r).length : Int) < lim) : tailF z (46 :: r) lim = .error (10, ((Lib.itoa z).length : Int)) := by
  unfold tailF
  rw [digF, itoa_dot]
  simp only [List.length_append, List.length_cons] at hl ⊢
  rw [if_neg (by omega), if_neg (by decide), if_pos (by decide)]
theorem tail_zeros (z : Int) (lim : Int) (hn1 : -9223372036854775808 ≤ z) (hn2 : z ≤ 9223372036854775807) (hz : z ≠ 0) (hd : z.natAbs < 10 ^ (Lib.itoa z).length) (hl : ((Lib.itoa z ++ List.replicate 19 48).length : Int) < lim) : ∃ p : Nat, 18 ≤ p ∧ tailF z (List.replicate 19 48) lim = .error (10, (p : Int)) := by
  unfold tailF
  have hz0 : decide (z = 0) = false := by simpa using hz
  rw [hz0]
  obtain ⟨most, hmost, hm1, hm2⟩ : ∃ most, (if z < 0 then 9223372036854775808 else 9223372036854775807) = most ∧ z.natAbs ≤ most ∧ (most = 9223372036854775808 ∨ most = 9223372036854775807) := by
    by_cases h : z < 0
    · exact ⟨_, if_pos h, by omega, .inl rfl⟩
    · exact ⟨_, if_neg h, by omega, .inr rfl⟩
  rw [hmost]
  have hdrop : (Lib.itoa z ++ List.replicate 19 48).drop (Lib.itoa z).length = List.replicate 19 48 := by simp
  obtain ⟨k, h1, h2⟩ := digF_zeros _ lim most hl 19 _ z.natAbs 1 hdrop hm1 (by omega)
  rw [show (List.replicate 19 (48 : UInt8)).length + 1 = 1 + 19 from rfl, h1]
  refine ⟨_, ?_, rfl⟩
  have h3 : 10 ^ 18 < 10 ^ ((Lib.itoa z).length + (k + 1)) := by
    rw [Nat.pow_add]
    exact Nat.lt_trans (show 10 ^ 18 < most from by omega) (Nat.lt_of_lt_of_le h2 (Nat.mul_le_mul_right _ (Nat.le_of_lt hd)))
  have := (Nat.pow_lt_pow_iff_right (by decide : 1 < 10)).1 h3
  omega
theorem tail_zero (lim : Int) (hl : 20 < lim) : tailF 0 (List.replicate 19 48) lim = .error (9, 1) := by
  have e : Lib.itoa 0 = [48] := by unfold Lib.itoa; rw [if_neg (by decide)]; show Lib.decDigits 0 = _; rw [Lib.decDigits, dif_pos (by decide)]; rfl
  unfold tailF
  rw [e]
  show digF (48 :: 48 :: List.replicate 18 48) lim _ true (19 + 1) 1 0 = _
  rw [digF]
  simp only [List.getElem?_cons_succ, List.getElem?_cons_zero]
  rw [if_neg (by omega), if_pos (by decide), if_pos trivial]
  rfl
/-- A number in digits is that number. -/
theorem docN_itoa (z : Int) (lim : Int) (hn1 : -9223372036854775808 ≤ z) (hn2 : z ≤ 9223372036854775807) (hl : ((Lib.itoa z).length : Int) < lim) :
    ∃ c cs, Lib.itoa z = c :: cs ∧ (c.toNat = 45 ∨ isDig c = true) ∧ docN (Lib.itoa z) lim c = .ok z := by
  obtain ⟨c, cs, h1, h2, h3, h4⟩ := numF_itoa z [] lim hn1 hn2 (by rw [List.append_nil]; exact hl)
  rw [List.append_nil, tail_nil] at h4
  refine ⟨c, cs, h1, h2, ?_⟩
  unfold docN
  rw [h4]
  simp only []
  rw [show (Lib.itoa z).length + 1 - (Lib.itoa z).length = 0 + 1 by omega, spF, List.getElem?_eq_none (Nat.le_refl _)]
  simp only []
  unfold endF
  simp only []
  rw [List.getElem?_eq_none (Nat.le_refl _)]
  simp only []
  congr 1
  split <;> omega
/-- Where reading fails behind the digits, the document fails. -/
theorem docN_fail (z : Int) (rest : List UInt8) (lim : Int) (en pl : Int) (hn1 : -9223372036854775808 ≤ z) (hn2 : z ≤ 9223372036854775807) (hl : ((Lib.itoa z ++ rest).length : Int) < lim) (ht : tailF z rest lim = .error (en, pl)) :
    ∃ c cs, Lib.itoa z = c :: cs ∧ (c.toNat = 45 ∨ isDig c = true) ∧ docN (Lib.itoa z ++ rest) lim c = .error (en, pl) := by
  obtain ⟨c, cs, h1, h2, h3, h4⟩ := numF_itoa z rest lim hn1 hn2 hl
  rw [ht] at h4
  refine ⟨c, cs, h1, h2, ?_⟩
  unfold docN
  rw [h4]
end Go.Proofs.YtllcbnfmihfaaaaGreatDoor
