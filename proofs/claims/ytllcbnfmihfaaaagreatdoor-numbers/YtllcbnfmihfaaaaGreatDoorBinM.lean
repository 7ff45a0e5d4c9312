import Derived.Test.YtllcbnfmihfaaaaGreatDoorHdB
import Derived.Test.YtllcbnfmihfaaaaGreatDoorWrZ
import Derived.Test.YtllcbnfmihfaaaaGreatDoorNumM
namespace Go.Proofs.YtllcbnfmihfaaaaGreatDoor
open Go.RowKit

/-- A number in a binary format, over the heads of the format, up to where it ends. -/
def binF (hd : Nat → Nat × Nat × Nat) (bs : List UInt8) (lim : Int) : Except (Int × Int) (Int × Nat) :=
  match bs[0]? with
  | none => .error (9, 0)
  | some c => if (hd c.toNat).1 = 4 ∨ (hd c.toNat).1 = 5 ∨ (hd c.toNat).1 = 6 then match argF bs lim (hd c.toNat).2.1 1 (hd c.toNat).2.2 with
    | .error e => .error e
    | .ok (x, p) => match nbF (hd c.toNat).1 (hd c.toNat).2.1 x p with
      | .error e => .error e
      | .ok z => .ok (z, p)
    else .error (0, 0)
theorem argF_lt (bs : List UInt8) (lim : Int) : ∀ (k p a x q : Nat), argF bs lim k p a = .ok (x, q) → x < (a + 1) * 256 ^ k
  | 0, p, a, x, q, h => by
    unfold argF at h
    cases h
    simp
  | k + 1, p, a, x, q, h => by
    rw [argF] at h
    split at h
    · cases h
    · next c _ =>
      split at h
      · cases h
      · have h1 := argF_lt bs lim k (p + 1) _ x q h
        have h2 : c.toNat < 256 := c.toNat_lt
        have h3 : (a * 256 + c.toNat + 1) * 256 ^ k ≤ ((a + 1) * 256) * 256 ^ k := Nat.mul_le_mul_right _ (by omega)
        have h4 : ((a + 1) * 256) * 256 ^ k = (a + 1) * 256 ^ (k + 1) := by rw [Nat.mul_assoc, Nat.pow_succ, Nat.mul_comm 256]
        omega
/-- What binF is, told by its parts. -/
theorem binF_parts {hd : Nat → Nat × Nat × Nat} {bs : List UInt8} {lim : Int} {z : Int} {p : Nat} (h : binF hd bs lim = .ok (z, p)) : ∃ c x, bs[0]? = some c ∧ ((hd c.toNat).1 = 4 ∨ (hd c.toNat).1 = 5 ∨ (hd c.toNat).1 = 6) ∧ argF bs lim (hd c.toNat).2.1 1 (hd c.toNat).2.2 = .ok (x, p) ∧ nbF (hd c.toNat).1 (hd c.toNat).2.1 x p = .ok z := by
  unfold binF at h
  split at h
  · cases h
  · next c hc =>
    split at h
    · next hs =>
      split at h
      · cases h
      · next x q hx =>
        split at h
        · cases h
        · next y hy =>
          cases h
          exact ⟨c, x, hc, hs, hx, hy⟩
    · cases h
theorem cbHd_ok (c : Nat) : (cbHd c).2.1 ≤ 8 ∧ ((cbHd c).2.1 = 0 ∨ (cbHd c).2.2 = 0) ∧ (cbHd c).2.2 < 18446744073709551616 := by
  unfold cbHd
  split
  · decide
  split
  · decide
  split
  · decide
  split
  · decide
  · next h =>
    split
    · have h3 : c % 32 - 24 = 0 ∨ c % 32 - 24 = 1 ∨ c % 32 - 24 = 2 ∨ c % 32 - 24 = 3 := by omega
      refine ⟨?_, .inr rfl, by show 0 < _; decide⟩
      show 2 ^ (c % 32 - 24) ≤ 8
      rcases h3 with h3 | h3 | h3 | h3 <;> rw [h3] <;> decide
    · exact ⟨Nat.zero_le _, .inl rfl, by show c % 32 < _; omega⟩
theorem pkTab_ok (u : Nat) : (pkTab.getD u (0, 0)).2 ≤ 8 := by
  by_cases h : u < 32
  · have : ∀ v : Fin 32, (pkTab.getD v.val (0, 0)).2 ≤ 8 := by decide
    exact this ⟨u, h⟩
  · have e : pkTab.getD u (0, 0) = (0, 0) := by
      rw [List.getD_eq_getElem?_getD, List.getElem?_eq_none (by show 32 ≤ u; omega)]
      rfl
    rw [e]
    decide
theorem pkHd_ok (c : Nat) (hc : c < 256) : (pkHd c).2.1 ≤ 8 ∧ ((pkHd c).2.1 = 0 ∨ (pkHd c).2.2 = 0) ∧ (pkHd c).2.2 < 18446744073709551616 := by
  unfold pkHd
  split
  · exact ⟨Nat.zero_le _, .inl rfl, by show c < _; omega⟩
  split
  · exact ⟨Nat.zero_le _, .inl rfl, by show c - 128 < _; omega⟩
  split
  · exact ⟨Nat.zero_le _, .inl rfl, by show c - 144 < _; omega⟩
  split
  · exact ⟨Nat.zero_le _, .inl rfl, by show c - 160 < _; omega⟩
  split
  · have h5 := pkTab_ok (c - 192)
    generalize pkTab.getD (c - 192) (0, 0) = y at *
    exact ⟨h5, .inr rfl, Nat.zero_lt_succ _⟩
  · refine ⟨Nat.zero_le _, .inl rfl, ?_⟩
    simp only []
    omega
theorem arg_fits {bs : List UInt8} {lim : Int} {w g x q : Nat} (h : w ≤ 8 ∧ (w = 0 ∨ g = 0) ∧ g < 18446744073709551616) (ha : argF bs lim w 1 g = .ok (x, q)) : x < 18446744073709551616 := by
  have h1 := argF_lt bs lim w 1 g x q ha
  obtain ⟨h2, h3, h4⟩ := h
  rcases h3 with h3 | h3
  · subst h3
    simp at h1
    omega
  · subst h3
    have h5 : 256 ^ w ≤ 256 ^ 8 := Nat.pow_le_pow_right (by decide) h2
    have h6 : (256 : Nat) ^ 8 = 18446744073709551616 := by decide
    omega
theorem argF_be (bs : List UInt8) (lim : Int) (hl : (bs.length : Int) ≤ lim) (x : Nat) : ∀ (k p a : Nat) (rest : List UInt8), bs.drop p = beF x k ++ rest → argF bs lim k p a = .ok (a * 256 ^ k + x % 256 ^ k, p + k)
  | 0, p, a, rest, _ => by
    unfold argF
    simp [Nat.mod_one]
  | k + 1, p, a, rest, h => by
    obtain ⟨h1, h2⟩ := drop_one (show bs.drop p = UInt8.ofNat (x / 2 ^ (8 * k) % 256) :: (beF x k ++ rest) from h)
    have hp : p < bs.length := (List.getElem?_eq_some_iff.1 h1).1
    have e1 : (UInt8.ofNat (x / 2 ^ (8 * k) % 256)).toNat = x / 256 ^ k % 256 := by
      rw [UInt8.toNat_ofNat', Nat.pow_mul, show (2 : Nat) ^ 8 = 256 from rfl, Nat.mod_mod]
    rw [argF, h1]
    simp only []
    rw [if_neg (by omega), argF_be bs lim hl x k (p + 1) _ rest h2, e1]
    have e2 : (a * 256 + x / 256 ^ k % 256) * 256 ^ k + x % 256 ^ k = a * 256 ^ (k + 1) + x % 256 ^ (k + 1) := by
      rw [Nat.mod_pow_succ, Nat.add_mul, Nat.pow_succ, Nat.mul_comm (x / 256 ^ k % 256), Nat.mul_assoc a 256, Nat.mul_comm 256]
      omega
    rw [e2, show p + 1 + k = p + (k + 1) by omega]
/-- A head with bytes behind it. -/
theorem binF_be (hd : Nat → Nat × Nat × Nat) (c : UInt8) (x k so : Nat) (lim : Int) (z : Int) (hs : so = 4 ∨ so = 5 ∨ so = 6) (hh : hd c.toNat = (so, k, 0)) (hx : x % 256 ^ k = x) (hn : nbF so k x (1 + k : Nat) = .ok z) (hl : (k : Int) < lim) (hb : ∀ k, (beF x k).length = k) :
    binF hd (c :: beF x k) lim = .ok (z, (c :: beF x k).length) := by
  unfold binF
  simp only [List.getElem?_cons_zero]
  rw [hh]
  rw [if_pos hs]
  have := argF_be (c :: beF x k) lim (by simp only [List.length_cons, hb]; omega) x k 1 0 [] (by simp)
  simp only []
  rw [this]
  simp only [Nat.zero_mul, Nat.zero_add, hx]
  rw [hn]
  simp only [List.length_cons, hb, Nat.add_comm]
theorem binF_one (hd : Nat → Nat × Nat × Nat) (c : UInt8) (x so : Nat) (lim : Int) (z : Int) (hs : so = 4 ∨ so = 5 ∨ so = 6) (hh : hd c.toNat = (so, 0, x)) (hn : nbF so 0 x 1 = .ok z) : binF hd [c] lim = .ok (z, [c].length) := by
  unfold binF
  simp only [List.getElem?_cons_zero]
  rw [hh]
  simp only [argF]
  rw [if_pos hs]
  rw [show nbF (so : Int) ((0 : Nat) : Int) x ((1 : Nat) : Int) = .ok z from hn]
  rfl
theorem beF_length (x : Nat) : ∀ k, (beF x k).length = k
  | 0 => rfl
  | k + 1 => by rw [beF, List.length_cons, beF_length x k]
theorem nb_unsigned (w : Int) (x : Nat) (p : Int) (h : x ≤ 9223372036854775807) : nbF 4 w x p = .ok (x : Int) := by
  unfold nbF
  rw [if_neg (by decide), if_neg (by omega), if_neg (by decide)]
theorem nb_negative (w : Int) (x : Nat) (p : Int) (h : x ≤ 9223372036854775807) : nbF 6 w x p = .ok (-1 - (x : Int)) := by
  unfold nbF
  rw [if_neg (by decide), if_neg (by omega), if_pos (by decide)]
theorem nb_signed (w : Int) (x : Nat) (p : Int) : nbF 5 w x p = .ok (extF x w) := by
  unfold nbF
  rw [if_pos (by decide)]
theorem cbHd_small (s x : Nat) (hs : s < 2) (hx : x < 24) : cbHd (UInt8.ofNat (32 * s + x)).toNat = (if s = 0 then 4 else 6, 0, x) := by
  rw [UInt8.toNat_ofNat', Nat.mod_eq_of_lt (by omega)]
  have h1 : (32 * s + x) / 32 = s := by omega
  have h2 : (32 * s + x) % 32 = x := by omega
  unfold cbHd
  rw [h1, h2]
  have hs2 : s = 0 ∨ s = 1 := by omega
  rw [if_neg (by omega), if_neg (by omega), if_neg (by omega)]
  rcases hs2 with rfl | rfl
  · rw [if_neg (by simp [cbUp]; omega), if_neg (by omega)]
    rfl
  · rw [if_neg (by simp [cbUp]; omega), if_neg (by omega)]
    rfl
theorem cborHd_head (s x : Nat) (hs : s < 2) (lim : Int) (hl : 8 < lim) (z : Int) (hx : x ≤ 9223372036854775807) (hn : ∀ w p, nbF (if s = 0 then (4 : Nat) else 6 : Nat) w x p = .ok z) : binF cbHd (cborHd s x) lim = .ok (z, (cborHd s x).length) := by
  have hs2 : s = 0 ∨ s = 1 := by omega
  unfold cborHd
  by_cases c0 : x < 24
  · rw [if_pos c0]
    exact binF_one cbHd _ x _ lim z (by split <;> simp) (cbHd_small s x hs c0) (hn _ _)
  rw [if_neg c0]
  by_cases c1 : x ≤ 255
  · rw [if_pos c1]
    refine binF_be cbHd _ x 1 (if s = 0 then 4 else 6) lim z (by split <;> simp) ?_ (by omega) (hn _ _) (by omega) (beF_length x)
    rcases hs2 with rfl | rfl <;> rfl
  rw [if_neg c1]
  by_cases c2 : x ≤ 65535
  · rw [if_pos c2]
    refine binF_be cbHd _ x 2 (if s = 0 then 4 else 6) lim z (by split <;> simp) ?_ (by omega) (hn _ _) (by omega) (beF_length x)
    rcases hs2 with rfl | rfl <;> rfl
  rw [if_neg c2]
  by_cases c3 : x ≤ 4294967295
  · rw [if_pos c3]
    refine binF_be cbHd _ x 4 (if s = 0 then 4 else 6) lim z (by split <;> simp) ?_ (by omega) (hn _ _) (by omega) (beF_length x)
    rcases hs2 with rfl | rfl <;> rfl
  rw [if_neg c3]
  refine binF_be cbHd _ x 8 (if s = 0 then 4 else 6) lim z (by split <;> simp) ?_ (by omega) (hn _ _) (by omega) (beF_length x)
  rcases hs2 with rfl | rfl <;> rfl
theorem binF_cborZ (z : Int) (lim : Int) (hl : 8 < lim) (hn1 : -9223372036854775808 ≤ z) (hn2 : z ≤ 9223372036854775807) : binF cbHd (cborZ z) lim = .ok (z, (cborZ z).length) := by
  unfold cborZ
  by_cases hz : z < 0
  · rw [if_pos hz]
    refine cborHd_head 1 _ (by decide) lim hl z (by omega) fun w p => ?_
    rw [if_neg (by decide)]
    exact (nb_negative w _ p (by omega)).trans (by congr 1; omega)
  · rw [if_neg hz]
    refine cborHd_head 0 _ (by decide) lim hl z (by omega) fun w p => ?_
    rw [if_pos rfl]
    exact (nb_unsigned w _ p (by omega)).trans (by congr 1; omega)
theorem ext1 (x : Nat) : extF x (1 : Nat) = ((x : Int) + 128) % 256 - 128 := by
  unfold extF
  rw [if_pos (by decide)]
  have e : IntKind.i8.wrap x = ((x : Int) + 128) % 256 - 128 := by
    unfold IntKind.wrap
    simp only [IntKind.bits, IntKind.signed, Bool.true_and]
    split <;> rename_i h <;> simp at h <;> omega
  rw [e]
  unfold wrap64
  omega
theorem ext2 (x : Nat) : extF x (2 : Nat) = ((x : Int) + 32768) % 65536 - 32768 := by
  unfold extF
  rw [if_neg (by decide), if_pos (by decide)]
  have e : IntKind.i16.wrap x = ((x : Int) + 32768) % 65536 - 32768 := by
    unfold IntKind.wrap
    simp only [IntKind.bits, IntKind.signed, Bool.true_and]
    split <;> rename_i h <;> simp at h <;> omega
  rw [e]
  unfold wrap64
  omega
theorem ext4 (x : Nat) : extF x (4 : Nat) = ((x : Int) + 2147483648) % 4294967296 - 2147483648 := by
  unfold extF
  rw [if_neg (by decide), if_neg (by decide), if_pos (by decide)]
  unfold wrap64 wrap32
  omega
theorem ext8 (x : Nat) : extF x (8 : Nat) = wrap64 x := by
  unfold extF
  rw [if_neg (by decide), if_neg (by decide), if_neg (by decide)]
theorem ext0 (x : Nat) : extF x 0 = wrap64 x := by
  unfold extF
  rw [if_neg (by decide), if_neg (by decide), if_neg (by decide)]
theorem beF_mod (x y : Nat) : ∀ k m, k ≤ m → x % 256 ^ m = y % 256 ^ m → beF x k = beF y k
  | 0, m, _, _ => rfl
  | k + 1, m, hk, h => by
    have hm : ∀ u : Nat, u / 2 ^ (8 * k) % 256 = u % 256 ^ m / 256 ^ k % 256 := by
      intro u
      rw [Nat.pow_mul, show (2 : Nat) ^ 8 = 256 from rfl]
      obtain ⟨j, rfl⟩ : ∃ j, m = (k + 1) + j := ⟨m - (k + 1), by omega⟩
      have e1 : u % 256 ^ (k + 1 + j) / 256 ^ k % 256 = u % 256 ^ (k + 1 + j) % 256 ^ (k + 1) / 256 ^ k := by
        rw [Nat.pow_succ, Nat.mod_mul_right_div_self]
      have e2 : u % 256 ^ (k + 1 + j) % 256 ^ (k + 1) = u % 256 ^ (k + 1) := Nat.mod_mod_of_dvd _ ⟨256 ^ j, Nat.pow_add ..⟩
      rw [e1, e2, Nat.pow_succ, Nat.mod_mul_right_div_self]
    rw [beF, beF, hm x, hm y, h, beF_mod x y k m (by omega) h]
theorem packNeg_be (z : Int) (k so lim) (c : UInt8) (hk : k = 1 ∨ k = 2 ∨ k = 4 ∨ k = 8) (hh : pkHd c.toNat = (so, k, 0)) (hso : so = 5) (hl : (8 : Int) < lim) (hr : extF ((z % 18446744073709551616).toNat % 256 ^ k) (k : Nat) = z) :
    binF pkHd (c :: beF (z % 18446744073709551616).toNat k) lim = .ok (z, (c :: beF (z % 18446744073709551616).toNat k).length) := by
  subst hso
  have e : beF (z % 18446744073709551616).toNat k = beF ((z % 18446744073709551616).toNat % 256 ^ k) k := beF_mod _ _ k k (Nat.le_refl _) (Nat.mod_mod _ _).symm
  rw [e]
  refine binF_be pkHd c _ k 5 lim z (by simp) hh (Nat.mod_mod _ _) ?_ (by omega) (beF_length _)
  exact (nb_signed _ _ _).trans (by rw [hr])
theorem binF_packZ (z : Int) (lim : Int) (hl : 8 < lim) (hn1 : -9223372036854775808 ≤ z) (hn2 : z ≤ 9223372036854775807) : binF pkHd (packZ z) lim = .ok (z, (packZ z).length) := by
  unfold packZ
  by_cases hz : z < 0
  · rw [if_pos hz]
    unfold packNeg
    by_cases c0 : -32 ≤ z
    · rw [if_pos c0]
      have e1 : (z % 256).toNat = (256 + z).toNat := by omega
      have e2 : (UInt8.ofNat (z % 256).toNat).toNat = (256 + z).toNat := by rw [UInt8.toNat_ofNat', e1, Nat.mod_eq_of_lt (by omega)]
      refine binF_one pkHd _ (18446744073709551360 + (256 + z).toNat) 5 lim z (by simp) ?_ ?_
      · rw [e2]
        unfold pkHd
        rw [if_neg (by omega), if_neg (by omega), if_neg (by omega), if_neg (by omega), if_neg (by omega)]
      · have e3 : wrap64 ((18446744073709551360 + (256 + z).toNat : Nat) : Int) = z := by
          unfold wrap64
          omega
        generalize 18446744073709551360 + (256 + z).toNat = x at *
        rw [← e3, ← ext0]
        exact nb_signed _ _ _
    rw [if_neg c0]
    by_cases c1 : -128 ≤ z
    · rw [if_pos c1]
      refine packNeg_be z 1 5 lim 208 (.inl rfl) (by rfl) rfl hl ?_
      rw [ext1]
      omega
    rw [if_neg c1]
    by_cases c2 : -32768 ≤ z
    · rw [if_pos c2]
      refine packNeg_be z 2 5 lim 209 (.inr (.inl rfl)) (by rfl) rfl hl ?_
      rw [ext2]
      omega
    rw [if_neg c2]
    by_cases c3 : -2147483648 ≤ z
    · rw [if_pos c3]
      refine packNeg_be z 4 5 lim 210 (.inr (.inr (.inl rfl))) (by rfl) rfl hl ?_
      rw [ext4]
      omega
    rw [if_neg c3]
    refine packNeg_be z 8 5 lim 211 (.inr (.inr (.inr rfl))) (by rfl) rfl hl ?_
    rw [ext8]
    unfold wrap64
    omega
  · rw [if_neg hz]
    have hn : ∀ w p, nbF (4 : Nat) w z.toNat p = .ok z := fun w p => (nb_unsigned w _ p (by omega)).trans (by congr 1; omega)
    unfold packNat
    by_cases c0 : z.toNat < 128
    · rw [if_pos c0]
      have e2 : (UInt8.ofNat z.toNat).toNat = z.toNat := by rw [UInt8.toNat_ofNat', Nat.mod_eq_of_lt (by omega)]
      refine binF_one pkHd _ z.toNat 4 lim z (by simp) ?_ (hn _ _)
      rw [e2]
      unfold pkHd
      rw [if_pos c0]
    rw [if_neg c0]
    by_cases c1 : z.toNat ≤ 255
    · rw [if_pos c1]
      exact binF_be pkHd _ z.toNat 1 4 lim z (by simp) (by rfl) (by omega) (hn _ _) (by omega) (beF_length _)
    rw [if_neg c1]
    by_cases c2 : z.toNat ≤ 65535
    · rw [if_pos c2]
      exact binF_be pkHd _ z.toNat 2 4 lim z (by simp) (by rfl) (by omega) (hn _ _) (by omega) (beF_length _)
    rw [if_neg c2]
    by_cases c3 : z.toNat ≤ 4294967295
    · rw [if_pos c3]
      exact binF_be pkHd _ z.toNat 4 4 lim z (by simp) (by rfl) (by omega) (hn _ _) (by omega) (beF_length _)
    rw [if_neg c3]
    exact binF_be pkHd _ z.toNat 8 4 lim z (by simp) (by rfl) (by omega) (hn _ _) (by omega) (beF_length _)
end Go.Proofs.YtllcbnfmihfaaaaGreatDoor
