import Derived.Test.YtllcbnfmihfaaaaGreatDoorWr
namespace Go.Proofs.YtllcbnfmihfaaaaGreatDoor
open Go.RowKit

/-- A number that is not negative in MessagePack. -/
def packNat (x : Nat) : List UInt8 :=
  if x < 128 then [UInt8.ofNat x] else if x ≤ 255 then 204 :: beF x 1 else if x ≤ 65535 then 205 :: beF x 2 else if x ≤ 4294967295 then 206 :: beF x 4 else 207 :: beF x 8
/-- A negative number in MessagePack. -/
def packNeg (z : Int) : List UInt8 :=
  if -32 ≤ z then [UInt8.ofNat (z % 256).toNat] else if -128 ≤ z then 208 :: beF (z % 18446744073709551616).toNat 1 else if -32768 ≤ z then 209 :: beF (z % 18446744073709551616).toNat 2 else if -2147483648 ≤ z then 210 :: beF (z % 18446744073709551616).toNat 4 else 211 :: beF (z % 18446744073709551616).toNat 8
/-- A head in CBOR. -/
def cborHd (s x : Nat) : List UInt8 :=
  if x < 24 then [UInt8.ofNat (32 * s + x)] else if x ≤ 255 then UInt8.ofNat (32 * s + 24) :: beF x 1 else if x ≤ 65535 then UInt8.ofNat (32 * s + 25) :: beF x 2 else if x ≤ 4294967295 then UInt8.ofNat (32 * s + 26) :: beF x 4 else UInt8.ofNat (32 * s + 27) :: beF x 8

theorem byteV_nat (x : Nat) (h : x < 256) : byteV (UInt8.ofNat x) = .int .u8 (x : Int) := by
  unfold byteV
  rw [UInt8.toNat_ofNat', Nat.mod_eq_of_lt (by omega)]
theorem own_one {W W' : World} {base : Nat} {a : Option Addr} {n c : Nat} {bs : List UInt8} {b : UInt8} {u v' : Value} (hb : base ≤ W.heap.size) (ho : W.ownsRow base 5 1 (.slice a n c) bs.length (bs.map byteV)) (hu : byteV b = u) (hown : W'.ownsRow base 5 1 v' (bs.length + 1) (bs.map byteV ++ [u])) (hgrow : (W.alloc (Obj.cells #[u] 5)).grownBy W' (Value.slice a n c).ownBlock) : Own W' base v' (bs ++ [b]) ∧ Below base W W' := by
  have h2 := own_next hown hu
  obtain ⟨g5, cap5, rfl⟩ := ownsRow_succ hown
  refine ⟨⟨h2, ?_, _, _, _, rfl⟩, grown_below ((Below.refl base W).alloc hb _) (ho.alloc _) hgrow (by simp; omega)⟩
  have := hgrow.size; simp at this; omega
theorem own_two {W W' W2 : World} {base : Nat} {bs ys zs : List UInt8} {b : UInt8} {v' v2 : Value} (h : Own W' base v' (bs ++ [b]) ∧ Below base W W') (h2 : Own W2 base v2 ((bs ++ [b]) ++ ys)) (hB : Below base W' W2) (e : b :: ys = zs) : Own W2 base v2 (bs ++ zs) ∧ Below base W W2 := by
  subst e
  refine ⟨?_, h.2.trans hB⟩
  rw [List.append_assoc] at h2
  exact h2

set_option maxRecDepth 100000 in
set_option maxHeartbeats 2000000 in
theorem packNat_any (W : World) (base : Nat) (v : Value) (bs : List UInt8) (x : Nat) (hx : x < 18446744073709551616) (hl : bs.length ≤ 999999999) (h : Own W base v bs) :
    Calls Tryz.prog 166 #[v, .int .u64 x] W fun e W' => ∃ v', e = .returned v' ∧ Own W' base v' (bs ++ packNat x) ∧ Below base W W' := by
  obtain ⟨i0, hi, hz0, hz1, hz2⟩ := info_parts Tryz.infoU8
  obtain ⟨ho, hb, a, n, c, rfl⟩ := h
  have HO : Hid (W.ownsRow base 5 1 (.slice a n c) bs.length (bs.map byteV)) := ho
  clear ho
  by_cases c0 : x < 128
  · have hr : Hid (packNat x = UInt8.ofNat x :: []) := by show _ = _; unfold packNat; rw [if_pos c0]
    go_enter Tryz.func166, Tryz.ntmps166
    go_wp2_with (first
        | (at_builtin; refine wpList_append_own _ rfl _ _ 28 rfl base 5 i0 (.int .u8 0) 1 1 Tryz.underlying28 hi hz0 hz1 hz2 rfl (by decide) _ _ _ rfl (HO.out.alloc _) ⟨W.heap.size, 0, none⟩ 1 1 [.int .u8 (x : Int)] rfl rfl (cell_made _ _ _) (fun u hu => by simp at hu; subst hu; rfl) (by unfold maxLen; omega) (by omega) (by simp; omega) ?_; intro v' w5 hown' hgrow5 hnil5; clear hnil5; obtain ⟨g5, cap5, rfl⟩ := ownsRow_succ hown'; have HB : Hid (Own w5 base _ (bs ++ [UInt8.ofNat x]) ∧ Below base W w5) := own_one hb HO.out (byteV_nat _ (by omega)) hown' hgrow5; clear hown' hgrow5 HO))
    go_ret; rw [hr.out]; exact ⟨_, rfl, HB.out⟩
  · skip
    by_cases c1 : x ≤ 255
    · have hr : Hid (packNat x = 204 :: beF x 1) := by show _ = _; unfold packNat; rw [if_neg c0]; rw [if_pos c1]
      go_enter Tryz.func166, Tryz.ntmps166
      go_wp2_with (first
          | (at_builtin; refine wpList_append_own _ rfl _ _ 28 rfl base 5 i0 (.int .u8 0) 1 1 Tryz.underlying28 hi hz0 hz1 hz2 rfl (by decide) _ _ _ rfl (HO.out.alloc _) ⟨W.heap.size, 0, none⟩ 1 1 [.int .u8 204] rfl rfl (cell_made _ _ _) (fun u hu => by simp at hu; subst hu; rfl) (by unfold maxLen; omega) (by omega) (by simp; omega) ?_; intro v' w5 hown' hgrow5 hnil5; clear hnil5; obtain ⟨g5, cap5, rfl⟩ := ownsRow_succ hown'; have HB : Hid (Own w5 base _ (bs ++ [204]) ∧ Below base W w5) := own_one hb HO.out (rfl) hown' hgrow5; clear hown' hgrow5 HO)
          | (go_at_call 202; refine (appendArg_any _ base _ _ (x) 1 (by omega) (by omega) (by simp; omega) HB.out.1).mono ?_; rintro e w6 ⟨v6, rfl, h6, hB6⟩; obtain ⟨h61, h62, a6, n6, c6, rfl⟩ := h6; have HC : Hid (Own w6 base (.slice a6 n6 c6) (bs ++ (packNat x)) ∧ Below base W w6) := own_two HB.out ⟨h61, h62, a6, n6, c6, rfl⟩ hB6 (hr.out.symm); clear HB h61 hB6))
      go_ret; exact ⟨_, rfl, HC.out⟩
    · skip
      by_cases c2 : x ≤ 65535
      · have hr : Hid (packNat x = 205 :: beF x 2) := by show _ = _; unfold packNat; rw [if_neg c0]; rw [if_neg c1]; rw [if_pos c2]
        go_enter Tryz.func166, Tryz.ntmps166
        go_wp2_with (first
            | (at_builtin; refine wpList_append_own _ rfl _ _ 28 rfl base 5 i0 (.int .u8 0) 1 1 Tryz.underlying28 hi hz0 hz1 hz2 rfl (by decide) _ _ _ rfl (HO.out.alloc _) ⟨W.heap.size, 0, none⟩ 1 1 [.int .u8 205] rfl rfl (cell_made _ _ _) (fun u hu => by simp at hu; subst hu; rfl) (by unfold maxLen; omega) (by omega) (by simp; omega) ?_; intro v' w5 hown' hgrow5 hnil5; clear hnil5; obtain ⟨g5, cap5, rfl⟩ := ownsRow_succ hown'; have HB : Hid (Own w5 base _ (bs ++ [205]) ∧ Below base W w5) := own_one hb HO.out (rfl) hown' hgrow5; clear hown' hgrow5 HO)
            | (go_at_call 202; refine (appendArg_any _ base _ _ (x) 2 (by omega) (by omega) (by simp; omega) HB.out.1).mono ?_; rintro e w6 ⟨v6, rfl, h6, hB6⟩; obtain ⟨h61, h62, a6, n6, c6, rfl⟩ := h6; have HC : Hid (Own w6 base (.slice a6 n6 c6) (bs ++ (packNat x)) ∧ Below base W w6) := own_two HB.out ⟨h61, h62, a6, n6, c6, rfl⟩ hB6 (hr.out.symm); clear HB h61 hB6))
        go_ret; exact ⟨_, rfl, HC.out⟩
      · skip
        by_cases c3 : x ≤ 4294967295
        · have hr : Hid (packNat x = 206 :: beF x 4) := by show _ = _; unfold packNat; rw [if_neg c0]; rw [if_neg c1]; rw [if_neg c2]; rw [if_pos c3]
          go_enter Tryz.func166, Tryz.ntmps166
          go_wp2_with (first
              | (at_builtin; refine wpList_append_own _ rfl _ _ 28 rfl base 5 i0 (.int .u8 0) 1 1 Tryz.underlying28 hi hz0 hz1 hz2 rfl (by decide) _ _ _ rfl (HO.out.alloc _) ⟨W.heap.size, 0, none⟩ 1 1 [.int .u8 206] rfl rfl (cell_made _ _ _) (fun u hu => by simp at hu; subst hu; rfl) (by unfold maxLen; omega) (by omega) (by simp; omega) ?_; intro v' w5 hown' hgrow5 hnil5; clear hnil5; obtain ⟨g5, cap5, rfl⟩ := ownsRow_succ hown'; have HB : Hid (Own w5 base _ (bs ++ [206]) ∧ Below base W w5) := own_one hb HO.out (rfl) hown' hgrow5; clear hown' hgrow5 HO)
              | (go_at_call 202; refine (appendArg_any _ base _ _ (x) 4 (by omega) (by omega) (by simp; omega) HB.out.1).mono ?_; rintro e w6 ⟨v6, rfl, h6, hB6⟩; obtain ⟨h61, h62, a6, n6, c6, rfl⟩ := h6; have HC : Hid (Own w6 base (.slice a6 n6 c6) (bs ++ (packNat x)) ∧ Below base W w6) := own_two HB.out ⟨h61, h62, a6, n6, c6, rfl⟩ hB6 (hr.out.symm); clear HB h61 hB6))
          go_ret; exact ⟨_, rfl, HC.out⟩
        · skip
          have hr : Hid (packNat x = 207 :: beF x 8) := by show _ = _; unfold packNat; rw [if_neg c0]; rw [if_neg c1]; rw [if_neg c2]; rw [if_neg c3]
          go_enter Tryz.func166, Tryz.ntmps166
          go_wp2_with (first
              | (at_builtin; refine wpList_append_own _ rfl _ _ 28 rfl base 5 i0 (.int .u8 0) 1 1 Tryz.underlying28 hi hz0 hz1 hz2 rfl (by decide) _ _ _ rfl (HO.out.alloc _) ⟨W.heap.size, 0, none⟩ 1 1 [.int .u8 207] rfl rfl (cell_made _ _ _) (fun u hu => by simp at hu; subst hu; rfl) (by unfold maxLen; omega) (by omega) (by simp; omega) ?_; intro v' w5 hown' hgrow5 hnil5; clear hnil5; obtain ⟨g5, cap5, rfl⟩ := ownsRow_succ hown'; have HB : Hid (Own w5 base _ (bs ++ [207]) ∧ Below base W w5) := own_one hb HO.out (rfl) hown' hgrow5; clear hown' hgrow5 HO)
              | (go_at_call 202; refine (appendArg_any _ base _ _ (x) 8 (by omega) (by omega) (by simp; omega) HB.out.1).mono ?_; rintro e w6 ⟨v6, rfl, h6, hB6⟩; obtain ⟨h61, h62, a6, n6, c6, rfl⟩ := h6; have HC : Hid (Own w6 base (.slice a6 n6 c6) (bs ++ (packNat x)) ∧ Below base W w6) := own_two HB.out ⟨h61, h62, a6, n6, c6, rfl⟩ hB6 (hr.out.symm); clear HB h61 hB6))
          go_ret; exact ⟨_, rfl, HC.out⟩

end Go.Proofs.YtllcbnfmihfaaaaGreatDoor
