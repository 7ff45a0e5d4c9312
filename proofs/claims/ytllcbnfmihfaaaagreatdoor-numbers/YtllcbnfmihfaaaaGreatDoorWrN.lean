import Derived.Test.YtllcbnfmihfaaaaGreatDoorWrP
namespace Go.Proofs.YtllcbnfmihfaaaaGreatDoor
open Go.RowKit

theorem appendArg_wrap (W : World) (base : Nat) (v : Value) (bs : List UInt8) (z : Int) (w : Nat) (hw : w ≤ 8) (hl : bs.length ≤ 1000000000) (h : Own W base v bs) :
    Calls Tryz.prog 202 #[v, .int .u64 (IntKind.u64.wrap z), .int .i64 w] W fun e W' => ∃ v', e = .returned v' ∧ Own W' base v' (bs ++ beF (z % 18446744073709551616).toNat w) ∧ Below base W W' := by
  have e : IntKind.u64.wrap z = (((z % 18446744073709551616).toNat : Nat) : Int) := by unfold IntKind.wrap; simp [IntKind.bits, IntKind.signed]; omega
  rw [e]
  exact appendArg_any W base v bs _ w (by omega) hw hl h

set_option maxRecDepth 100000 in
set_option maxHeartbeats 2000000 in
theorem packNeg_any (W : World) (base : Nat) (v : Value) (bs : List UInt8) (z : Int) (hn1 : -9223372036854775808 ≤ z) (hn2 : z < 0) (hl : bs.length ≤ 999999999) (h : Own W base v bs) :
    Calls Tryz.prog 165 #[v, .int .i64 z] W fun e W' => ∃ v', e = .returned v' ∧ Own W' base v' (bs ++ packNeg z) ∧ Below base W W' := by
  obtain ⟨i0, hi, hz0, hz1, hz2⟩ := info_parts Tryz.infoU8
  obtain ⟨ho, hb, a, n, c, rfl⟩ := h
  have HO : Hid (W.ownsRow base 5 1 (.slice a n c) bs.length (bs.map byteV)) := ho
  clear ho
  by_cases c0 : -32 ≤ z
  · have hr : Hid (packNeg z = UInt8.ofNat (z % 256).toNat :: []) := by show _ = _; unfold packNeg; rw [if_pos c0]
    go_enter Tryz.func165, Tryz.ntmps165
    go_wp2_with (first
        | (at_builtin; refine wpList_append_own _ rfl _ _ 28 rfl base 5 i0 (.int .u8 0) 1 1 Tryz.underlying28 hi hz0 hz1 hz2 rfl (by decide) _ _ _ rfl (HO.out.alloc _) ⟨W.heap.size, 0, none⟩ 1 1 [.int .u8 (z % 256)] rfl rfl (cell_made _ _ _) (fun u hu => by simp at hu; subst hu; rfl) (by unfold maxLen; omega) (by omega) (by simp; omega) ?_; intro v' w5 hown' hgrow5 hnil5; clear hnil5; obtain ⟨g5, cap5, rfl⟩ := ownsRow_succ hown'; have HB : Hid (Own w5 base _ (bs ++ [UInt8.ofNat (z % 256).toNat]) ∧ Below base W w5) := own_one hb HO.out ((byteV_nat _ (by omega)).trans (by congr 1; omega)) hown' hgrow5; clear hown' hgrow5 HO))
    go_ret; rw [hr.out]; exact ⟨_, rfl, HB.out⟩
  · skip
    by_cases c1 : -128 ≤ z
    · have hr : Hid (packNeg z = 208 :: beF (z % 18446744073709551616).toNat 1) := by show _ = _; unfold packNeg; rw [if_neg c0]; rw [if_pos c1]
      go_enter Tryz.func165, Tryz.ntmps165
      go_wp2_with (first
          | (at_builtin; refine wpList_append_own _ rfl _ _ 28 rfl base 5 i0 (.int .u8 0) 1 1 Tryz.underlying28 hi hz0 hz1 hz2 rfl (by decide) _ _ _ rfl (HO.out.alloc _) ⟨W.heap.size, 0, none⟩ 1 1 [.int .u8 208] rfl rfl (cell_made _ _ _) (fun u hu => by simp at hu; subst hu; rfl) (by unfold maxLen; omega) (by omega) (by simp; omega) ?_; intro v' w5 hown' hgrow5 hnil5; clear hnil5; obtain ⟨g5, cap5, rfl⟩ := ownsRow_succ hown'; have HB : Hid (Own w5 base _ (bs ++ [208]) ∧ Below base W w5) := own_one hb HO.out (rfl) hown' hgrow5; clear hown' hgrow5 HO)
          | (go_at_call 202; refine (appendArg_wrap _ base _ _ z 1 (by omega) (by simp; omega) HB.out.1).mono ?_; rintro e w6 ⟨v6, rfl, h6, hB6⟩; obtain ⟨h61, h62, a6, n6, c6, rfl⟩ := h6; have HC : Hid (Own w6 base (.slice a6 n6 c6) (bs ++ (packNeg z)) ∧ Below base W w6) := own_two HB.out ⟨h61, h62, a6, n6, c6, rfl⟩ hB6 (hr.out.symm); clear HB h61 hB6))
      go_ret; exact ⟨_, rfl, HC.out⟩
    · skip
      by_cases c2 : -32768 ≤ z
      · have hr : Hid (packNeg z = 209 :: beF (z % 18446744073709551616).toNat 2) := by show _ = _; unfold packNeg; rw [if_neg c0]; rw [if_neg c1]; rw [if_pos c2]
        go_enter Tryz.func165, Tryz.ntmps165
        go_wp2_with (first
            | (at_builtin; refine wpList_append_own _ rfl _ _ 28 rfl base 5 i0 (.int .u8 0) 1 1 Tryz.underlying28 hi hz0 hz1 hz2 rfl (by decide) _ _ _ rfl (HO.out.alloc _) ⟨W.heap.size, 0, none⟩ 1 1 [.int .u8 209] rfl rfl (cell_made _ _ _) (fun u hu => by simp at hu; subst hu; rfl) (by unfold maxLen; omega) (by omega) (by simp; omega) ?_; intro v' w5 hown' hgrow5 hnil5; clear hnil5; obtain ⟨g5, cap5, rfl⟩ := ownsRow_succ hown'; have HB : Hid (Own w5 base _ (bs ++ [209]) ∧ Below base W w5) := own_one hb HO.out (rfl) hown' hgrow5; clear hown' hgrow5 HO)
            | (go_at_call 202; refine (appendArg_wrap _ base _ _ z 2 (by omega) (by simp; omega) HB.out.1).mono ?_; rintro e w6 ⟨v6, rfl, h6, hB6⟩; obtain ⟨h61, h62, a6, n6, c6, rfl⟩ := h6; have HC : Hid (Own w6 base (.slice a6 n6 c6) (bs ++ (packNeg z)) ∧ Below base W w6) := own_two HB.out ⟨h61, h62, a6, n6, c6, rfl⟩ hB6 (hr.out.symm); clear HB h61 hB6))
        go_ret; exact ⟨_, rfl, HC.out⟩
      · skip
        by_cases c3 : -2147483648 ≤ z
        · have hr : Hid (packNeg z = 210 :: beF (z % 18446744073709551616).toNat 4) := by show _ = _; unfold packNeg; rw [if_neg c0]; rw [if_neg c1]; rw [if_neg c2]; rw [if_pos c3]
          go_enter Tryz.func165, Tryz.ntmps165
          go_wp2_with (first
              | (at_builtin; refine wpList_append_own _ rfl _ _ 28 rfl base 5 i0 (.int .u8 0) 1 1 Tryz.underlying28 hi hz0 hz1 hz2 rfl (by decide) _ _ _ rfl (HO.out.alloc _) ⟨W.heap.size, 0, none⟩ 1 1 [.int .u8 210] rfl rfl (cell_made _ _ _) (fun u hu => by simp at hu; subst hu; rfl) (by unfold maxLen; omega) (by omega) (by simp; omega) ?_; intro v' w5 hown' hgrow5 hnil5; clear hnil5; obtain ⟨g5, cap5, rfl⟩ := ownsRow_succ hown'; have HB : Hid (Own w5 base _ (bs ++ [210]) ∧ Below base W w5) := own_one hb HO.out (rfl) hown' hgrow5; clear hown' hgrow5 HO)
              | (go_at_call 202; refine (appendArg_wrap _ base _ _ z 4 (by omega) (by simp; omega) HB.out.1).mono ?_; rintro e w6 ⟨v6, rfl, h6, hB6⟩; obtain ⟨h61, h62, a6, n6, c6, rfl⟩ := h6; have HC : Hid (Own w6 base (.slice a6 n6 c6) (bs ++ (packNeg z)) ∧ Below base W w6) := own_two HB.out ⟨h61, h62, a6, n6, c6, rfl⟩ hB6 (hr.out.symm); clear HB h61 hB6))
          go_ret; exact ⟨_, rfl, HC.out⟩
        · skip
          have hr : Hid (packNeg z = 211 :: beF (z % 18446744073709551616).toNat 8) := by show _ = _; unfold packNeg; rw [if_neg c0]; rw [if_neg c1]; rw [if_neg c2]; rw [if_neg c3]
          go_enter Tryz.func165, Tryz.ntmps165
          go_wp2_with (first
              | (at_builtin; refine wpList_append_own _ rfl _ _ 28 rfl base 5 i0 (.int .u8 0) 1 1 Tryz.underlying28 hi hz0 hz1 hz2 rfl (by decide) _ _ _ rfl (HO.out.alloc _) ⟨W.heap.size, 0, none⟩ 1 1 [.int .u8 211] rfl rfl (cell_made _ _ _) (fun u hu => by simp at hu; subst hu; rfl) (by unfold maxLen; omega) (by omega) (by simp; omega) ?_; intro v' w5 hown' hgrow5 hnil5; clear hnil5; obtain ⟨g5, cap5, rfl⟩ := ownsRow_succ hown'; have HB : Hid (Own w5 base _ (bs ++ [211]) ∧ Below base W w5) := own_one hb HO.out (rfl) hown' hgrow5; clear hown' hgrow5 HO)
              | (go_at_call 202; refine (appendArg_wrap _ base _ _ z 8 (by omega) (by simp; omega) HB.out.1).mono ?_; rintro e w6 ⟨v6, rfl, h6, hB6⟩; obtain ⟨h61, h62, a6, n6, c6, rfl⟩ := h6; have HC : Hid (Own w6 base (.slice a6 n6 c6) (bs ++ (packNeg z)) ∧ Below base W w6) := own_two HB.out ⟨h61, h62, a6, n6, c6, rfl⟩ hB6 (hr.out.symm); clear HB h61 hB6))
          go_ret; exact ⟨_, rfl, HC.out⟩

end Go.Proofs.YtllcbnfmihfaaaaGreatDoor
