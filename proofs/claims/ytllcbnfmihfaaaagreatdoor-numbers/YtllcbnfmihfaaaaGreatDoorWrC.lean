import Derived.Test.YtllcbnfmihfaaaaGreatDoorWrP
namespace Go.Proofs.YtllcbnfmihfaaaaGreatDoor
open Go.RowKit

theorem bits_or : ∀ (s : Fin 8) (x : Fin 32), bits .or .u8 ((s.val : Int) * 32) (x.val : Int) = ((32 * s.val + x.val : Nat) : Int) := by decide
theorem byteV_or (s x : Nat) (hs : s < 8) (hx : x < 32) : byteV (UInt8.ofNat (32 * s + x)) = .int .u8 (bits .or .u8 ((s : Int) * 32) (x : Int)) := by
  rw [byteV_nat _ (by omega)]
  have := bits_or ⟨s, hs⟩ ⟨x, hx⟩
  simp only [] at this
  rw [this]

set_option maxRecDepth 100000 in
set_option maxHeartbeats 2000000 in
theorem cborHd_any (W : World) (base : Nat) (v : Value) (bs : List UInt8) (s x : Nat) (hs : s < 8) (hx : x < 18446744073709551616) (hl : bs.length ≤ 999999999) (h : Own W base v bs) :
    Calls Tryz.prog 163 #[v, .int .u8 s, .int .u64 x] W fun e W' => ∃ v', e = .returned v' ∧ Own W' base v' (bs ++ cborHd s x) ∧ Below base W W' := by
  obtain ⟨i0, hi, hz0, hz1, hz2⟩ := info_parts Tryz.infoU8
  obtain ⟨ho, hb, a, n, c, rfl⟩ := h
  have HO : Hid (W.ownsRow base 5 1 (.slice a n c) bs.length (bs.map byteV)) := ho
  clear ho
  by_cases c0 : x < 24
  · have hr : Hid (cborHd s x = UInt8.ofNat (32 * s + x) :: []) := by show _ = _; unfold cborHd; rw [if_pos c0]
    go_enter Tryz.func163, Tryz.ntmps163
    go_wp2_with (first
        | (at_builtin; refine wpList_append_own _ rfl _ _ 28 rfl base 5 i0 (.int .u8 0) 1 1 Tryz.underlying28 hi hz0 hz1 hz2 rfl (by decide) _ _ _ rfl (HO.out.alloc _) ⟨W.heap.size, 0, none⟩ 1 1 [.int .u8 (bits .or .u8 ((s : Int) * 32) (x : Int))] rfl rfl (cell_made _ _ _) (fun u hu => by simp at hu; subst hu; rfl) (by unfold maxLen; omega) (by omega) (by simp; omega) ?_; intro v' w5 hown' hgrow5 hnil5; clear hnil5; obtain ⟨g5, cap5, rfl⟩ := ownsRow_succ hown'; have HB : Hid (Own w5 base _ (bs ++ [UInt8.ofNat (32 * s + x)]) ∧ Below base W w5) := own_one hb HO.out (byteV_or s _ hs (by omega)) hown' hgrow5; clear hown' hgrow5 HO))
    go_ret; rw [hr.out]; exact ⟨_, rfl, HB.out⟩
  · skip
    by_cases c1 : x ≤ 255
    · have hr : Hid (cborHd s x = UInt8.ofNat (32 * s + 24) :: beF x 1) := by show _ = _; unfold cborHd; rw [if_neg c0]; rw [if_pos c1]
      go_enter Tryz.func163, Tryz.ntmps163
      go_wp2_with (first
          | (at_builtin; refine wpList_append_own _ rfl _ _ 28 rfl base 5 i0 (.int .u8 0) 1 1 Tryz.underlying28 hi hz0 hz1 hz2 rfl (by decide) _ _ _ rfl (HO.out.alloc _) ⟨W.heap.size, 0, none⟩ 1 1 [.int .u8 (bits .or .u8 ((s : Int) * 32) 24)] rfl rfl (cell_made _ _ _) (fun u hu => by simp at hu; subst hu; rfl) (by unfold maxLen; omega) (by omega) (by simp; omega) ?_; intro v' w5 hown' hgrow5 hnil5; clear hnil5; obtain ⟨g5, cap5, rfl⟩ := ownsRow_succ hown'; have HB : Hid (Own w5 base _ (bs ++ [UInt8.ofNat (32 * s + 24)]) ∧ Below base W w5) := own_one hb HO.out (byteV_or s _ hs (by omega)) hown' hgrow5; clear hown' hgrow5 HO)
          | (go_at_call 202; refine (appendArg_any _ base _ _ (x) 1 (by omega) (by omega) (by simp; omega) HB.out.1).mono ?_; rintro e w6 ⟨v6, rfl, h6, hB6⟩; obtain ⟨h61, h62, a6, n6, c6, rfl⟩ := h6; have HC : Hid (Own w6 base (.slice a6 n6 c6) (bs ++ (cborHd s x)) ∧ Below base W w6) := own_two HB.out ⟨h61, h62, a6, n6, c6, rfl⟩ hB6 (hr.out.symm); clear HB h61 hB6))
      go_ret; exact ⟨_, rfl, HC.out⟩
    · skip
      by_cases c2 : x ≤ 65535
      · have hr : Hid (cborHd s x = UInt8.ofNat (32 * s + 25) :: beF x 2) := by show _ = _; unfold cborHd; rw [if_neg c0]; rw [if_neg c1]; rw [if_pos c2]
        go_enter Tryz.func163, Tryz.ntmps163
        go_wp2_with (first
            | (at_builtin; refine wpList_append_own _ rfl _ _ 28 rfl base 5 i0 (.int .u8 0) 1 1 Tryz.underlying28 hi hz0 hz1 hz2 rfl (by decide) _ _ _ rfl (HO.out.alloc _) ⟨W.heap.size, 0, none⟩ 1 1 [.int .u8 (bits .or .u8 ((s : Int) * 32) 25)] rfl rfl (cell_made _ _ _) (fun u hu => by simp at hu; subst hu; rfl) (by unfold maxLen; omega) (by omega) (by simp; omega) ?_; intro v' w5 hown' hgrow5 hnil5; clear hnil5; obtain ⟨g5, cap5, rfl⟩ := ownsRow_succ hown'; have HB : Hid (Own w5 base _ (bs ++ [UInt8.ofNat (32 * s + 25)]) ∧ Below base W w5) := own_one hb HO.out (byteV_or s _ hs (by omega)) hown' hgrow5; clear hown' hgrow5 HO)
            | (go_at_call 202; refine (appendArg_any _ base _ _ (x) 2 (by omega) (by omega) (by simp; omega) HB.out.1).mono ?_; rintro e w6 ⟨v6, rfl, h6, hB6⟩; obtain ⟨h61, h62, a6, n6, c6, rfl⟩ := h6; have HC : Hid (Own w6 base (.slice a6 n6 c6) (bs ++ (cborHd s x)) ∧ Below base W w6) := own_two HB.out ⟨h61, h62, a6, n6, c6, rfl⟩ hB6 (hr.out.symm); clear HB h61 hB6))
        go_ret; exact ⟨_, rfl, HC.out⟩
      · skip
        by_cases c3 : x ≤ 4294967295
        · have hr : Hid (cborHd s x = UInt8.ofNat (32 * s + 26) :: beF x 4) := by show _ = _; unfold cborHd; rw [if_neg c0]; rw [if_neg c1]; rw [if_neg c2]; rw [if_pos c3]
          go_enter Tryz.func163, Tryz.ntmps163
          go_wp2_with (first
              | (at_builtin; refine wpList_append_own _ rfl _ _ 28 rfl base 5 i0 (.int .u8 0) 1 1 Tryz.underlying28 hi hz0 hz1 hz2 rfl (by decide) _ _ _ rfl (HO.out.alloc _) ⟨W.heap.size, 0, none⟩ 1 1 [.int .u8 (bits .or .u8 ((s : Int) * 32) 26)] rfl rfl (cell_made _ _ _) (fun u hu => by simp at hu; subst hu; rfl) (by unfold maxLen; omega) (by omega) (by simp; omega) ?_; intro v' w5 hown' hgrow5 hnil5; clear hnil5; obtain ⟨g5, cap5, rfl⟩ := ownsRow_succ hown'; have HB : Hid (Own w5 base _ (bs ++ [UInt8.ofNat (32 * s + 26)]) ∧ Below base W w5) := own_one hb HO.out (byteV_or s _ hs (by omega)) hown' hgrow5; clear hown' hgrow5 HO)
              | (go_at_call 202; refine (appendArg_any _ base _ _ (x) 4 (by omega) (by omega) (by simp; omega) HB.out.1).mono ?_; rintro e w6 ⟨v6, rfl, h6, hB6⟩; obtain ⟨h61, h62, a6, n6, c6, rfl⟩ := h6; have HC : Hid (Own w6 base (.slice a6 n6 c6) (bs ++ (cborHd s x)) ∧ Below base W w6) := own_two HB.out ⟨h61, h62, a6, n6, c6, rfl⟩ hB6 (hr.out.symm); clear HB h61 hB6))
          go_ret; exact ⟨_, rfl, HC.out⟩
        · skip
          have hr : Hid (cborHd s x = UInt8.ofNat (32 * s + 27) :: beF x 8) := by show _ = _; unfold cborHd; rw [if_neg c0]; rw [if_neg c1]; rw [if_neg c2]; rw [if_neg c3]
          go_enter Tryz.func163, Tryz.ntmps163
          go_wp2_with (first
              | (at_builtin; refine wpList_append_own _ rfl _ _ 28 rfl base 5 i0 (.int .u8 0) 1 1 Tryz.underlying28 hi hz0 hz1 hz2 rfl (by decide) _ _ _ rfl (HO.out.alloc _) ⟨W.heap.size, 0, none⟩ 1 1 [.int .u8 (bits .or .u8 ((s : Int) * 32) 27)] rfl rfl (cell_made _ _ _) (fun u hu => by simp at hu; subst hu; rfl) (by unfold maxLen; omega) (by omega) (by simp; omega) ?_; intro v' w5 hown' hgrow5 hnil5; clear hnil5; obtain ⟨g5, cap5, rfl⟩ := ownsRow_succ hown'; have HB : Hid (Own w5 base _ (bs ++ [UInt8.ofNat (32 * s + 27)]) ∧ Below base W w5) := own_one hb HO.out (byteV_or s _ hs (by omega)) hown' hgrow5; clear hown' hgrow5 HO)
              | (go_at_call 202; refine (appendArg_any _ base _ _ (x) 8 (by omega) (by omega) (by simp; omega) HB.out.1).mono ?_; rintro e w6 ⟨v6, rfl, h6, hB6⟩; obtain ⟨h61, h62, a6, n6, c6, rfl⟩ := h6; have HC : Hid (Own w6 base (.slice a6 n6 c6) (bs ++ (cborHd s x)) ∧ Below base W w6) := own_two HB.out ⟨h61, h62, a6, n6, c6, rfl⟩ hB6 (hr.out.symm); clear HB h61 hB6))
          go_ret; exact ⟨_, rfl, HC.out⟩

end Go.Proofs.YtllcbnfmihfaaaaGreatDoor
