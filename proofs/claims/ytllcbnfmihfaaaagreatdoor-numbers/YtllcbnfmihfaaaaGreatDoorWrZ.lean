import Derived.Test.YtllcbnfmihfaaaaGreatDoorWrN
import Derived.Test.YtllcbnfmihfaaaaGreatDoorWrC
import Derived.Test.YtllcbnfmihfaaaaGreatDoorDoc
namespace Go.Proofs.YtllcbnfmihfaaaaGreatDoor
open Go.RowKit

theorem num_truth (z : Int) : ∀ w : World, (Instr.typeAssert (.iface 279 (.int .i64 z)) 81 277 true).run Tryz.prog w = .ok (.tuple #[.bool false, .bool false]) w := fun w => by kernel_rfl
theorem num_num (z : Int) : ∀ w : World, (Instr.typeAssert (.iface 279 (.int .i64 z)) 81 279 true).run Tryz.prog w = .ok (.tuple #[.int .i64 z, .bool true]) w := fun w => by kernel_rfl
/-- A number in MessagePack, and in CBOR. -/
def packZ (z : Int) : List UInt8 := if z < 0 then packNeg z else packNat z.toNat
def cborZ (z : Int) : List UInt8 := if z < 0 then cborHd 1 (-1 - z).toNat else cborHd 0 z.toNat

set_option maxRecDepth 100000 in
set_option maxHeartbeats 2000000 in
theorem packZ_any (W : World) (base : Nat) (v : Value) (bs : List UInt8) (z : Int) (hn1 : -9223372036854775808 ≤ z) (hn2 : z ≤ 9223372036854775807) (hl : bs.length ≤ 999999999) (h : Own W base v bs) :
    Calls Tryz.prog 111 #[v, thNum z] W fun e W' => ∃ v', e = .returned v' ∧ Own W' base v' (bs ++ packZ z) ∧ Below base W W' := by
  unfold thNum
  obtain ⟨ho, hb, a, n, c, rfl⟩ := h
  have HO : Hid (Own W base (.slice a n c) bs) := ⟨ho, hb, a, n, c, rfl⟩
  clear ho
  have hk : Hid (packZ z = if z < 0 then packNeg z else packNat z.toNat) := rfl
  by_cases c0 : z < 0
  · have hr : Hid (packZ z = packNeg z) := by show _ = _; rw [hk.out, if_pos c0]
    clear hk
    have c1 : decide (z < 0) = true := by simp; exact c0
    have ta1 := num_truth z
    have ta2 := num_num z
    go_enter Tryz.func111, Tryz.ntmps111
    go_wp2_with (first
      | (go_at_call 165; refine (packNeg_any _ base _ bs z hn1 c0 hl HO.out).mono ?_; clear HO; rintro e w6 ⟨v6, rfl, h6, hB6⟩; obtain ⟨h61, h62, a6, n6, c6, rfl⟩ := h6))
    go_ret; rw [hr.out]; exact ⟨_, rfl, ⟨h61, h62, _, _, _, rfl⟩, hB6⟩
  · have hr : Hid (packZ z = packNat z.toNat) := by show _ = _; rw [hk.out, if_neg c0]
    clear hk
    obtain ⟨x, rfl⟩ : ∃ x : Nat, z = x := ⟨z.toNat, by omega⟩
    have c1 : decide ((x : Int) < 0) = false := by simp
    have ta1 := num_truth (x : Int)
    have ta2 := num_num (x : Int)
    go_enter Tryz.func111, Tryz.ntmps111
    go_wp2_with (first
      | (go_at_call 166; refine (packNat_any _ base _ bs x (by omega) hl HO.out).mono ?_; clear HO; rintro e w6 ⟨v6, rfl, h6, hB6⟩; obtain ⟨h61, h62, a6, n6, c6, rfl⟩ := h6))
    go_ret; rw [hr.out]; exact ⟨_, rfl, ⟨h61, h62, _, _, _, rfl⟩, hB6⟩

set_option maxRecDepth 100000 in
set_option maxHeartbeats 2000000 in
theorem cborZ_any (W : World) (base : Nat) (v : Value) (bs : List UInt8) (z : Int) (hn1 : -9223372036854775808 ≤ z) (hn2 : z ≤ 9223372036854775807) (hl : bs.length ≤ 999999999) (h : Own W base v bs) :
    Calls Tryz.prog 110 #[v, thNum z] W fun e W' => ∃ v', e = .returned v' ∧ Own W' base v' (bs ++ cborZ z) ∧ Below base W W' := by
  unfold thNum
  obtain ⟨ho, hb, a, n, c, rfl⟩ := h
  have HO : Hid (Own W base (.slice a n c) bs) := ⟨ho, hb, a, n, c, rfl⟩
  clear ho
  have hk : Hid (cborZ z = if z < 0 then cborHd 1 (-1 - z).toNat else cborHd 0 z.toNat) := rfl
  by_cases c0 : z < 0
  · have hr : Hid (cborZ z = cborHd 1 (-1 - z).toNat) := by show _ = _; rw [hk.out, if_pos c0]
    clear hk
    obtain ⟨x, rfl⟩ : ∃ x : Nat, z = -1 - (x : Int) := ⟨(-1 - z).toNat, by omega⟩
    have cA := fun V h => cborHd_any V base (.slice a n c) bs 1 x (by omega) (by omega) hl h
    have cB : ∀ V, Own V base (.slice a n c) bs → Calls Tryz.prog 163 #[.slice a n c, .int .u8 1, .int .u64 (-1 - (-1 - (x : Int)))] V fun e W' => ∃ v', e = .returned v' ∧ Own W' base v' (bs ++ cborHd 1 x) ∧ Below base V W' := by
      rw [show (-1 - (-1 - (x : Int))) = x by omega]; exact cA
    rw [show (-1 - (-1 - (x : Int))).toNat = x by omega] at hr
    clear cA
    have ta1 := num_truth (-1 - (x : Int))
    have ta2 := num_num (-1 - (x : Int))
    go_enter Tryz.func110, Tryz.ntmps110
    go_wp2_with (first
      | (go_at_call 163; refine (cB _ HO.out).mono ?_; clear HO; rintro e w6 ⟨v6, rfl, h6, hB6⟩; obtain ⟨h61, h62, a6, n6, c6, rfl⟩ := h6))
    go_ret; rw [hr.out]; exact ⟨_, rfl, ⟨h61, h62, _, _, _, rfl⟩, hB6⟩
  · have hr : Hid (cborZ z = cborHd 0 z.toNat) := by show _ = _; rw [hk.out, if_neg c0]
    clear hk
    obtain ⟨x, rfl⟩ : ∃ x : Nat, z = x := ⟨z.toNat, by omega⟩
    have c1 : decide ((x : Int) < 0) = false := by simp
    have ta1 := num_truth (x : Int)
    have ta2 := num_num (x : Int)
    go_enter Tryz.func110, Tryz.ntmps110
    go_wp2_with (first
      | (go_at_call 163; refine (cborHd_any _ base _ bs 0 x (by omega) (by omega) hl HO.out).mono ?_; clear HO; rintro e w6 ⟨v6, rfl, h6, hB6⟩; obtain ⟨h61, h62, a6, n6, c6, rfl⟩ := h6))
    go_ret; rw [hr.out]; exact ⟨_, rfl, ⟨h61, h62, _, _, _, rfl⟩, hB6⟩
end Go.Proofs.YtllcbnfmihfaaaaGreatDoor
