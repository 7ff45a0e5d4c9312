import Derived.Test.YtllcbnfmihfaaaaGreatDoorWrP
namespace Go.Proofs.YtllcbnfmihfaaaaGreatDoor
open Go.RowKit

theorem own_made (W : World) (bs : List UInt8) (cs : List Value) (n : Nat) (hn : n = bs.length) (hm : n ≤ 9) (hc : bs.map byteV = cs) :
    Own (W.alloc (.cells cs.toArray 5)) W.heap.size (.slice (some ⟨W.heap.size, 0, none⟩) n n) bs ∧ Below W.heap.size W (W.alloc (.cells cs.toArray 5)) := by
  subst hn
  subst hc
  refine ⟨⟨⟨by simp, .inr ⟨W.heap.size, bs.length, (bs.map byteV).toArray, rfl, Nat.le_refl _, heap_new _ _, Nat.le_refl _, by unfold maxLen; omega, by simp, by simp [List.take_of_length_le]⟩⟩, by simp, _, _, _, rfl⟩, (Below.refl _ _).alloc (Nat.le_refl _) _⟩
theorem byteV_mod (n : Nat) : byteV (UInt8.ofNat n) = .int .u8 ((n % 256 : Nat) : Int) := by
  unfold byteV
  rw [UInt8.toNat_ofNat']

set_option maxRecDepth 100000 in
set_option maxHeartbeats 2000000 in
theorem head_any (W : World) (s x : Nat) (hs : s < 8) (hx : x < 9223372036854775808) :
    Calls Tryz.prog 17 #[.int .i64 s, .int .i64 x] W fun e W' => ∃ v', e = .returned v' ∧ Own W' W.heap.size v' (cborHd s x) ∧ Below W.heap.size W W' := by
  by_cases c0 : x < 24
  · have hr : Hid (cborHd s x = [UInt8.ofNat (32 * s + x)]) := by show _ = _; unfold cborHd; rw [if_pos c0]
    have b0 : decide ((x : Int) < 24) = true := by simp; omega
    have HM : Hid ((x : Int) < 24) := by show _ < _; omega
    clear c0 hx
    go_enter Tryz.func17, Tryz.ntmps17
    go_wp2
    go_ret
    rw [hr.out]
    refine ⟨_, rfl, own_made W _ _ _ rfl (by decide) ?_⟩
    have hm := HM.out
    simp only [List.map_cons, List.map_nil, byteV_mod, List.cons.injEq, Value.int.injEq, true_and, and_true]
    omega
  · skip
    by_cases c1 : x ≤ 255
    · have hr : Hid (cborHd s x = UInt8.ofNat (32 * s + 24) :: beF x 1) := by show _ = _; unfold cborHd; rw [if_neg c0]; rw [if_pos c1]
      have b0 : decide ((x : Int) < 24) = false := by simp; omega
      have b1 : decide ((x : Int) < 256) = true := by simp; omega
      have HM : Hid ((x : Int) < 256) := by show _ < _; omega
      clear c0 c1 hx
      go_enter Tryz.func17, Tryz.ntmps17
      go_wp2
      go_ret
      rw [hr.out]
      refine ⟨_, rfl, own_made W _ _ _ rfl (by decide) ?_⟩
      have hm := HM.out
      simp only [beF, List.map_cons, List.map_nil, byteV_mod, List.cons.injEq, Value.int.injEq, true_and, and_true, Nat.reduceMul, Nat.reducePow]
      omega
    · skip
      by_cases c2 : x ≤ 65535
      · have hr : Hid (cborHd s x = UInt8.ofNat (32 * s + 25) :: beF x 2) := by show _ = _; unfold cborHd; rw [if_neg c0]; rw [if_neg c1]; rw [if_pos c2]
        have b0 : decide ((x : Int) < 24) = false := by simp; omega
        have b1 : decide ((x : Int) < 256) = false := by simp; omega
        have b2 : decide ((x : Int) < 65536) = true := by simp; omega
        have HM : Hid ((x : Int) < 65536) := by show _ < _; omega
        clear c0 c1 c2 hx
        go_enter Tryz.func17, Tryz.ntmps17
        go_wp2
        go_ret
        rw [hr.out]
        refine ⟨_, rfl, own_made W _ _ _ rfl (by decide) ?_⟩
        have hm := HM.out
        simp only [beF, List.map_cons, List.map_nil, byteV_mod, List.cons.injEq, Value.int.injEq, true_and, and_true, Nat.reduceMul, Nat.reducePow]
        omega
      · skip
        by_cases c3 : x ≤ 4294967295
        · have hr : Hid (cborHd s x = UInt8.ofNat (32 * s + 26) :: beF x 4) := by show _ = _; unfold cborHd; rw [if_neg c0]; rw [if_neg c1]; rw [if_neg c2]; rw [if_pos c3]
          have b0 : decide ((x : Int) < 24) = false := by simp; omega
          have b1 : decide ((x : Int) < 256) = false := by simp; omega
          have b2 : decide ((x : Int) < 65536) = false := by simp; omega
          have b3 : decide ((x : Int) < 4294967296) = true := by simp; omega
          have HM : Hid ((x : Int) < 4294967296) := by show _ < _; omega
          clear c0 c1 c2 c3 hx
          go_enter Tryz.func17, Tryz.ntmps17
          go_wp2
          go_ret
          rw [hr.out]
          refine ⟨_, rfl, own_made W _ _ _ rfl (by decide) ?_⟩
          have hm := HM.out
          simp only [beF, List.map_cons, List.map_nil, byteV_mod, List.cons.injEq, Value.int.injEq, true_and, and_true, Nat.reduceMul, Nat.reducePow]
          omega
        · skip
          have hr : Hid (cborHd s x = UInt8.ofNat (32 * s + 27) :: beF x 8) := by show _ = _; unfold cborHd; rw [if_neg c0]; rw [if_neg c1]; rw [if_neg c2]; rw [if_neg c3]
          have b0 : decide ((x : Int) < 24) = false := by simp; omega
          have b1 : decide ((x : Int) < 256) = false := by simp; omega
          have b2 : decide ((x : Int) < 65536) = false := by simp; omega
          have b3 : decide ((x : Int) < 4294967296) = false := by simp; omega
          have HM : Hid ((x : Int) < 9223372036854775808) := by show _ < _; omega
          clear c0 c1 c2 c3 hx
          go_enter Tryz.func17, Tryz.ntmps17
          go_wp2
          go_ret
          rw [hr.out]
          refine ⟨_, rfl, own_made W _ _ _ rfl (by decide) ?_⟩
          have hm := HM.out
          simp only [beF, List.map_cons, List.map_nil, byteV_mod, List.cons.injEq, Value.int.injEq, true_and, and_true, Nat.reduceMul, Nat.reducePow]
          omega

set_option maxRecDepth 100000 in
set_option maxHeartbeats 2000000 in
theorem head_neg (W : World) (z : Int) (hn1 : -9223372036854775808 ≤ z) (hz : z < 0) :
    Calls Tryz.prog 17 #[.int .i64 0, .int .i64 z] W fun e W' => ∃ v', e = .returned v' ∧ Below W.heap.size W W' := by
  have b0 : decide (z < 24) = true := by simp; omega
  clear hn1 hz
  go_enter Tryz.func17, Tryz.ntmps17
  go_wp2
  go_ret
  exact ⟨_, rfl, (Below.refl _ _).alloc (Nat.le_refl _) _⟩
end Go.Proofs.YtllcbnfmihfaaaaGreatDoor
