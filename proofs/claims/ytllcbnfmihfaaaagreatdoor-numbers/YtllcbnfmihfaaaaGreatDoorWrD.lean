import Derived.Test.YtllcbnfmihfaaaaGreatDoorWrZ
namespace Go.Proofs.YtllcbnfmihfaaaaGreatDoor
open Go.RowKit

theorem own_nil (W : World) : Own W W.heap.size (.slice none 0 0) [] := by
  refine ⟨?_, Nat.le_refl _, none, 0, 0, rfl⟩
  exact World.ownsRow_nil ..

set_option maxRecDepth 100000 in
set_option maxHeartbeats 2000000 in
theorem writeCBOR_num (W : World) (z : Int) (hn1 : -9223372036854775808 ≤ z) (hn2 : z ≤ 9223372036854775807) :
    Calls Tryz.prog 67 #[.int .i64 2, thNum z] W fun e W' => ∃ v', e = .returned v' ∧ Own W' W.heap.size v' (cborZ z) ∧ Below W.heap.size W W' := by
  have cA := cborZ_any W W.heap.size _ [] z hn1 hn2 (by decide) (own_nil W)
  unfold thNum at *
  go_enter Tryz.func67, Tryz.ntmps67
  go_wp2_with (first
    | (go_at_call 110; refine cA.mono ?_; clear cA; rintro e w6 ⟨v6, rfl, h6, hB6⟩; obtain ⟨h61, h62, a6, n6, c6, rfl⟩ := h6))
  go_ret; exact ⟨_, rfl, ⟨h61, h62, _, _, _, rfl⟩, hB6⟩

set_option maxRecDepth 100000 in
set_option maxHeartbeats 2000000 in
theorem writePack_num (W : World) (z : Int) (hn1 : -9223372036854775808 ≤ z) (hn2 : z ≤ 9223372036854775807) :
    Calls Tryz.prog 67 #[.int .i64 3, thNum z] W fun e W' => ∃ v', e = .returned v' ∧ Own W' W.heap.size v' (packZ z) ∧ Below W.heap.size W W' := by
  have cA := packZ_any W W.heap.size _ [] z hn1 hn2 (by decide) (own_nil W)
  unfold thNum at *
  go_enter Tryz.func67, Tryz.ntmps67
  go_wp2_with (first
    | (go_at_call 111; refine cA.mono ?_; clear cA; rintro e w6 ⟨v6, rfl, h6, hB6⟩; obtain ⟨h61, h62, a6, n6, c6, rfl⟩ := h6))
  go_ret; exact ⟨_, rfl, ⟨h61, h62, _, _, _, rfl⟩, hB6⟩
end Go.Proofs.YtllcbnfmihfaaaaGreatDoor
