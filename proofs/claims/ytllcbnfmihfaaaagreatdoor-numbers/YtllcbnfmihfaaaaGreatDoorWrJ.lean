import Derived.Test.YtllcbnfmihfaaaaGreatDoorWrD
import Derived.Test.YtllcbnfmihfaaaaGreatDoorShelf
import Derived.Lib.AppendIntMem
import Derived.Lib.ItoaLen
namespace Go.Proofs.YtllcbnfmihfaaaaGreatDoor
open Go.RowKit

/-- The name of the table that strconv reads. -/
def tabName : String := "internal" ++ (String.singleton (Char.ofNat 47) ++ "strconv.uint64pow10")
/-- The table lies as it is laid, whatever is done from a block on. -/
def TabAt (B : Nat) (w : World) : Prop := Lib.TabBelow Tryz.prog B w tabName .u64 Lib.pow10Tab

theorem byteCells_map (bs : List UInt8) : Lib.byteCells bs = bs.map byteV := by
  unfold Lib.byteCells byteV
  rfl

theorem appendInt_any (W : World) (base : Nat) (v : Value) (bs : List UInt8) (z : Int) (hn1 : -9223372036854775808 ≤ z) (hn2 : z ≤ 9223372036854775807) (hl : bs.length ≤ 999999999) (h : Own W base v bs) (ht : TabAt base W) :
    Calls Tryz.prog 159 #[v, .int .i64 z, .int .i64 10] W fun e W' => ∃ v', e = .returned v' ∧ Own W' base v' (bs ++ Lib.itoa z) ∧ Below base W W' := by
  obtain ⟨ho, hb, hs⟩ := h
  refine (Any.strconv_AppendInt_10 Tryz.laysM176 base bs.length z hn1 hn2 v (bs.map byteV) W ho hb (by omega) (Eq.mp (congrArg (fun s => Lib.TabBelow Tryz.prog base W s .u64 Lib.pow10Tab) (by kernel_rfl)) ht)).mono ?_
  rintro e w ⟨v', rfl, hown, hB, _⟩
  refine ⟨v', rfl, ⟨?_, ?_, ?_⟩, hB⟩
  · rw [List.length_append, List.map_append, ← byteCells_map (Lib.itoa z)]
    exact hown
  · have := hB.size; omega
  · rcases hown.2 with ⟨e, _⟩ | ⟨g, cap, cur, e, _⟩
    · exact ⟨_, _, _, e⟩
    · exact ⟨_, _, _, e⟩

set_option maxRecDepth 100000 in
set_option maxHeartbeats 2000000 in
theorem writeJSON_num (W : World) (z : Int) (hn1 : -9223372036854775808 ≤ z) (hn2 : z ≤ 9223372036854775807) (ht : TabAt W.heap.size W) :
    Calls Tryz.prog 67 #[.int .i64 1, thNum z] W fun e W' => ∃ v', e = .returned v' ∧ Own W' W.heap.size v' (Lib.itoa z) ∧ Below W.heap.size W W' := by
  have cB : Calls Tryz.prog 109 #[.slice none 0 0, thNum z] W fun e W' => ∃ v', e = .returned v' ∧ Own W' W.heap.size v' (Lib.itoa z) ∧ Below W.heap.size W W' := by
    have cA := appendInt_any W W.heap.size _ [] z hn1 hn2 (by decide) (own_nil W) ht
    have ta1 := num_truth z
    have ta2 := num_num z
    unfold thNum at *
    clear ht
    go_enter Tryz.func109, Tryz.ntmps109
    go_wp2_with (first
      | (go_at_call 159; refine cA.mono ?_; clear cA; rintro e w6 ⟨v6, rfl, h6, hB6⟩; obtain ⟨h61, h62, a6, n6, c6, rfl⟩ := h6))
    go_ret; exact ⟨_, rfl, ⟨h61, h62, _, _, _, rfl⟩, hB6⟩
  clear ht
  unfold thNum at *
  go_enter Tryz.func67, Tryz.ntmps67
  go_wp2_with (first
    | (go_at_call 109; refine cB.mono ?_; clear cB; rintro e w6 ⟨v6, rfl, h6, hB6⟩; obtain ⟨h61, h62, a6, n6, c6, rfl⟩ := h6))
  go_ret; exact ⟨_, rfl, ⟨h61, h62, _, _, _, rfl⟩, hB6⟩
end Go.Proofs.YtllcbnfmihfaaaaGreatDoor
