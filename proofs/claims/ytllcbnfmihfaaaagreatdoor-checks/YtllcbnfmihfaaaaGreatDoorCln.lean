import Derived.Test.YtllcbnfmihfaaaaGreatDoorBase
import Derived.Test.YtllcbnfmihfaaaaGreatDoorShelf
namespace Go.Proofs.YtllcbnfmihfaaaaGreatDoor
open Go.RowKit Go.Shelf

set_option maxRecDepth 100000 in
set_option maxHeartbeats 1000000 in
theorem clone_any (s : ByteArray) (w : World) (hs : s.size ≤ 1000000) :
    Calls Tryz.prog 218 #[.string s] w fun e w' => e = .returned (.string s) ∧ Below w.heap.size w w' := by
  have cC := Tryz.stringslite_Clone s w (by omega)
  go_enter Tryz.func218, Tryz.ntmps218
  go_wp2_with (first
    | (go_at_call 238; refine cC.mono ?_; clear cC; rintro e w2 ⟨rfl, hB⟩))
  go_ret
  exact ⟨rfl, hB⟩
end Go.Proofs.YtllcbnfmihfaaaaGreatDoor
