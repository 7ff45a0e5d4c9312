import Derived.Test.YtllcbnfmihfaaaaGreatDoorBase
namespace Go.Proofs.YtllcbnfmihfaaaaGreatDoor
open Go.RowKit

def fmtB (f : Int) : Bool := f == 1 || f == 2 || f == 3
theorem isFormat_any (f : Int) (w : World) :
    Calls Tryz.prog 63 #[.int .i64 f] w fun e w' => e = .returned (.bool (fmtB f)) ∧ w' = w := by
  go_enter Tryz.func63, Tryz.ntmps63
  go_wp2
  all_goals go_ret
  all_goals exact ⟨by simp [fmtB, *], rfl⟩
theorem format_any (f : Int) (w : World) :
    Calls Tryz.prog 44 #[.int .i64 f] w fun e w' => e = .returned (.bool (fmtB f)) ∧ w' = w := by
  go_enter Tryz.func44, Tryz.ntmps44
  go_wp2
  all_goals go_ret
  all_goals exact ⟨by simp [fmtB, *], rfl⟩

def limB (i o d b : Int) : Bool := fmtB i && fmtB o && decide (1 ≤ d) && decide (d ≤ 16) && decide (1 ≤ b) && decide (b ≤ 4096)
set_option maxRecDepth 100000 in
set_option maxHeartbeats 1000000 in
theorem limitsOK_any (i o d b : Int) (w : World) :
    Calls Tryz.prog 38 #[.int .i64 i, .int .i64 o, .int .i64 d, .int .i64 b] w fun e w' => e = .returned (.bool (limB i o d b)) ∧ w' = w := by
  cases e1 : fmtB i
  · have HF : Hid (limB i o d b = false) := by show _ = _; unfold limB; rw [e1]; rfl
    go_enter Tryz.func38, Tryz.ntmps38
    have T1 : True := trivial
    go_wp2_with (first
      | (go_at_call 63; clear T1; refine (isFormat_any _ _).mono ?_; rintro e w2 ⟨rfl, rfl⟩))
    go_ret
    exact ⟨by rw [HF.out]; rfl, rfl⟩
  · cases e2 : fmtB o
    · have HF : Hid (limB i o d b = false) := by show _ = _; unfold limB; rw [e1, e2]; rfl
      go_enter Tryz.func38, Tryz.ntmps38
      go_wp2_with (first
        | (go_at_call 63; refine (isFormat_any _ _).mono ?_; rintro e w2 ⟨rfl, rfl⟩))
      go_ret
      exact ⟨by rw [HF.out]; rfl, rfl⟩
    · have HF : Hid (limB i o d b = (decide (1 ≤ d) && decide (d ≤ 16) && decide (1 ≤ b) && decide (b ≤ 4096))) := by show _ = _; unfold limB; rw [e1, e2]; rfl
      go_enter Tryz.func38, Tryz.ntmps38
      go_wp2_with (first
        | (go_at_call 63; refine (isFormat_any _ _).mono ?_; rintro e w2 ⟨rfl, rfl⟩))
      all_goals go_ret
      all_goals refine ⟨?_, rfl⟩
      all_goals rw [HF.out]
      all_goals simp [*]
      all_goals (intros; omega)
end Go.Proofs.YtllcbnfmihfaaaaGreatDoor
