import Derived.Test.YtllcbnfmihfaaaaGreatDoorBase
import Derived.Lib.ValidLaws
namespace Go.Proofs.YtllcbnfmihfaaaaGreatDoor
open Go.RowKit

/-- What a first byte asks: the bounds of the second, how many bytes. -/
def secs (c : Int) : Int × Int × Int :=
  if c < 128 then (0, 0, 1) else if 194 ≤ c ∧ c ≤ 223 then (128, 191, 2) else if c = 224 then (160, 191, 3) else if c = 237 then (128, 159, 3)
  else if 225 ≤ c ∧ c ≤ 239 then (128, 191, 3) else if c = 240 then (144, 191, 4) else if 241 ≤ c ∧ c ≤ 243 then (128, 191, 4) else if c = 244 then (128, 143, 4) else (0, 0, 0)

theorem seconds_any (c : Int) (w : World) :
    Calls Tryz.prog 112 #[.int .u8 c] w fun e w' => e = .returned (.tuple #[.int .u8 (secs c).1, .int .u8 (secs c).2.1, .int .i64 (secs c).2.2]) ∧ w' = w := by
  go_enter Tryz.func112, Tryz.ntmps112
  go_wp2
  all_goals go_ret3
  all_goals refine ⟨?_, rfl⟩
  all_goals simp only [beq_iff_eq, beq_eq_false_iff_ne] at *
  all_goals unfold secs
  all_goals (repeat (first | rw [if_pos (by omega)] | rw [if_neg (by omega)]))
  all_goals rfl

def actV (s : ByteArray) : Int := if s.toList == [100, 114, 111, 112] then 1 else if s.toList == [109, 97, 115, 107] then 2 else if s.toList == [116, 97, 103] then 3 else 0
theorem action_any (s : ByteArray) (w : World) :
    Calls Tryz.prog 179 #[.string s] w fun e w' => e = .returned (.int .i64 (actV s)) ∧ w' = w := by
  go_enter Tryz.func179, Tryz.ntmps179
  go_wp2
  all_goals go_ret
  all_goals refine ⟨?_, rfl⟩
  all_goals unfold actV
  all_goals (repeat (first | rw [if_pos (by assumption)] | rw [if_neg (by rw [Bool.not_eq_true]; assumption)]))
  all_goals rfl
theorem readAction_any (s : ByteArray) (w : World) :
    Calls Tryz.prog 187 #[.string s] w fun e w' => e = .returned (.tuple #[.int .i64 (actV s), .bool (actV s != 0)]) ∧ w' = w := by
  go_enter Tryz.func187, Tryz.ntmps187
  go_wp2
  all_goals go_ret2
  all_goals refine ⟨?_, rfl⟩
  all_goals unfold actV
  all_goals (repeat (first | rw [if_pos (by assumption)] | rw [if_neg (by rw [Bool.not_eq_true]; assumption)]))
  all_goals rfl

def labI (l : List UInt8) : Int := match l with
  | [b] => if 48 ≤ b.toNat ∧ b.toNat ≤ 57 then (b.toNat : Int) - 48 else 0
  | _ => 0
def labB (l : List UInt8) (n : Int) : Bool := match l with
  | [b] => decide (48 ≤ b.toNat ∧ b.toNat ≤ 57) && decide ((b.toNat : Int) - 48 < n)
  | _ => false
theorem one_byte {s : ByteArray} (h : s.size = 1) : s.data.toList = [s[0]] := by
  obtain ⟨⟨l⟩⟩ := s
  match l, h with
  | [b], _ => rfl
theorem lab_not {l : List UInt8} (n : Int) (h : l.length ≠ 1) : labI l = 0 ∧ labB l n = false := by
  match l, h with
  | [], _ => exact ⟨rfl, rfl⟩
  | _ :: _ :: _, _ => exact ⟨rfl, rfl⟩
theorem readLabel_any (s : ByteArray) (n : Int) (w : World) :
    Calls Tryz.prog 186 #[.string s, .int .i64 n] w fun e w' => e = .returned (.tuple #[.int .i64 (labI s.data.toList), .bool (labB s.data.toList n)]) ∧ w' = w := by
  by_cases h1 : s.size = 1
  · have h0 : (s.size : Int) = 1 := by omega
    have HL : Hid (s.data.toList = [s[0]]) := one_byte h1
    by_cases h2 : (s[0].toNat : Int) < 48
    · have HI : Hid (labI [s[0]] = 0 ∧ labB [s[0]] n = false) := ⟨if_neg (by omega), by simp only [labB]; rw [decide_eq_false (by omega)]; rfl⟩
      go_enter Tryz.func186, Tryz.ntmps186
      go_wp2
      all_goals go_ret2
      all_goals exact ⟨by rw [HL.out, HI.out.1, HI.out.2]; rfl, rfl⟩
    · have h2' : (48 : Int) ≤ s[0].toNat := by omega
      by_cases h3 : (57 : Int) < s[0].toNat
      · have HI : Hid (labI [s[0]] = 0 ∧ labB [s[0]] n = false) := ⟨if_neg (by omega), by simp only [labB]; rw [decide_eq_false (by omega)]; rfl⟩
        go_enter Tryz.func186, Tryz.ntmps186
        go_wp2
        all_goals go_ret2
        all_goals exact ⟨by rw [HL.out, HI.out.1, HI.out.2]; rfl, rfl⟩
      · have h3' : (s[0].toNat : Int) ≤ 57 := by omega
        have HI : Hid (labI [s[0]] = (s[0].toNat : Int) - 48 ∧ labB [s[0]] n = decide ((s[0].toNat : Int) - 48 < n)) := ⟨if_pos (by omega), by simp only [labB]; rw [decide_eq_true (by omega)]; rfl⟩
        go_enter Tryz.func186, Tryz.ntmps186
        go_wp2
        all_goals go_ret2
        all_goals exact ⟨by rw [HL.out, HI.out.1, HI.out.2]; rfl, rfl⟩
  · have : (s.size : Int) ≠ 1 := by omega
    have HI : Hid (labI s.data.toList = 0 ∧ labB s.data.toList n = false) := lab_not n (by rw [Array.length_toList]; exact h1)
    go_enter Tryz.func186, Tryz.ntmps186
    go_wp2
    all_goals go_ret2
    all_goals exact ⟨by rw [HI.out.1, HI.out.2]; rfl, rfl⟩
end Go.Proofs.YtllcbnfmihfaaaaGreatDoor
