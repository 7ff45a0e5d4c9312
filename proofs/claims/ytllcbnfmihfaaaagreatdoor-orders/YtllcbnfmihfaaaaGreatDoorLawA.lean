import Derived.Test.YtllcbnfmihfaaaaGreatDoorBuck
namespace Go.Proofs.YtllcbnfmihfaaaaGreatDoor
open Go.RowKit

set_option maxHeartbeats 400000 in
theorem pick_any (c : Int) (n : Nat) (w : World) (h1 : 1 ≤ n) (hn : n ≤ maxLen) (hc : -9223372036854775808 ≤ c) (hc2 : c ≤ 9223372036854775807) :
    Calls Tryz.prog 56 #[.int .i64 c, .int .i64 n] w fun e w' => (∃ k : Nat, k < n ∧ e = .returned (.int .i64 k)) ∧ w' = w := by
  unfold maxLen at hn
  have hpos : (0 : Int) < n := by omega
  by_cases h : c < 0
  · go_enter Tryz.func56, Tryz.ntmps56
    go_wp2
    go_ret
    have e1 := Int.emod_nonneg (-(c + 1)) (show (n : Int) ≠ 0 by omega)
    have e2 := Int.emod_lt_of_pos (-(c + 1)) hpos
    have e3 : -((c + 1).tmod n) = (-(c + 1)) % n := by rw [← Int.neg_tmod, Int.tmod_eq_emod_of_nonneg (by omega)]
    exact ⟨⟨((-(c + 1)) % n).toNat, by omega, by rw [Int.toNat_of_nonneg e1, ← e3]; rfl⟩, rfl⟩
  · go_enter Tryz.func56, Tryz.ntmps56
    go_wp2
    go_ret
    have e1 := Int.emod_nonneg c (show (n : Int) ≠ 0 by omega)
    have e2 := Int.emod_lt_of_pos c hpos
    exact ⟨⟨(c % n).toNat, by omega, by rw [Int.toNat_of_nonneg e1]; rfl⟩, rfl⟩

def amongB (B : List Int) (k : Int) : Bool := B.any fun x => x == k
set_option maxRecDepth 100000 in
set_option maxHeartbeats 1000000 in
theorem among_any (a : Option Addr) (cap : Nat) (B : List Int) (k : Int) (hB : B.length ≤ maxLen) (w : World) (hA : IntsAt w a B) :
    Calls Tryz.prog 34 #[.slice a B.length cap, .int .i64 k] w fun e w' => e = .returned (.bool (amongB B k)) ∧ w' = w := by
  unfold maxLen at hB
  have HA : Hid (IntsAt w a B) := hA
  clear hA
  go_enter Tryz.func34, Tryz.ntmps34
  go_wp2
  go_loopg [5] B.length (fun g x wr => ∃ i : Nat, Hid (i + g = B.length) ∧ x = .int .i64 i ∧ w = wr ∧ Hid (∀ j (h : j < B.length), j < i → (B[j] == k) = false))
  case atStart => exact ⟨0, by show _ = _; omega, rfl, rfl, fun j h hj => by omega⟩
  case round =>
    obtain ⟨i, hi, rfl, rfl, HL⟩ := hrel
    cases gk with
    | zero =>
      have hlt : ¬ (i : Int) < B.length := by have := hi.out; omega
      have HF : Hid (amongB B k = false) := by
        show _ = _
        unfold amongB
        rw [List.any_eq_false]
        intro x hx
        obtain ⟨j, hj, rfl⟩ := List.getElem_of_mem hx
        rw [HL.out j hj (by have := hi.out; omega)]
        decide
      go_wp2
      go_ret
      exact ⟨by rw [HF.out]; rfl, rfl⟩
    | succ g =>
      have hlt : (i : Int) < B.length := by have := hi.out; omega
      obtain ⟨b, off, rfl, hbl, hcs⟩ := HA.out.at_ i (by omega)
      have hc := hcs i (by omega)
      have HM : Hid (B[i] ∈ B) := List.getElem_mem _
      have HE : Hid (∀ x, x = B[i] → ∀ (h : i < B.length), (B[i] == k) = (x == k)) := fun x hx h => by rw [hx]
      clear hcs
      obtain ⟨x, hx⟩ : ∃ x, x = B[i] := ⟨_, rfl⟩
      have HX : Hid (x = B[i]) := hx
      rw [← hx] at hc
      clear hx
      cases e : (x == k)
      · have HQ : Hid ((x == k) = false) := e
        go_wp2
        go_roundg g
        case measure => omega
        case rel =>
          refine ⟨i + 1, by show _ = _; have := hi.out; omega, by go_num, rfl, fun j h hj => ?_⟩
          by_cases e2 : j = i
          · subst e2; rw [HE.out x HX.out h]; exact HQ.out
          · exact HL.out j h (by omega)
      · have HF : Hid (amongB B k = true) := by
          show _ = _
          unfold amongB
          rw [List.any_eq_true]
          exact ⟨B[i], HM.out, by rw [← HX.out]; exact e⟩
        go_wp2
        go_ret
        exact ⟨by rw [HF.out]; rfl, rfl⟩

/-- A World whose lists are none. -/
structure WAt (w : World) (b : Nat) : Prop where
  lists : w.cell? ⟨b, 2, none⟩ = some (.slice none 0 0)
set_option maxHeartbeats 400000 in
theorem looks_none (b : Nat) (w : World) (h : w.cell? ⟨b, 2, none⟩ = some (.slice none 0 0)) :
    Calls Tryz.prog 36 #[.pointer (some ⟨b, 0, none⟩)] w fun e w' => e = .returned (.bool true) ∧ w' = w := by
  go_enter Tryz.func36, Tryz.ntmps36
  go_wp2
  go_loopg [3, 4] 0 (fun g x y wr => x = .int .i64 0 ∧ w = wr)
  case atStart => exact ⟨rfl, rfl⟩
  case round =>
    obtain ⟨rfl, rfl⟩ := hrel
    go_wp2
    go_ret
    exact ⟨rfl, rfl⟩
set_option maxHeartbeats 400000 in
theorem apart_none (b : Nat) (w : World) (h : w.cell? ⟨b, 2, none⟩ = some (.slice none 0 0)) :
    Calls Tryz.prog 37 #[.pointer (some ⟨b, 0, none⟩)] w fun e w' => e = .returned (.bool true) ∧ w' = w := by
  go_enter Tryz.func37, Tryz.ntmps37
  go_wp2
  go_loopg [3, 4, 5] 0 (fun g x y z wr => x = .int .i64 0 ∧ w = wr)
  case atStart => exact ⟨rfl, rfl⟩
  case round =>
    obtain ⟨rfl, rfl⟩ := hrel
    go_wp2
    go_ret
    exact ⟨rfl, rfl⟩
end Go.Proofs.YtllcbnfmihfaaaaGreatDoor
