import Derived.Test.YtllcbnfmihfaaaaGreatDoorLq00
namespace Go.Proofs.YtllcbnfmihfaaaaGreatDoor
open Go.RowKit

/-- A list of ints in memory. -/
structure IntsAt (w : World) (a : Option Addr) (B : List Int) : Prop where
  at_ : ∀ i, i < B.length → ∃ b off, a = some ⟨b, off, none⟩ ∧ b < w.heap.size ∧ ∀ j (h' : j < B.length), w.cell? ⟨b, off + j, none⟩ = some (.int .i64 B[j])
theorem IntsAt.below {w w' : World} {a : Option Addr} {B : List Int} (h : IntsAt w a B) (hb : Below w.heap.size w w') : IntsAt w' a B :=
  ⟨fun i hi => by
    obtain ⟨b, off, ha, hlt, h1⟩ := h.at_ i hi
    exact ⟨b, off, ha, Nat.lt_of_lt_of_le hlt hb.size, fun j hj => (hb.cell (p := ⟨b, _, none⟩) hlt).trans (h1 j hj)⟩⟩

theorem bel_drewN {B : Nat} {a w : World} (h : Below B a w) (n : Nat) : Below B a (w.drewN n) := h.trans ⟨rfl, rfl, rfl, Nat.le_refl _, fun _ _ => rfl⟩

def prevI (B : List Int) (i : Nat) : Int := if i = 0 then 0 else B.getD (i - 1) 0
def pOk (B : List Int) (i : Nat) : Bool := decide (prevI B i < B.getD i 0 ∧ B.getD i 0 ≤ 65536)
def rOk (B : List Int) (i : Nat) : Bool := decide (1 ≤ B.getD i 0 ∧ B.getD i 0 ≤ 65536 ∧ (0 < i → B.getD (i - 1) 0 < B.getD i 0))
def bucketsP (B : List Int) : Bool := decide (B.length ≤ 8) && (List.range B.length).all (pOk B)
def bucketsR (B : List Int) : Bool := (List.range B.length).all (rOk B) && decide (B.length ≤ 8)
theorem buckets_eq (B : List Int) : bucketsP B = bucketsR B := by
  unfold bucketsP bucketsR
  rw [Bool.and_comm]
  congr 1
  rw [Bool.eq_iff_iff, List.all_eq_true, List.all_eq_true]
  constructor
  · intro h i hi
    have hp : ∀ k, k < B.length → pOk B k = true := fun k hk => h k (List.mem_range.2 hk)
    have pos : ∀ k, k < B.length → 1 ≤ B.getD k 0 := by
      intro k
      induction k with
      | zero => intro hk; have := of_decide_eq_true (hp 0 hk); unfold prevI at this; simp only [if_pos] at this; omega
      | succ k ih =>
        intro hk
        have := of_decide_eq_true (hp (k + 1) hk)
        unfold prevI at this
        rw [if_neg (by omega)] at this
        have := ih (by omega)
        simp only [Nat.add_sub_cancel] at *
        omega
    have hi' := List.mem_range.1 hi
    have h1 := of_decide_eq_true (hp i hi')
    have h2 := pos i hi'
    refine decide_eq_true ⟨h2, h1.2, fun h0 => ?_⟩
    unfold prevI at h1
    rw [if_neg (by omega)] at h1
    exact h1.1
  · intro h i hi
    have h1 := of_decide_eq_true (h i hi)
    refine decide_eq_true ⟨?_, h1.2.1⟩
    unfold prevI
    split
    · omega
    · exact h1.2.2 (by omega)

set_option maxRecDepth 100000 in
set_option maxHeartbeats 1000000 in
theorem bucketsOK_any (a : Option Addr) (cap : Nat) (B : List Int) (hB : B.length ≤ maxLen) (w : World) (hA : IntsAt w a B) :
    Calls Tryz.prog 82 #[.slice a B.length cap] w fun e w' => e = .returned (.bool (bucketsP B)) ∧ w' = w := by
  unfold maxLen at hB
  have HA : Hid (IntsAt w a B) := hA
  clear hA
  by_cases h8 : B.length ≤ 8
  · have h8' : ¬ (8 : Int) < B.length := by omega
    go_enter Tryz.func82, Tryz.ntmps82
    go_wp2
    go_loopg [11, 3, 5] B.length (fun g x y z wr => ∃ k : Nat, Hid (k + g = B.length) ∧ x = .int .i64 k ∧ y = .int .i64 (prevI B k) ∧ w = wr ∧ Hid (∀ i, i < k → pOk B i = true))
    case atStart => exact ⟨0, by show _ = _; omega, rfl, rfl, rfl, fun i hi => by omega⟩
    case round =>
      obtain ⟨k, hk, rfl, rfl, rfl, HL⟩ := hrel
      cases gk with
      | zero =>
        have hlt : ¬ (k : Int) < B.length := by have := hk.out; omega
        have HF : Hid (bucketsP B = true) := by
          show _ = _
          unfold bucketsP
          rw [decide_eq_true h8, Bool.true_and, List.all_eq_true]
          exact fun i hi => HL.out i (by have := List.mem_range.1 hi; have := hk.out; omega)
        go_wp2
        go_ret
        exact ⟨by rw [HF.out]; rfl, rfl⟩
      | succ g =>
        have hlt : (k : Int) < B.length := by have := hk.out; omega
        obtain ⟨b, off, rfl, hbl, hcs⟩ := HA.out.at_ k (by omega)
        have hc := hcs k (by omega)
        have HG : Hid (B.getD k 0 = B[k]) := by show _ = _; rw [List.getD_eq_getElem?_getD, List.getElem?_eq_getElem (by omega)]; rfl
        have HP : Hid (prevI B (k + 1) = B[k]) := by show _ = _; unfold prevI; rw [if_neg (by omega)]; exact HG.out
        have HO : Hid (pOk B k = decide (prevI B k < B[k] ∧ B[k] ≤ 65536)) := by show _ = _; unfold pOk; rw [HG.out]
        clear hcs HG
        generalize B[k] = x at *
        generalize prevI B k = p at *
        by_cases h1 : x ≤ p
        · have HF : Hid (bucketsP B = false) := by
            show _ = _
            unfold bucketsP
            rw [Bool.and_eq_false_iff]
            right
            rw [List.all_eq_false]
            exact ⟨k, List.mem_range.2 (by omega), by rw [HO.out, decide_eq_false (by omega)]; decide⟩
          go_wp2
          go_ret
          exact ⟨by rw [HF.out]; rfl, rfl⟩
        · by_cases h2 : 65536 < x
          · have HF : Hid (bucketsP B = false) := by
              show _ = _
              unfold bucketsP
              rw [Bool.and_eq_false_iff]
              right
              rw [List.all_eq_false]
              exact ⟨k, List.mem_range.2 (by omega), by rw [HO.out, decide_eq_false (by omega)]; decide⟩
            go_wp2
            go_ret
            exact ⟨by rw [HF.out]; rfl, rfl⟩
          · go_wp2
            go_roundg g
            case measure => omega
            case rel =>
              refine ⟨k + 1, by show _ = _; have := hk.out; omega, by go_num, by rw [HP.out], rfl, fun i hi => ?_⟩
              by_cases e : i = k
              · subst e; rw [HO.out]; exact decide_eq_true (by omega)
              · exact HL.out i (by omega)
  · have h8' : (8 : Int) < B.length := by omega
    have HF : Hid (bucketsP B = false) := by show _ = _; unfold bucketsP; rw [decide_eq_false h8]; rfl
    go_enter Tryz.func82, Tryz.ntmps82
    go_wp2
    go_ret
    exact ⟨by rw [HF.out]; rfl, rfl⟩

set_option maxRecDepth 100000 in
set_option maxHeartbeats 2000000 in
theorem bucketsRef_any (a : Option Addr) (cap : Nat) (B : List Int) (hB : B.length ≤ maxLen) (w : World) (hA : IntsAt w a B) :
    Calls Tryz.prog 79 #[.slice a B.length cap] w fun e w' => e = .returned (.bool (bucketsR B)) ∧ Below w.heap.size w w' := by
  unfold maxLen at hB
  have HA : Hid (IntsAt w a B) := hA
  clear hA
  go_enter Tryz.func79, Tryz.ntmps79
  go_wp2
  go_loopg [3] B.length (fun g x wr => ∃ k : Nat, Hid (k + g = B.length) ∧ x = .int .i64 k ∧ Below w.heap.size w wr ∧ Hid (∀ i, i < k → rOk B i = true))
  case atStart => exact ⟨0, by show _ = _; omega, rfl, Below.refl _ _, fun i hi => by omega⟩
  case round =>
    obtain ⟨k, hk, rfl, hb, HL⟩ := hrel
    cases gk with
    | zero =>
      have hlt : ¬ (k : Int) < B.length := by have := hk.out; omega
      have HF : Hid (bucketsR B = decide ((B.length : Int) ≤ 8)) := by
        show _ = _
        unfold bucketsR
        have : (List.range B.length).all (rOk B) = true := by
          rw [List.all_eq_true]
          exact fun i hi => HL.out i (by have := List.mem_range.1 hi; have := hk.out; omega)
        rw [this, Bool.true_and]
        exact decide_eq_decide.2 (by omega)
      go_wp2
      go_ret
      exact ⟨by rw [HF.out]; rfl, hb⟩
    | succ g =>
      have hlt : (k : Int) < B.length := by have := hk.out; omega
      obtain ⟨b, off, rfl, hbl, hcs⟩ := (HA.out.below hb).at_ k (by omega)
      have hc := hcs k (by omega)
      have HG : Hid (B.getD k 0 = B[k]) := by show _ = _; rw [List.getD_eq_getElem?_getD, List.getElem?_eq_getElem (by omega)]; rfl
      have hlo : (0 : Int) ≤ k := by omega
      rcases Nat.eq_zero_or_pos k with hk0 | hk0
      · subst hk0
        rw [Nat.add_zero] at hc
        have HO : Hid (rOk B 0 = decide (1 ≤ B[0] ∧ B[0] ≤ 65536)) := by show _ = _; unfold rOk; rw [HG.out]; exact decide_eq_decide.2 (by omega)
        clear hcs HG
        generalize B[0] = x at *
        have hd0 : decide ((0 : Int) < 0) = false := rfl
        by_cases h1 : x < 1
        · have HF : Hid (bucketsR B = false) := by
            show _ = _
            unfold bucketsR
            rw [Bool.and_eq_false_iff]
            left
            rw [List.all_eq_false]
            exact ⟨0, List.mem_range.2 (by omega), by rw [HO.out, decide_eq_false (by omega)]; decide⟩
          go_wp2
          go_quiet (fail)
          go_wp2
          go_ret
          exact ⟨by rw [HF.out]; rfl, bel_drewN hb _⟩
        · have h1d : decide (x < 1) = false := decide_eq_false h1
          by_cases h2 : 65536 < x
          · have HF : Hid (bucketsR B = false) := by
              show _ = _
              unfold bucketsR
              rw [Bool.and_eq_false_iff]
              left
              rw [List.all_eq_false]
              exact ⟨0, List.mem_range.2 (by omega), by rw [HO.out, decide_eq_false (by omega)]; decide⟩
            go_wp2
            go_quiet (fail)
            go_wp2
            go_ret
            exact ⟨by rw [HF.out]; rfl, bel_drewN hb _⟩
          · have h2d : decide (65536 < x) = false := decide_eq_false h2
            go_wp2
            go_quiet (fail)
            go_wp2
            go_roundg g
            case measure => omega
            case rel =>
              refine ⟨0 + 1, by show _ = _; have := hk.out; omega, by go_num, bel_drewN hb _, fun i hi => ?_⟩
              by_cases e : i = 0
              · subst e; rw [HO.out]; exact decide_eq_true (by omega)
              · exact HL.out i (by omega)
      · obtain ⟨j, rfl⟩ : ∃ j, k = j + 1 := ⟨k - 1, by omega⟩
        have hc2 := hcs j (by omega)
        have HO : Hid (rOk B (j + 1) = decide (1 ≤ B[j + 1] ∧ B[j + 1] ≤ 65536 ∧ B[j] < B[j + 1])) := by
          show _ = _
          unfold rOk
          rw [HG.out]
          have e2 : B.getD (j + 1 - 1) 0 = B[j] := by rw [List.getD_eq_getElem?_getD, Nat.add_sub_cancel, List.getElem?_eq_getElem (by omega)]; rfl
          rw [e2]
          exact decide_eq_decide.2 (by omega)
        clear hcs HG
        generalize B[j + 1] = x at *
        generalize B[j] = y at *
        have hpos : (0 : Int) < ((j + 1 : Nat) : Int) := by omega
        by_cases h1 : x < 1
        · have HF : Hid (bucketsR B = false) := by
            show _ = _
            unfold bucketsR
            rw [Bool.and_eq_false_iff]
            left
            rw [List.all_eq_false]
            exact ⟨j + 1, List.mem_range.2 (by omega), by rw [HO.out, decide_eq_false (by omega)]; decide⟩
          go_wp2
          go_quiet (fail)
          go_wp2
          go_ret
          exact ⟨by rw [HF.out]; rfl, bel_drewN hb _⟩
        · have h1d : decide (x < 1) = false := decide_eq_false h1
          by_cases h2 : 65536 < x
          · have HF : Hid (bucketsR B = false) := by
              show _ = _
              unfold bucketsR
              rw [Bool.and_eq_false_iff]
              left
              rw [List.all_eq_false]
              exact ⟨j + 1, List.mem_range.2 (by omega), by rw [HO.out, decide_eq_false (by omega)]; decide⟩
            go_wp2
            go_quiet (fail)
            go_wp2
            go_ret
            exact ⟨by rw [HF.out]; rfl, bel_drewN hb _⟩
          · have h2d : decide (65536 < x) = false := decide_eq_false h2
            by_cases h3 : x ≤ y
            · have HF : Hid (bucketsR B = false) := by
                show _ = _
                unfold bucketsR
                rw [Bool.and_eq_false_iff]
                left
                rw [List.all_eq_false]
                exact ⟨j + 1, List.mem_range.2 (by omega), by rw [HO.out, decide_eq_false (by omega)]; decide⟩
              go_wp2
              go_quiet (fail)
              go_wp2
              go_ret
              exact ⟨by rw [HF.out]; rfl, bel_drewN hb _⟩
            · have h3d : decide (x ≤ y) = false := decide_eq_false h3
              go_wp2
              go_quiet (fail)
              go_wp2
              go_roundg g
              case measure => omega
              case rel =>
                refine ⟨j + 1 + 1, by show _ = _; have := hk.out; omega, by go_num, bel_drewN hb _, fun i hi => ?_⟩
                by_cases e : i = j + 1
                · subst e; rw [HO.out]; exact decide_eq_true (by omega)
                · exact HL.out i (by omega)
end Go.Proofs.YtllcbnfmihfaaaaGreatDoor
