import Derived.Test.YtllcbnfmihfaaaaGreatDoorLat
namespace Go.Proofs.YtllcbnfmihfaaaaGreatDoor
open Go.RowKit

def fst (n k : Nat) (m : Nat → Nat → Bool) (l h : Nat) : Nat → Nat → Bool := fun i j => m i j || (decide (j < n ∧ (i < l ∨ (i = l ∧ j < h))) && (m i k && m k j))
def fwTo (n : Nat) : Nat → (Nat → Nat → Bool) → Nat → Nat → Bool
  | 0, m => m
  | k + 1, m => fst n k (fwTo n k m) n 0
theorem fst_zero (n k : Nat) (m : Nat → Nat → Bool) : fst n k m 0 0 = m := by
  funext i j; simp [fst]
theorem fst_row (n k : Nat) (m : Nat → Nat → Bool) (l : Nat) : fst n k m l n = fst n k m (l + 1) 0 := by
  funext i j
  unfold fst
  congr 2
  exact decide_eq_decide.2 (by omega)
theorem fst_col (n k : Nat) (m : Nat → Nat → Bool) (l h i : Nat) : fst n k m l h i k = m i k := by
  unfold fst
  cases m i k <;> simp
theorem fst_line (n k : Nat) (m : Nat → Nat → Bool) (l h j : Nat) : fst n k m l h k j = m k j := by
  unfold fst
  cases m k j <;> simp
theorem fst_yes (n k : Nat) (m : Nat → Nat → Bool) (l h : Nat) (hh : h < n) (e1 : m l k = true) (e2 : m k h = true) : upd (fst n k m l h) l h true = fst n k m l (h + 1) := by
  funext i j
  unfold upd fst
  by_cases c : i = l ∧ j = h
  · obtain ⟨rfl, rfl⟩ := c
    simp [hh, e1, e2]
  · rw [if_neg c]
    congr 2
    exact decide_eq_decide.2 (by omega)
theorem fst_no (n k : Nat) (m : Nat → Nat → Bool) (l h : Nat) (e : (m l k && m k h) = false) : fst n k m l h = fst n k m l (h + 1) := by
  funext i j
  unfold fst
  by_cases c : i = l ∧ j = h
  · obtain ⟨rfl, rfl⟩ := c
    rw [e]
    simp
  · congr 2
    exact decide_eq_decide.2 (by omega)

/-- The order's block, and what lies below it as it was. -/
structure OrdAt (w W : World) (b n : Nat) (M : Nat → Nat → Bool) : Prop where
  below : Below b w W
  own : W.heap[b]? = some (.cells (ordArr n M) 107)
theorem OrdAt.set {w W : World} {b n : Nat} {M : Nat → Nat → Bool} (h : OrdAt w W b n M) {i j : Nat} (hi : i < 6) (hj : j < 6) (v : Bool) :
    OrdAt w (W.setCell ⟨b, 1 + i * 6 + j, none⟩ (.bool v)) b n (upd M i j v) :=
  ⟨h.below.setCell (Nat.le_refl _) _, by rw [heap_setCell_same W _ _ _ _ _ h.own, ordArr_set n M i j v hi hj]⟩
theorem OrdAt.count {w W : World} {b n : Nat} {M : Nat → Nat → Bool} (h : OrdAt w W b n M) : W.cell? ⟨b, 0, none⟩ = some (.int .i64 n) := (cellOfHeap h.own 0).trans (isOrd_ordArr n M).count
theorem OrdAt.at_ {w W : World} {b n : Nat} {M : Nat → Nat → Bool} (h : OrdAt w W b n M) {i j : Nat} (hi : i < 6) (hj : j < 6) : W.cell? ⟨b, 1 + i * 6 + j, none⟩ = some (.bool (M i j)) := (cellOfHeap h.own _).trans ((isOrd_ordArr n M).at_ i j hi hj)
theorem OrdAt.frozen {w W : World} {b n : Nat} {M : Nat → Nat → Bool} (h : OrdAt w W b n M) (j : Nat) : W.frozen? ⟨b, j, none⟩ = false := frozen_of_row W b j _ _ h.own
theorem OrdAt.drew {w W : World} {b n : Nat} {M : Nat → Nat → Bool} (h : OrdAt w W b n M) : OrdAt w W.drew b n M := ⟨h.below.drew, h.own⟩

set_option maxRecDepth 100000 in
set_option maxHeartbeats 2000000 in
theorem follow_any (b n : Nat) (m : Nat → Nat → Bool) (hn : n ≤ 6) (w : World) (hown : w.heap[b]? = some (.cells (ordArr n m) 107)) :
    Calls Tryz.prog 180 #[.pointer (some ⟨b, 0, none⟩)] w fun e w' => e = .returned (.tuple #[]) ∧ OrdAt w w' b n (fwTo n n m) := by
  have HT : Hid (OrdAt w w b n (fwTo n 0 m)) := ⟨Below.refl _ _, hown⟩
  clear hown
  have hc0 := HT.out.count
  go_enter Tryz.func180, Tryz.ntmps180
  go_wp2
  go_loopg [9, 2] n (fun g x y wr => ∃ k : Nat, Hid (k + g = n) ∧ x = .int .i64 k ∧ Hid (OrdAt w wr b n (fwTo n k m)))
  case atStart => exact ⟨0, by show _ = _; omega, rfl, HT⟩
  case round =>
    clear hc0 HT
    obtain ⟨k, hk, rfl, HK⟩ := hrel
    have hc0 := HK.out.count
    cases gk with
    | zero =>
      have hlt : ¬ (k : Int) < n := by have := hk.out; omega
      go_wp2
      go_end0
      have e : k = n := by have := hk.out; omega
      exact ⟨rfl, by have := HK.out; rw [e] at this; exact this⟩
    | succ g =>
      have hlt : (k : Int) < n := by have := hk.out; omega
      have hk6 : k < 6 := by omega
      go_wp2
      go_loopg [16, 3] n (fun g x y wr => ∃ l : Nat, Hid (l + g = n) ∧ x = .int .i64 l ∧ Hid (OrdAt w wr b n (fst n k (fwTo n k m) l 0)))
      case atStart => exact ⟨0, by show _ = _; omega, rfl, by rw [fst_zero]; exact HK⟩
      case round =>
        clear hc0 HK
        obtain ⟨l, hl, rfl, HL⟩ := hrel
        have hc0 := HL.out.count
        cases gk with
        | zero =>
          have hll : ¬ (l : Int) < n := by have := hl.out; omega
          go_wp2
          go_roundg g
          case measure => omega
          case rel =>
            have e : l = n := by have := hl.out; omega
            exact ⟨k + 1, by show _ = _; have := hk.out; omega, by go_num, by have := HL.out; rw [e] at this; exact this⟩
        | succ g2 =>
          have hll : (l : Int) < n := by have := hl.out; omega
          have hl6 : l < 6 := by omega
          go_wp2
          go_loopg [23, 4] n (fun g x y wr => ∃ h : Nat, Hid (h + g = n) ∧ x = .int .i64 h ∧ Hid (OrdAt w wr b n (fst n k (fwTo n k m) l h)))
          case atStart => exact ⟨0, by show _ = _; omega, rfl, HL⟩
          case round =>
            clear hc0 HL
            obtain ⟨h, hh, rfl, HH⟩ := hrel
            cases gk with
            | zero =>
              have hhl : ¬ (h : Int) < n := by have := hh.out; omega
              go_wp2
              go_roundg g2
              case measure => omega
              case rel =>
                have e : h = n := by have := hh.out; omega
                exact ⟨l + 1, by show _ = _; have := hl.out; omega, by go_num, by have := HH.out; rw [e, fst_row] at this; exact this⟩
            | succ g3 =>
              have hhl : (h : Int) < n := by have := hh.out; omega
              have hh6 : h < 6 := by omega
              have c1 := HH.out.at_ hl6 hk6
              have c2 := HH.out.at_ hk6 hh6
              have c3 := HH.out.at_ hl6 hh6
              have c4 := HH.out.frozen (1 + l * 6 + h)
              rw [fst_col] at c1
              rw [fst_line] at c2
              generalize hM : fwTo n k m = M at *
              clear hM
              cases e1 : M l k
              · rw [e1] at c1
                have HE : Hid ((M l k && M k h) = false) := by show _ = _; rw [e1]; rfl
                clear e1 c2 c3 c4
                go_wp2
                go_roundg g3
                case measure => omega
                case rel => exact ⟨h + 1, by show _ = _; have := hh.out; omega, by go_num, by have := HH.out; rw [fst_no n k M l h HE.out] at this; exact this⟩
              · rw [e1] at c1
                cases e2 : M k h
                · rw [e2] at c2
                  have HE : Hid ((M l k && M k h) = false) := by show _ = _; rw [e1, e2]; rfl
                  clear e1 e2 c3 c4
                  go_wp2
                  go_roundg g3
                  case measure => omega
                  case rel => exact ⟨h + 1, by show _ = _; have := hh.out; omega, by go_num, by have := HH.out; rw [fst_no n k M l h HE.out] at this; exact this⟩
                · rw [e2] at c2
                  have HE1 : Hid (M l k = true) := e1
                  have HE2 : Hid (M k h = true) := e2
                  clear e1 e2
                  generalize hV : fst n k M l h l h = v0 at c3
                  clear hV
                  go_wp2
                  go_roundg g3
                  case measure => omega
                  case rel => exact ⟨h + 1, by show _ = _; have := hh.out; omega, by go_num, by have := HH.out.set hl6 hh6 true; rw [fst_yes n k M l h (by omega) HE1.out HE2.out] at this; exact this⟩
end Go.Proofs.YtllcbnfmihfaaaaGreatDoor
