import Derived.Test.YtllcbnfmihfaaaaGreatDoorShelf
import Derived.Lib.IndexMore
import Derived.Test.YtllcbnfmihfaaaaGreatDoorLq00
import Derived.Test.YtllcbnfmihfaaaaGreatDoorLq03
import Derived.Test.YtllcbnfmihfaaaaGreatDoorLq07
import Derived.Test.YtllcbnfmihfaaaaGreatDoorLq08
import Derived.Test.YtllcbnfmihfaaaaGreatDoorLq16
namespace Go.Proofs.YtllcbnfmihfaaaaGreatDoor
open Go.RowKit

set_option maxHeartbeats 400000 in
theorem pick_any (c : Int) (n : Nat) (w : World) (h1 : 1 ≤ n) (hn : n ≤ maxLen) (hc : -9223372036854775808 ≤ c) (hc2 : c ≤ 9223372036854775807) :
    Calls Tryz.prog 56 #[.int .i64 c, .int .i64 n] w fun e w' => (∃ k : Nat, k < n ∧ e = .returned (.int .i64 k)) ∧ w' = w := by
  unfold maxLen at hn
  have hpos : (0 : Int) < n := by omega
  by_cases h : c < 0
  · go_enter Tryz.func56, Tryz.ntmps56
    go_wp2
    go_ret
    have e1 := Int.emod_nonneg (-(c + 1)) (show (n : Int) ≠ 0 by omega)
    have e2 := Int.emod_lt_of_pos (-(c + 1)) hpos
    have e3 : -((c + 1).tmod n) = (-(c + 1)) % n := by rw [← Int.neg_tmod, Int.tmod_eq_emod_of_nonneg (by omega)]
    exact ⟨⟨((-(c + 1)) % n).toNat, by omega, by rw [Int.toNat_of_nonneg e1, ← e3]; rfl⟩, rfl⟩
  · go_enter Tryz.func56, Tryz.ntmps56
    go_wp2
    go_ret
    have e1 := Int.emod_nonneg c (show (n : Int) ≠ 0 by omega)
    have e2 := Int.emod_lt_of_pos c hpos
    exact ⟨⟨(c % n).toNat, by omega, by rw [Int.toNat_of_nonneg e1]; rfl⟩, rfl⟩

def amongB (B : List Int) (k : Int) : Bool := B.any fun x => x == k
set_option maxRecDepth 100000 in
set_option maxHeartbeats 1000000 in
theorem among_any (a : Option Addr) (cap : Nat) (B : List Int) (k : Int) (hB : B.length ≤ maxLen) (w : World) (hA : IntsAt w a B) :
    Calls Tryz.prog 34 #[.slice a B.length cap, .int .i64 k] w fun e w' => e = .returned (.bool (amongB B k)) ∧ w' = w := by
  unfold maxLen at hB
  have HA : Hid (IntsAt w a B) := hA
  clear hA
  go_enter Tryz.func34, Tryz.ntmps34
  go_wp2
  go_loopg [5] B.length (fun g x wr => ∃ i : Nat, Hid (i + g = B.length) ∧ x = .int .i64 i ∧ w = wr ∧ Hid (∀ j (h : j < B.length), j < i → (B[j] == k) = false))
  case atStart => exact ⟨0, by show _ = _; omega, rfl, rfl, fun j h hj => by omega⟩
  case round =>
    obtain ⟨i, hi, rfl, rfl, HL⟩ := hrel
    cases gk with
    | zero =>
      have hlt : ¬ (i : Int) < B.length := by have := hi.out; omega
      have HF : Hid (amongB B k = false) := by
        show _ = _
        unfold amongB
        rw [List.any_eq_false]
        intro x hx
        obtain ⟨j, hj, rfl⟩ := List.getElem_of_mem hx
        rw [HL.out j hj (by have := hi.out; omega)]
        decide
      go_wp2
      go_ret
      exact ⟨by rw [HF.out]; rfl, rfl⟩
    | succ g =>
      have hlt : (i : Int) < B.length := by have := hi.out; omega
      obtain ⟨b, off, rfl, hbl, hcs⟩ := HA.out.at_ i (by omega)
      have hc := hcs i (by omega)
      have HM : Hid (B[i] ∈ B) := List.getElem_mem _
      have HE : Hid (∀ x, x = B[i] → ∀ (h : i < B.length), (B[i] == k) = (x == k)) := fun x hx h => by rw [hx]
      clear hcs
      obtain ⟨x, hx⟩ : ∃ x, x = B[i] := ⟨_, rfl⟩
      have HX : Hid (x = B[i]) := hx
      rw [← hx] at hc
      clear hx
      cases e : (x == k)
      · have HQ : Hid ((x == k) = false) := e
        go_wp2
        go_roundg g
        case measure => omega
        case rel =>
          refine ⟨i + 1, by show _ = _; have := hi.out; omega, by go_num, rfl, fun j h hj => ?_⟩
          by_cases e2 : j = i
          · subst e2; rw [HE.out x HX.out h]; exact HQ.out
          · exact HL.out j h (by omega)
      · have HF : Hid (amongB B k = true) := by
          show _ = _
          unfold amongB
          rw [List.any_eq_true]
          exact ⟨B[i], HM.out, by rw [← HX.out]; exact e⟩
        go_wp2
        go_ret
        exact ⟨by rw [HF.out]; rfl, rfl⟩

/-- A World whose lists are none. -/
structure WAt (w : World) (b : Nat) : Prop where
  lists : w.cell? ⟨b, 2, none⟩ = some (.slice none 0 0)
set_option maxHeartbeats 400000 in
theorem looks_none (b : Nat) (w : World) (h : w.cell? ⟨b, 2, none⟩ = some (.slice none 0 0)) :
    Calls Tryz.prog 36 #[.pointer (some ⟨b, 0, none⟩)] w fun e w' => e = .returned (.bool true) ∧ w' = w := by
  go_enter Tryz.func36, Tryz.ntmps36
  go_wp2
  go_loopg [3, 4] 0 (fun g x y wr => x = .int .i64 0 ∧ w = wr)
  case atStart => exact ⟨rfl, rfl⟩
  case round =>
    obtain ⟨rfl, rfl⟩ := hrel
    go_wp2
    go_ret
    exact ⟨rfl, rfl⟩
set_option maxHeartbeats 400000 in
theorem apart_none (b : Nat) (w : World) (h : w.cell? ⟨b, 2, none⟩ = some (.slice none 0 0)) :
    Calls Tryz.prog 37 #[.pointer (some ⟨b, 0, none⟩)] w fun e w' => e = .returned (.bool true) ∧ w' = w := by
  go_enter Tryz.func37, Tryz.ntmps37
  go_wp2
  go_loopg [3, 4, 5] 0 (fun g x y z wr => x = .int .i64 0 ∧ w = wr)
  case atStart => exact ⟨rfl, rfl⟩
  case round =>
    obtain ⟨rfl, rfl⟩ := hrel
    go_wp2
    go_ret
    exact ⟨rfl, rfl⟩
end Go.Proofs.YtllcbnfmihfaaaaGreatDoor
namespace Go.Proofs.YtllcbnfmihfaaaaGreatDoor
open Go.RowKit Go.Shelf

set_option maxRecDepth 100000 in
set_option maxHeartbeats 1000000 in
theorem clone_any (s : ByteArray) (w : World) (hs : s.size ≤ 1000000) :
    Calls Tryz.prog 218 #[.string s] w fun e w' => e = .returned (.string s) ∧ Below w.heap.size w w' := by
  have cC := Tryz.stringslite_Clone s w (by omega)
  go_enter Tryz.func218, Tryz.ntmps218
  go_wp2_with (first
    | (go_at_call 238; refine cC.mono ?_; clear cC; rintro e w2 ⟨rfl, hB⟩))
  go_ret
  exact ⟨rfl, hB⟩
end Go.Proofs.YtllcbnfmihfaaaaGreatDoor
namespace Go.Proofs.YtllcbnfmihfaaaaGreatDoor
open Go.RowKit

theorem index_cases (c : UInt8) : ∀ l : List UInt8, (Lib.index l [c] = -1 ∧ splitL c l = [l]) ∨ ∃ a r, l = a ++ c :: r ∧ Lib.index l [c] = a.length ∧ splitL c l = a :: splitL c r
  | [] => Or.inl ⟨rfl, rfl⟩
  | x :: r => by
    by_cases hx : x = c
    · subst hx
      right
      exact ⟨[], r, rfl, by simp [Lib.index], by simp [splitL]⟩
    · have hp : ([c].isPrefixOf (x :: r)) = false := by simp [List.isPrefixOf, Ne.symm hx]
      have hb : (x == c) = false := by simp [hx]
      rcases index_cases c r with ⟨h1, h2⟩ | ⟨a, q, h1, h2, h3⟩
      · left
        refine ⟨?_, ?_⟩
        · unfold Lib.index; rw [hp, h1]; rfl
        · unfold splitL; rw [hb, h2]; rfl
      · right
        refine ⟨x :: a, q, by rw [h1]; rfl, ?_, ?_⟩
        · unfold Lib.index
          rw [hp, h2]
          have : ((a.length : Int) == -1) = false := by rw [beq_eq_false_iff_ne]; omega
          rw [this]
          simp
        · rw [splitL, hb, h3]
          rfl
theorem cut_cases (c : UInt8) (l : List UInt8) : (Lib.cut l [c] = (l, [], false) ∧ splitL c l = [l]) ∨ ∃ a r, Lib.cut l [c] = (a, r, true) ∧ l = a ++ c :: r ∧ splitL c l = a :: splitL c r := by
  rcases index_cases c l with ⟨h1, h2⟩ | ⟨a, r, h1, h2, h3⟩
  · left
    refine ⟨?_, h2⟩
    unfold Lib.cut
    rw [h1, if_neg (by omega)]
  · right
    refine ⟨a, r, ?_, h1, h3⟩
    unfold Lib.cut
    rw [h2, if_pos (by omega)]
    simp [h1]

/-- The program's rule: what stands before the first blank, before the second, behind it. -/
def ruleP (n : Nat) (l : List UInt8) : Bool :=
  patB (Lib.cut l [32]).1 && (labB (Lib.cut (Lib.cut l [32]).2.1 [32]).1 n && actV ⟨(Lib.cut (Lib.cut l [32]).2.1 [32]).2.1.toArray⟩ != 0)

theorem act_list (l : List UInt8) : actV ⟨l.toArray⟩ = if l == [100, 114, 111, 112] then 1 else if l == [109, 97, 115, 107] then 2 else if l == [116, 97, 103] then 3 else 0 := by
  unfold actV
  rw [Lib.toList_data]
theorem act_blank (a r : List UInt8) : actV ⟨(a ++ 32 :: r).toArray⟩ = 0 := by
  have hm : (32 : UInt8) ∈ a ++ 32 :: r := by simp
  rw [act_list]
  generalize a ++ 32 :: r = l at *
  rw [if_neg (by intro h; rw [eq_of_beq h] at hm; revert hm; decide), if_neg (by intro h; rw [eq_of_beq h] at hm; revert hm; decide), if_neg (by intro h; rw [eq_of_beq h] at hm; revert hm; decide)]
theorem rule_eq (n : Nat) (l : List UInt8) : ruleP n l = ruleB n l := by
  unfold ruleP ruleB
  rcases cut_cases 32 l with ⟨h1, h2⟩ | ⟨a, r, h1, _, h2⟩
  · rw [h1, h2]
    rcases cut_cases 32 [] with ⟨h3, h4⟩ | ⟨a, r, _, h3, _⟩
    · simp [h3, labB, ruleL]
    · simp at h3
  · rw [h1, h2]
    rcases cut_cases 32 r with ⟨h3, h4⟩ | ⟨b, q, h3, _, h4⟩
    · rw [h3, h4]
      have : actV ⟨([] : List UInt8).toArray⟩ = 0 := by rw [act_list]; rfl
      simp [this, ruleL]
    · rw [h3, h4]
      rcases cut_cases 32 q with ⟨h5, h6⟩ | ⟨d, e, h5, h6, h7⟩
      · rw [h6]; rfl
      · rw [h7, ruleL_not (by have := List.length_pos_iff.2 (splitL_ne 32 e); simp only [List.length_cons]; omega), h6]
        simp [act_blank]
end Go.Proofs.YtllcbnfmihfaaaaGreatDoor
namespace Go.Proofs.YtllcbnfmihfaaaaGreatDoor
open Go.RowKit

def fmtB (f : Int) : Bool := f == 1 || f == 2 || f == 3
theorem isFormat_any (f : Int) (w : World) :
    Calls Tryz.prog 63 #[.int .i64 f] w fun e w' => e = .returned (.bool (fmtB f)) ∧ w' = w := by
  go_enter Tryz.func63, Tryz.ntmps63
  go_wp2
  all_goals go_ret
  all_goals exact ⟨by simp [fmtB, *], rfl⟩
theorem format_any (f : Int) (w : World) :
    Calls Tryz.prog 44 #[.int .i64 f] w fun e w' => e = .returned (.bool (fmtB f)) ∧ w' = w := by
  go_enter Tryz.func44, Tryz.ntmps44
  go_wp2
  all_goals go_ret
  all_goals exact ⟨by simp [fmtB, *], rfl⟩

def limB (i o d b : Int) : Bool := fmtB i && fmtB o && decide (1 ≤ d) && decide (d ≤ 16) && decide (1 ≤ b) && decide (b ≤ 4096)
set_option maxRecDepth 100000 in
set_option maxHeartbeats 1000000 in
theorem limitsOK_any (i o d b : Int) (w : World) :
    Calls Tryz.prog 38 #[.int .i64 i, .int .i64 o, .int .i64 d, .int .i64 b] w fun e w' => e = .returned (.bool (limB i o d b)) ∧ w' = w := by
  cases e1 : fmtB i
  · have HF : Hid (limB i o d b = false) := by show _ = _; unfold limB; rw [e1]; rfl
    go_enter Tryz.func38, Tryz.ntmps38
    have T1 : True := trivial
    go_wp2_with (first
      | (go_at_call 63; clear T1; refine (isFormat_any _ _).mono ?_; rintro e w2 ⟨rfl, rfl⟩))
    go_ret
    exact ⟨by rw [HF.out]; rfl, rfl⟩
  · cases e2 : fmtB o
    · have HF : Hid (limB i o d b = false) := by show _ = _; unfold limB; rw [e1, e2]; rfl
      go_enter Tryz.func38, Tryz.ntmps38
      go_wp2_with (first
        | (go_at_call 63; refine (isFormat_any _ _).mono ?_; rintro e w2 ⟨rfl, rfl⟩))
      go_ret
      exact ⟨by rw [HF.out]; rfl, rfl⟩
    · have HF : Hid (limB i o d b = (decide (1 ≤ d) && decide (d ≤ 16) && decide (1 ≤ b) && decide (b ≤ 4096))) := by show _ = _; unfold limB; rw [e1, e2]; rfl
      go_enter Tryz.func38, Tryz.ntmps38
      go_wp2_with (first
        | (go_at_call 63; refine (isFormat_any _ _).mono ?_; rintro e w2 ⟨rfl, rfl⟩))
      all_goals go_ret
      all_goals refine ⟨?_, rfl⟩
      all_goals rw [HF.out]
      all_goals simp [*]
      all_goals (intros; omega)
end Go.Proofs.YtllcbnfmihfaaaaGreatDoor
namespace Go.Proofs.YtllcbnfmihfaaaaGreatDoor
open Go.RowKit

/-- A path in memory: of each step its key, whether it leads into a list. -/
structure PthAt (w : World) (a : Option Addr) (ps : List (List UInt8 × Bool)) : Prop where
  at_ : ∀ i (h : i < ps.length), ∃ b off, a = some ⟨b, off, none⟩ ∧ b < w.heap.size ∧ w.cell? ⟨b, off + i * 2, none⟩ = some (.string ⟨ps[i].1.toArray⟩) ∧ w.cell? ⟨b, off + i * 2 + 1, none⟩ = some (.bool ps[i].2)
theorem PthAt.below {w w' : World} {a : Option Addr} {ps : List (List UInt8 × Bool)} (h : PthAt w a ps) (hb : Below w.heap.size w w') : PthAt w' a ps :=
  ⟨fun i hi => by
    obtain ⟨b, off, h1, h2, h3, h4⟩ := h.at_ i hi
    exact ⟨b, off, h1, Nat.lt_of_lt_of_le h2 hb.size, (hb.cell (p := ⟨b, _, none⟩) h2).trans h3, (hb.cell (p := ⟨b, _, none⟩) h2).trans h4⟩⟩
/-- May a path be? -/
def stpB (t : List UInt8 × Bool) : Bool := !t.2 || t.1.isEmpty
def pthB (ps : List (List UInt8 × Bool)) : Bool := decide (ps.length ≤ 4096) && ps.all stpB
set_option maxRecDepth 100000 in
set_option maxHeartbeats 1000000 in
theorem isPath_any (w : World) (a : Option Addr) (cap : Nat) (ps : List (List UInt8 × Bool)) (h : PthAt w a ps) :
    Calls Tryz.prog 152 #[.slice a ps.length cap] w fun e w' => e = .returned (.bool (pthB ps)) ∧ Below w.heap.size w w' := by
  have HP : Hid (PthAt w a ps) := h
  clear h
  by_cases hbig : (4096 : Int) < ps.length
  · have HE : Hid (pthB ps = false) := by show _ = _; unfold pthB; rw [decide_eq_false (by omega)]; rfl
    go_enter Tryz.func152, Tryz.ntmps152
    go_wp2
    go_ret
    rw [HE.out]
    exact ⟨rfl, Below.refl _ _⟩
  · have HE : Hid (pthB ps = ps.all stpB) := by show _ = _; unfold pthB; rw [decide_eq_true (by omega)]; rfl
    go_enter Tryz.func152, Tryz.ntmps152
    go_wp2
    go_loopg [10] ps.length (fun g z V => ∃ k : Nat, z = .int .i64 k ∧ Hid (k + g = ps.length) ∧ Hid (Below w.heap.size w V) ∧ Hid (ps.all stpB = (ps.drop k).all stpB))
    case atStart => exact ⟨0, rfl, by show _ = _; omega, Below.refl _ _, rfl⟩
    case round =>
      obtain ⟨k, rfl, hg, HB, HK⟩ := hrel
      cases gk with
      | zero =>
        have hlt : ¬ (k : Int) < (ps.length : Int) := by have := hg.out; omega
        have HF : Hid (pthB ps = true) := by
          show _ = _
          rw [HE.out, HK.out, List.drop_eq_nil_of_le (by have := hg.out; omega)]
          rfl
        clear HE HK
        go_wp2
        go_ret
        rw [HF.out]
        exact ⟨rfl, HB.out⟩
      | succ g =>
        have hkl : k < ps.length := by have := hg.out; omega
        have hlt : (k : Int) < (ps.length : Int) := by omega
        obtain ⟨b, off, rfl, hb, e0, e1⟩ := (HP.out.below HB.out).at_ k hkl
        have HK1 : Hid (ps.all stpB = (stpB ps[k] && (ps.drop (k + 1)).all stpB)) := by
          have h := HK.out
          rw [List.drop_eq_getElem_cons hkl, List.all_cons] at h
          exact h
        clear HK
        generalize ps[k] = t at *
        obtain ⟨key, ix⟩ := t
        have HB1 : Hid (Below w.heap.size w (wr.alloc (.cells #[.string ⟨key.toArray⟩, .bool ix] 259))) := HB.out.alloc HB.out.size _
        cases ix with
        | false =>
          go_wp2
          go_roundg g
          case measure => omega
          case rel => exact ⟨k + 1, by go_num, by show _ = _; have := hg.out; omega, HB1, by have h := HK1.out; exact h⟩
        | true =>
          cases hk : key.isEmpty with
          | true =>
            have HK2 : Hid (ps.all stpB = (ps.drop (k + 1)).all stpB) := by
              have h := HK1.out
              unfold stpB at h
              simp only [hk] at h
              exact h
            clear HK1
            go_wp2
            go_roundg g
            case measure => omega
            case rel => exact ⟨k + 1, by go_num, by show _ = _; have := hg.out; omega, HB1, HK2⟩
          | false =>
            have HF : Hid (pthB ps = false) := by
              show _ = _
              rw [HE.out, HK1.out]
              unfold stpB
              simp only [hk]
              rfl
            clear HK1 HE
            go_wp2
            go_ret
            rw [HF.out]
            exact ⟨rfl, HB1.out⟩
end Go.Proofs.YtllcbnfmihfaaaaGreatDoor
namespace Go.Proofs.YtllcbnfmihfaaaaGreatDoor
open Go.RowKit

/-- A segment: its kind, its key. -/
def sgS (l : List UInt8) : Nat × List UInt8 := if l == [42] then (0, []) else if l == [42, 42] then (1, []) else if l == [91, 93] then (2, []) else (3, l)
def sgC (s : Nat × List UInt8) : List Value := [.int .i64 s.1, .string ⟨s.2.toArray⟩]
/-- The pieces of a pattern; a line; a policy. -/
def patR (l : List UInt8) : List (List UInt8) := if l == [46] then [] else splitL 47 l
def rulR (l : List UInt8) : List (List UInt8) × Int × Int := match splitL 32 l with
  | [p, b, c] => (patR p, labI b, actV ⟨c.toArray⟩)
  | _ => ([], 0, 0)
def polR (l : List UInt8) : List (List (List UInt8) × Int × Int) := if l.length = 0 then [] else (splitL 10 l).map rulR
def enS (r : List (List UInt8) × Int × Int) : List (Nat × List UInt8) × Int × Int := (r.1.map sgS, r.2)
theorem sgS_kind (l : List UInt8) : (sgS l).1 ≤ 3 := by
  unfold sgS
  split
  · exact Nat.zero_le _
  · split
    · show (1 : Nat) ≤ 3; omega
    · split
      · show (2 : Nat) ≤ 3; omega
      · exact Nat.le_refl _
theorem sgS_len (l : List UInt8) : (sgS l).2.length ≤ l.length := by
  unfold sgS
  split
  · simp
  · split
    · simp
    · split
      · simp
      · exact Nat.le_refl _
theorem rule_parts {n : Nat} {l : List UInt8} (h : ruleB n l = true) : splitL 32 l = [(Lib.cut l [32]).1, (Lib.cut (Lib.cut l [32]).2.1 [32]).1, (Lib.cut (Lib.cut l [32]).2.1 [32]).2.1] := by
  rw [← rule_eq] at h
  unfold ruleP at h
  rcases cut_cases 32 l with ⟨h1, h2⟩ | ⟨a, r, h1, _, h2⟩
  · rw [h1] at h
    rcases cut_cases 32 [] with ⟨h3, h4⟩ | ⟨a, r, _, h3, _⟩
    · simp [h3, labB] at h
    · simp at h3
  · rw [h1] at h ⊢
    rw [h2]
    rcases cut_cases 32 r with ⟨h3, h4⟩ | ⟨b, q, h3, _, h4⟩
    · rw [h3] at h
      have : actV ⟨([] : List UInt8).toArray⟩ = 0 := by rw [act_list]; rfl
      simp [this] at h
    · rw [h3] at h ⊢
      rw [h4]
      rcases cut_cases 32 q with ⟨h5, h6⟩ | ⟨d, e, h5, h6, h7⟩
      · rw [h6]
      · rw [h6] at h
        simp [act_blank] at h
theorem rulR_eq {l p b c : List UInt8} (h : splitL 32 l = [p, b, c]) : rulR l = (patR p, labI b, actV ⟨c.toArray⟩) := by
  unfold rulR
  rw [h]
/-- Cells that lie in a block of their own. -/
def CelB (W : World) (lo : Nat) (t : TypeId) (pa : Option Addr) (cs : List Value) : Prop :=
  cs = [] ∨ ∃ b off cur fr, pa = some ⟨b, off, none⟩ ∧ lo ≤ b ∧ W.heap[b]? = some (.cells cur t fr) ∧ ∀ j (h : j < cs.length), cur[off + j]? = some cs[j]
theorem CelB.kept {W W' : World} {lo lo' : Nat} {t : TypeId} {pa : Option Addr} {cs : List Value} (h : CelB W lo t pa cs)
    (hk : ∀ b cur fr, lo ≤ b → W.heap[b]? = some (.cells cur t fr) → lo' ≤ b ∧ W'.heap[b]? = some (.cells cur t fr)) : CelB W' lo' t pa cs := by
  rcases h with h | ⟨b, off, cur, fr, h1, h2, h4, h5⟩
  · exact .inl h
  · obtain ⟨k1, k3⟩ := hk b cur fr h2 h4
    exact .inr ⟨b, off, cur, fr, h1, k1, k3, h5⟩
theorem CelB.below {W W' : World} {lo : Nat} {t : TypeId} {pa : Option Addr} {cs : List Value} (h : CelB W lo t pa cs) (hb : Below W.heap.size W W') : CelB W' lo t pa cs :=
  h.kept fun b _ _ h1 h3 => ⟨h1, (hb.block b (Array.getElem?_eq_some_iff.1 h3).1).trans h3⟩
theorem own_cel {W : World} {base lo : Nat} {e : TypeId} {size : Nat} {v : Value} {n : Nat} {xs : List Value} (h : W.ownsRow base e size v n xs) (hl : lo ≤ base) :
    ∃ pa cap, v = .slice pa n cap ∧ CelB W lo e pa xs := by
  obtain ⟨h1, ⟨h2, h3⟩ | ⟨g, cap, cur, h2, h3, h4, _, _, _, h8⟩⟩ := h
  · subst h3
    exact ⟨none, 0, h2, .inl (List.eq_nil_of_length_eq_zero (by omega))⟩
  · refine ⟨_, _, h2, .inr ⟨g, 0, cur, _, rfl, by omega, h4, fun j hj => ?_⟩⟩
    have e1 := congrArg (·[j]?) h8
    simp only [List.getElem?_take] at e1
    rw [if_pos (by omega), List.getElem?_eq_getElem hj] at e1
    rw [Nat.zero_add]
    simpa using e1
/-- A row of rules: the cells of the pattern, how many its parts are, the label, the action. -/
def RwB (W : World) (lo : Nat) (t : TypeId) (xs : List Value) (es : List (List Value × Nat × Int × Int)) : Prop :=
  xs.length = es.length * 3 ∧ ∀ i (h : i < es.length), ∃ pa pc, xs[i * 3]? = some (.slice pa es[i].2.1 pc) ∧ xs[i * 3 + 1]? = some (.int .i64 es[i].2.2.1) ∧ xs[i * 3 + 2]? = some (.int .i64 es[i].2.2.2) ∧ CelB W lo t pa es[i].1
theorem rwB_nil (W : World) (lo : Nat) (t : TypeId) : RwB W lo t [] [] := ⟨rfl, fun i h => by simp at h⟩
theorem RwB.kept {W W' : World} {lo lo' : Nat} {t : TypeId} {xs : List Value} {es : List (List Value × Nat × Int × Int)} (h : RwB W lo t xs es)
    (hk : ∀ b cur fr, lo ≤ b → W.heap[b]? = some (.cells cur t fr) → lo' ≤ b ∧ W'.heap[b]? = some (.cells cur t fr)) : RwB W' lo' t xs es := by
  refine ⟨h.1, fun i hi => ?_⟩
  obtain ⟨pa, pc, h1, h2, h3, h4⟩ := h.2 i hi
  exact ⟨pa, pc, h1, h2, h3, h4.kept hk⟩
theorem RwB.below {W W' : World} {lo : Nat} {t : TypeId} {xs : List Value} {es : List (List Value × Nat × Int × Int)} (h : RwB W lo t xs es) (hb : Below W.heap.size W W') : RwB W' lo t xs es :=
  h.kept fun b _ _ h1 h3 => ⟨h1, (hb.block b (Array.getElem?_eq_some_iff.1 h3).1).trans h3⟩
theorem RwB.push {W : World} {lo : Nat} {t : TypeId} {xs : List Value} {es : List (List Value × Nat × Int × Int)} (h : RwB W lo t xs es) {e : List Value × Nat × Int × Int} {pa : Option Addr} {pc : Nat} (hc : CelB W lo t pa e.1) :
    RwB W lo t (xs ++ [.slice pa e.2.1 pc, .int .i64 e.2.2.1, .int .i64 e.2.2.2]) (es ++ [e]) := by
  have hl := h.1
  refine ⟨by simp [hl]; omega, fun i hi => ?_⟩
  by_cases hie : i < es.length
  · obtain ⟨pa', pc', h1, h2, h3, h4⟩ := h.2 i hie
    rw [List.getElem_append_left hie]
    refine ⟨pa', pc', ?_, ?_, ?_, h4⟩
    · rw [List.getElem?_append_left (by omega)]; exact h1
    · rw [List.getElem?_append_left (by omega)]; exact h2
    · rw [List.getElem?_append_left (by omega)]; exact h3
  · have hi2 : i = es.length := by simp at hi; omega
    subst hi2
    rw [List.getElem_append_right (Nat.le_refl _)]
    simp only [Nat.sub_self, List.getElem_cons_zero]
    refine ⟨pa, pc, ?_, ?_, ?_, hc⟩
    · rw [List.getElem?_append_right (by omega), hl, Nat.sub_self]; rfl
    · rw [List.getElem?_append_right (by omega), hl, show es.length * 3 + 1 - es.length * 3 = 1 by omega]; rfl
    · rw [List.getElem?_append_right (by omega), hl, show es.length * 3 + 2 - es.length * 3 = 2 by omega]; rfl
theorem sg_at : ∀ (ss : List (Nat × List UInt8)) (j : Nat) (h : j < ss.length), (ss.flatMap sgC)[j * 2]? = some (.int .i64 ss[j].1) ∧ (ss.flatMap sgC)[j * 2 + 1]? = some (.string ⟨ss[j].2.toArray⟩)
  | x :: ss, 0, _ => ⟨rfl, rfl⟩
  | x :: ss, j + 1, h => by
    have h1 := sg_at ss j (by simpa using h)
    rw [List.flatMap_cons, show (j + 1) * 2 = j * 2 + 2 by omega]
    exact h1
theorem sg_len (ss : List (Nat × List UInt8)) : (ss.flatMap sgC).length = ss.length * 2 := by
  induction ss with
  | nil => rfl
  | cons x ss ih =>
    rw [List.flatMap_cons, List.length_append, ih, List.length_cons]
    show 2 + _ = _
    omega
def enP (r : List (Nat × List UInt8) × Int × Int) : List Value × Nat × Int × Int := (r.1.flatMap sgC, r.1.length, r.2.1, r.2.2)
theorem cel_seg {W : World} {lo : Nat} {t : TypeId} {pa : Option Addr} {ss : List (Nat × List UInt8)} (h : CelB W lo t pa (ss.flatMap sgC)) : SegAt W pa ss := by
  refine ⟨fun i hi => ?_⟩
  have hl := sg_len ss
  rcases h with h | ⟨b, off, cur, fr, h1, h2, h4, h5⟩
  · rw [h] at hl
    simp at hl
    omega
  · obtain ⟨a1, a2⟩ := sg_at ss i hi
    have b1 := h5 (i * 2) (by omega)
    have b2 := h5 (i * 2 + 1) (by omega)
    rw [← List.getElem?_eq_getElem] at b1 b2
    refine ⟨b, off, h1, (Array.getElem?_eq_some_iff.1 h4).1, ?_, ?_⟩
    · rw [cell_of_row W b _ cur _ fr h4, b1, a1]
    · rw [Nat.add_assoc, cell_of_row W b _ cur _ fr h4, b2, a2]
theorem own_pru {W : World} {base lo : Nat} {v : Value} {xs : List Value} {t : TypeId} {rs : List (List (Nat × List UInt8) × Int × Int)} (h : W.ownsRow base 230 3 v rs.length xs) (hr : RwB W lo t xs (rs.map enP)) :
    ∃ a cap, v = .slice a rs.length cap ∧ PruAt W a rs := by
  obtain ⟨h1, ⟨h2, h3⟩ | ⟨g, cap, cur, h2, h3, h4, _, _, _, h8⟩⟩ := h
  · exact ⟨none, 0, by rw [h2, h3], ⟨fun i hi => by omega⟩⟩
  · refine ⟨_, _, h2, ⟨fun i hi => ?_⟩⟩
    obtain ⟨pa, pc, k1, k2, k3, k4⟩ := hr.2 i (by simpa using hi)
    have key : ∀ j u, xs[j]? = some u → W.cell? ⟨g, 0 + j, none⟩ = some u := by
      intro j u hj
      have hjl : j < xs.length := (List.getElem?_eq_some_iff.1 hj).1
      have e1 := congrArg (·[j]?) h8
      simp only [List.getElem?_take] at e1
      rw [if_pos (by omega), hj] at e1
      rw [Nat.zero_add, cell_of_row W g j cur _ _ h4]
      simpa using e1
    have e2 : (rs.map enP)[i]'(by simpa using hi) = enP rs[i] := by simp
    rw [e2] at k1 k2 k3 k4
    exact ⟨g, 0, pa, pc, rfl, (Array.getElem?_eq_some_iff.1 h4).1, key _ _ k1, by have := key _ _ k2; rwa [Nat.zero_add] at this ⊢, by have := key _ _ k3; rwa [Nat.zero_add] at this ⊢, cel_seg k4⟩
end Go.Proofs.YtllcbnfmihfaaaaGreatDoor
namespace Go.Proofs.YtllcbnfmihfaaaaGreatDoor
open Go.RowKit

theorem tkS_sg (s : List UInt8) (t : List UInt8 × Bool) : tkS (sgS s) t = if s == [42] then true else if s == [42, 42] then false else if s == [91, 93] then t.2 else !t.2 && t.1 == s := by
  unfold sgS
  split
  · rfl
  · split
    · rfl
    · split
      · rfl
      · rfl
set_option maxRecDepth 100000 in
theorem takes_any (s key : List UInt8) (ix : Bool) (w : World) :
    Calls Tryz.prog 225 #[.string ⟨s.toArray⟩, .agg #[.string ⟨key.toArray⟩, .bool ix]] w fun e w' => e = .returned (.bool (tkS (sgS s) (key, ix))) ∧ Below w.heap.size w w' := by
  have HE : Hid (tkS (sgS s) (key, ix) = if s == [42] then true else if s == [42, 42] then false else if s == [91, 93] then ix else !ix && key == s) := tkS_sg s (key, ix)
  have HB : Hid (Below w.heap.size w (w.alloc (.cells #[.string ⟨key.toArray⟩, .bool ix] 259))) := (Below.refl _ _).alloc (Nat.le_refl _) _
  cases h0 : (s == [42]) with
  | true =>
    have HF : Hid (tkS (sgS s) (key, ix) = true) := by show _ = _; rw [HE.out, h0]; rfl
    clear HE
    go_enter Tryz.func225, Tryz.ntmps225
    go_wp2
    go_ret
    rw [HF.out]
    exact ⟨rfl, HB.out⟩
  | false =>
    cases h1 : (s == [42, 42]) with
    | true =>
      have HF : Hid (tkS (sgS s) (key, ix) = false) := by show _ = _; rw [HE.out, h0, h1]; rfl
      clear HE
      go_enter Tryz.func225, Tryz.ntmps225
      go_wp2
      go_ret
      rw [HF.out]
      exact ⟨rfl, HB.out⟩
    | false =>
      cases h2 : (s == [91, 93]) with
      | true =>
        have HF : Hid (tkS (sgS s) (key, ix) = ix) := by show _ = _; rw [HE.out, h0, h1, h2]; rfl
        clear HE
        go_enter Tryz.func225, Tryz.ntmps225
        go_wp2
        go_ret
        rw [HF.out]
        exact ⟨rfl, HB.out⟩
      | false =>
        have HF : Hid (tkS (sgS s) (key, ix) = (!ix && key == s)) := by show _ = _; rw [HE.out, h0, h1, h2]; rfl
        clear HE
        cases ix with
        | true =>
          go_enter Tryz.func225, Tryz.ntmps225
          go_wp2
          go_ret
          rw [HF.out]
          exact ⟨rfl, HB.out⟩
        | false =>
          go_enter Tryz.func225, Tryz.ntmps225
          go_wp2
          go_ret
          rw [HF.out]
          exact ⟨rfl, HB.out⟩
end Go.Proofs.YtllcbnfmihfaaaaGreatDoor
