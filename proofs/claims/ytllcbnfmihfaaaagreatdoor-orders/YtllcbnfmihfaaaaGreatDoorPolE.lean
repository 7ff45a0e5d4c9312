import Derived.Test.YtllcbnfmihfaaaaGreatDoorPolD
namespace Go.Proofs.YtllcbnfmihfaaaaGreatDoor
open Go.RowKit

theorem strs_of_own {w : World} {base : Nat} {v : Value} {ps : List ByteArray} (h : w.ownsRow base 9 1 v ps.length (ps.map Value.string)) (hne : 0 < ps.length) :
    ∃ g cap, v = .slice (some ⟨g, 0, none⟩) ps.length cap ∧ base ≤ g ∧ g < w.heap.size ∧ ∀ j (hj : j < ps.length), w.cell? ⟨g, j, none⟩ = some (.string ps[j]) := by
  obtain ⟨_, ⟨_, h0⟩ | ⟨g, cap, cur, hv, hg, hh, hn, _, hcs, ht⟩⟩ := h
  · omega
  · refine ⟨g, cap, hv, hg, (Array.getElem?_eq_some_iff.1 hh).1, fun j hj => ?_⟩
    have e : cur.toList[j]? = some (.string ps[j]) := by
      have := congrArg (·[j]?) ht
      simp only [List.getElem?_take, List.getElem?_map] at this
      rw [if_pos (by omega), List.getElem?_eq_getElem hj] at this
      exact this
    rw [cell_of_row w g j cur _ _ hh]
    simpa using e

theorem splitL_len (c : UInt8) : ∀ l : List UInt8, (splitL c l).length ≤ l.length + 1
  | [] => by simp [splitL]
  | x :: r => by
    have ih := splitL_len c r
    unfold splitL
    split
    · simp only [List.length_cons]; omega
    · cases h : splitL c r with
      | nil => simp
      | cons a b => rw [h] at ih; simp only [List.length_cons] at *; omega
theorem splitL_size (c : UInt8) : ∀ (l p : List UInt8), p ∈ splitL c l → p.length ≤ l.length
  | [], p, h => by simp [splitL] at h; subst h; exact Nat.le_refl _
  | x :: r, p, h => by
    have ih := fun q => splitL_size c r q
    unfold splitL at h
    split at h
    · rcases List.mem_cons.1 h with rfl | h
      · exact Nat.zero_le _
      · exact Nat.le_succ_of_le (ih p h)
    · cases e : splitL c r with
      | nil => exact absurd e (splitL_ne _ _)
      | cons a b =>
        rw [e] at h ih
        rcases List.mem_cons.1 h with rfl | h
        · exact Nat.succ_le_succ (ih a (List.mem_cons_self ..))
        · exact Nat.le_succ_of_le (ih p (List.mem_cons_of_mem _ h))
theorem ne_len {c : UInt8} {l : List UInt8} {ps : List ByteArray} (h : ps.map (·.data.toList) = splitL c l) : 0 < ps.length := by
  rcases ps with _ | ⟨a, b⟩
  · exact absurd h.symm (splitL_ne _ _)
  · simp

def segB (l : List UInt8) : Bool := litB l || (l == [42] || (l == [42, 42] || l == [91, 93]))
def patB (l : List UInt8) : Bool := l == [46] || ((splitL 47 l).all segB && decide ((splitL 47 l).length ≤ 8))

set_option maxRecDepth 100000 in
set_option maxHeartbeats 2000000 in
theorem pattern_any (s : ByteArray) (w : World) (hs : s.size ≤ 100000) :
    Calls Tryz.prog 178 #[.string s] w fun e w' =>
      ∃ a n cap, e = .returned (.tuple #[.slice a n cap, .bool (patB s.data.toList)]) ∧ Below w.heap.size w w' := by
  cases hd : (s.toList == [46])
  · have HP : Hid (patB s.data.toList = ((splitL 47 s.data.toList).all segB && decide ((splitL 47 s.data.toList).length ≤ 8))) := by
      show _ = _
      unfold patB
      rw [← Lib.toList_data, hd, Bool.false_or]
    go_enter Tryz.func178, Tryz.ntmps178
    have T1 : True := trivial
    go_wp2_with (first
      | (go_at_call 129; clear T1; refine (split_any s 47 47 rfl _ hs).mono ?_; rintro e w2 ⟨v, ps, rfl, HO, HB, HE⟩; obtain ⟨g, cap, rfl, hg, hgs, hcs⟩ := strs_of_own HO (ne_len HE)))
    have hpl := ne_len HE
    have hpb : ps.length ≤ 100001 := by
      have h1 := congrArg List.length HE
      have h2 := splitL_len 47 s.data.toList
      have h3 : s.data.toList.length = s.size := Array.length_toList
      rw [List.length_map] at h1
      omega
    have hps : ∀ p, p ∈ ps → p.size ≤ 4611686018427387904 := fun p hp => by
      have := splitL_size 47 s.data.toList p.data.toList (by rw [← HE]; exact List.mem_map_of_mem hp)
      have h3 : s.data.toList.length = s.size := Array.length_toList
      have h4 : p.data.toList.length = p.size := Array.length_toList
      omega
    have HS : Hid (∀ p, p ∈ ps → p.size ≤ 4611686018427387904) := hps
    have HCS : Hid (∀ (j : Nat) (hj : j < ps.length), w2.cell? ⟨g, j, none⟩ = some (Value.string ps[j])) := hcs
    have HP2 : Hid (patB s.data.toList = (ps.all (fun p => segB p.data.toList) && decide (ps.length ≤ 8))) := by
      show _ = _
      rw [HP.out, ← HE, List.all_map, List.length_map]
      rfl
    have HB2 : Hid (Below w.heap.size w w2) := HB
    clear HB HP HE HO hcs hps
    go_loopg [5] ps.length (fun gk x wr => ∃ k : Nat, Hid (k + gk = ps.length) ∧ x = .int .i64 k ∧ w2 = wr ∧ Hid (∀ i (h : i < ps.length), i < k → segB ps[i].data.toList = true))
    case atStart => exact ⟨0, by show _ = _; omega, rfl, rfl, fun i _ hi => by omega⟩
    case round =>
      obtain ⟨k, hk, rfl, rfl, HL⟩ := hrel
      cases gk with
      | zero =>
        have hlt : ¬ (k : Int) < ps.length := by have := hk.out; omega
        have HA : Hid (patB s.data.toList = decide ((ps.length : Int) ≤ 8)) := by
          show _ = _
          rw [HP2.out, (List.all_eq_true.2 fun p hp => by
            obtain ⟨i, hi, rfl⟩ := List.getElem_of_mem hp
            exact HL.out i hi (by have := hk.out; omega) : ps.all (fun p => segB p.data.toList) = true), Bool.true_and]
          congr 1
          rw [eq_iff_iff]
          omega
        go_wp2
        go_ret2
        first | exact ⟨_, _, _, by rw [HA.out]; rfl, HB2.out⟩ | exact ⟨⟨_, _, _, by rw [HA.out]; rfl⟩, HB2.out⟩
      | succ gg =>
        have hlt : (k : Int) < ps.length := by have := hk.out; omega
        have hkn : k < ps.length := by omega
        have hc := HCS.out k hkn
        have hsz := HS.out ps[k] (List.getElem_mem hkn)
        have HN : Hid (segB ps[k].data.toList = false → patB s.data.toList = false) := fun h => by
          rw [HP2.out, Bool.and_eq_false_iff]
          left
          rw [List.all_eq_false]
          exact ⟨ps[k], List.getElem_mem hkn, by rw [h]; decide⟩
        have HY : Hid (segB ps[k].data.toList = true → ∀ i (h : i < ps.length), i < k + 1 → segB ps[i].data.toList = true) := fun h i hi hik => by
          by_cases e : i = k
          · subst e; exact h
          · exact HL.out i hi (by omega)
        clear HL
        generalize ps[k] = p at *
        have HG : Hid (segB p.data.toList = (litB p.data.toList || (p.toList == [42] || (p.toList == [42, 42] || p.toList == [91, 93])))) := by
          show _ = _
          unfold segB
          rw [Lib.toList_data]
        cases e0 : litB p.data.toList
        · cases e1 : (p.toList == [42])
          · cases e2 : (p.toList == [42, 42])
            · cases e3 : (p.toList == [91, 93])
              · have HF : Hid (patB s.data.toList = false) := HN.out (by rw [HG.out, e0, e1, e2, e3]; rfl)
                go_wp2_with (first
                  | (go_at_call 211; refine (literal_any p _ hsz).mono ?_; rintro e w2 ⟨rfl, rfl⟩; rw [e0]))
                go_ret2
                first | exact ⟨_, _, _, by rw [HF.out]; rfl, HB2.out⟩ | exact ⟨⟨_, _, _, by rw [HF.out]; rfl⟩, HB2.out⟩
              · have hT := HY.out (by rw [HG.out, e0, e1, e2, e3]; rfl)
                have HT : Hid (∀ i (h : i < ps.length), i < k + 1 → segB ps[i].data.toList = true) := hT
                clear hT
                go_wp2_with (first
                  | (go_at_call 211; refine (literal_any p _ hsz).mono ?_; rintro e w2 ⟨rfl, rfl⟩; rw [e0]))
                go_roundg gg
                case measure => omega
                case rel => exact ⟨k + 1, by show _ = _; have := hk.out; omega, by go_num, rfl, HT.out⟩
            · have hT := HY.out (by rw [HG.out, e0, e1, e2]; rfl)
              have HT : Hid (∀ i (h : i < ps.length), i < k + 1 → segB ps[i].data.toList = true) := hT
              clear hT
              go_wp2_with (first
                | (go_at_call 211; refine (literal_any p _ hsz).mono ?_; rintro e w2 ⟨rfl, rfl⟩; rw [e0]))
              go_roundg gg
              case measure => omega
              case rel => exact ⟨k + 1, by show _ = _; have := hk.out; omega, by go_num, rfl, HT.out⟩
          · have hT := HY.out (by rw [HG.out, e0, e1]; rfl)
            have HT : Hid (∀ i (h : i < ps.length), i < k + 1 → segB ps[i].data.toList = true) := hT
            clear hT
            go_wp2_with (first
              | (go_at_call 211; refine (literal_any p _ hsz).mono ?_; rintro e w2 ⟨rfl, rfl⟩; rw [e0]))
            go_roundg gg
            case measure => omega
            case rel => exact ⟨k + 1, by show _ = _; have := hk.out; omega, by go_num, rfl, HT.out⟩
        · have hT := HY.out (by rw [HG.out, e0]; rfl)
          have HT : Hid (∀ i (h : i < ps.length), i < k + 1 → segB ps[i].data.toList = true) := hT
          clear hT
          go_wp2_with (first
            | (go_at_call 211; refine (literal_any p _ hsz).mono ?_; rintro e w2 ⟨rfl, rfl⟩; rw [e0]))
          go_roundg gg
          case measure => omega
          case rel => exact ⟨k + 1, by show _ = _; have := hk.out; omega, by go_num, rfl, HT.out⟩
  · have HP : Hid (patB s.data.toList = true) := by
      show _ = _
      unfold patB
      rw [← Lib.toList_data, hd, Bool.true_or]
    go_enter Tryz.func178, Tryz.ntmps178
    go_wp2
    go_ret2
    exact ⟨none, 0, 0, by rw [HP.out]; rfl, Below.refl _ _⟩
end Go.Proofs.YtllcbnfmihfaaaaGreatDoor
