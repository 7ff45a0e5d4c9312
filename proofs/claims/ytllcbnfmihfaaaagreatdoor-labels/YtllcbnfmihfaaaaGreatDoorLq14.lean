import Derived.Lib.ValidU
import Derived.Lib.IndexLaws
import Derived.Lib.IndexMore
import Derived.WalkKit
import Derived.BigCall
import Derived.Maps.AppendAt
import Derived.Maps.OwnSet
import Derived.Test.YtllcbnfmihfaaaaGreatDoorLq11
import Derived.Test.YtllcbnfmihfaaaaGreatDoorLq12
import Derived.Test.YtllcbnfmihfaaaaGreatDoorLq13
namespace Go.Proofs.YtllcbnfmihfaaaaGreatDoor
open Go.RowKit

set_option maxRecDepth 100000 in
set_option maxHeartbeats 4000000 in
theorem rune_ge (n b0 b1 b2 b3 : Nat) (h0 : 128 ≤ b0) : 128 ≤ (Lib.decodeN n b0 b1 b2 b3).1 := by
  unfold Lib.decodeN
  repeat' split
  all_goals first | (simp; done) | (simp only []; omega)

/-- No character of a literal is this. -/
def badR (r : Nat) : Bool := decide (r ≤ 32) || (r == 42 || (r == 91 || (r == 93 || (r == 47 || r == 46))))
def litQ : Nat → List UInt8 → Option Nat
  | _, [] => some 0
  | 0, _ :: _ => none
  | g + 1, b :: t => if badR (Lib.decodeL (b :: t)).1 = true then none else (litQ g ((b :: t).drop (Lib.decodeL (b :: t)).2)).map (· + 1)

theorem bad_eq (b : UInt8) (t : List UInt8) : badR (Lib.decodeL (b :: t)).1 = badB b := by
  by_cases h : b.toNat < 128
  · rw [Lib.decodeL_ascii b t h]; rfl
  · have h1 : 128 ≤ (Lib.decodeL (b :: t)).1 := by
      rw [Lib.decodeL_N]
      exact rune_ge _ _ _ _ _ (by show 128 ≤ b.toNat; omega)
    have e1 : badR (Lib.decodeL (b :: t)).1 = false := by
      unfold badR
      simp only [Bool.or_eq_false_iff, decide_eq_false_iff_not, beq_eq_false_iff_ne]
      omega
    have e2 : badB b = false := by
      unfold badB
      simp only [Bool.or_eq_false_iff, decide_eq_false_iff_not, beq_eq_false_iff_ne]
      omega
    rw [e1, e2]
/-- Where all is characters, both count alike; where it is not, the reference counts none. -/
theorem lit_valid : ∀ (g : Nat) (l : List UInt8), l.length ≤ g → litC g l = if Lib.validD l then litQ g l else none
  | g, [], _ => by cases g <;> simp [litC, litQ, Lib.validD_nil]
  | 0, b :: t, h => by simp at h
  | g + 1, b :: t, h => by
    rw [Lib.validD_step (b :: t) (by simp)]
    rcases szL_decode (b :: t) (by simp) with ⟨hz, hd⟩ | ⟨hz, hd, hn⟩
    · simp [litC, hz, hd]
    · rw [if_neg hn, litC, litQ, bad_eq, hd]
      by_cases hb : badB b = true
      · rw [if_pos (Or.inr hb), if_pos hb]
        split <;> rfl
      · rw [if_neg (by intro hh; rcases hh with hh | hh; omega; exact hb hh), if_neg hb, lit_valid g _ (by rw [List.length_drop]; simp at h ⊢; omega)]
        split <;> rfl
theorem litB_eq (l : List UInt8) : litB l = (Lib.validD l && cntB (litQ l.length l)) := by
  unfold litB
  rw [lit_valid l.length l (Nat.le_refl _)]
  cases Lib.validD l
  · rfl
  · rfl
end Go.Proofs.YtllcbnfmihfaaaaGreatDoor
namespace Go.Proofs.YtllcbnfmihfaaaaGreatDoor

/-- The parts of a text between the bytes c. -/
def splitL (c : UInt8) : List UInt8 → List (List UInt8)
  | [] => [[]]
  | x :: r => if x == c then [] :: splitL c r else match splitL c r with
    | h :: t => (x :: h) :: t
    | [] => [[x]]
theorem splitL_ne (c : UInt8) (l : List UInt8) : splitL c l ≠ [] := by
  cases l with
  | nil => simp [splitL]
  | cons x r =>
    unfold splitL
    split
    · simp
    · split <;> simp
theorem splitL_none (c : UInt8) : ∀ l : List UInt8, (∀ x, x ∈ l → (x == c) = false) → splitL c l = [l]
  | [], _ => rfl
  | x :: r, h => by
    have h1 := h x (List.mem_cons_self ..)
    have h2 := splitL_none c r (fun y hy => h y (List.mem_cons_of_mem _ hy))
    simp only [splitL, h1, h2]
    rfl
theorem splitL_found (c : UInt8) : ∀ (a b : List UInt8), (∀ x, x ∈ a → (x == c) = false) → splitL c (a ++ c :: b) = a :: splitL c b
  | [], b, _ => by simp [splitL]
  | x :: a, b, h => by
    have h1 := h x (List.mem_cons_self ..)
    have h2 := splitL_found c a b (fun y hy => h y (List.mem_cons_of_mem _ hy))
    simp only [List.cons_append, splitL, h1, h2]
    rfl
theorem index_split_none {c : UInt8} {l : List UInt8} (h : Lib.indexByte l c = -1) : splitL c l = [l] := by
  refine splitL_none c l (fun x hx => ?_)
  obtain ⟨k, hk, rfl⟩ := List.getElem_of_mem hx
  have := Lib.indexByte_none h k
  rw [beq_eq_false_iff_ne]
  intro e
  exact this (by rw [List.getElem?_eq_getElem hk, e])
theorem index_split_some {c : UInt8} {l : List UInt8} {o : Nat} (h : Lib.indexByte l c = o) : o < l.length ∧ splitL c l = l.take o :: splitL c (l.drop (o + 1)) := by
  obtain ⟨h1, h2⟩ := Lib.indexByte_some h
  have ho : o < l.length := (List.getElem?_eq_some_iff.1 h1).1
  refine ⟨ho, ?_⟩
  have e : l = l.take o ++ c :: l.drop (o + 1) := by
    have h3 : l[o] = c := (List.getElem?_eq_some_iff.1 h1).2
    rw [← h3]
    simp
  conv => lhs; rw [e]
  refine splitL_found c _ _ (fun x hx => ?_)
  obtain ⟨k, hk, rfl⟩ := List.getElem_of_mem hx
  have hk' : k < o := by simp at hk; omega
  rw [beq_eq_false_iff_ne]
  intro e
  refine h2 k hk' ?_
  rw [List.getElem?_eq_getElem (by omega)]
  rw [List.getElem_take] at e
  rw [e]
end Go.Proofs.YtllcbnfmihfaaaaGreatDoor
namespace Go.Proofs.YtllcbnfmihfaaaaGreatDoor
open Go.RowKit

theorem Tryz.infoStr : (Tryz.prog.info? 9).map (fun i => (i.zero, i.size, i.bytes)) = some (some (.string ByteArray.empty), 1, 16) := by kernel_rfl

theorem ext_list (s : ByteArray) (a b : Nat) : (s.extract a b).data.toList = (s.data.toList.take b).drop a := by
  rw [Lib.extract_data]; simp [List.drop_take]

/-- The parts so far: what is left is the parts from f on. -/
structure Cut (c : UInt8) (l : List UInt8) (ps : List ByteArray) (f i : Nat) : Prop where
  fi : f ≤ i
  il : i ≤ l.length
  len : ps.length ≤ i
  eq : splitL c l = ps.map (·.data.toList) ++ splitL c (l.drop f)
  no : ∀ x, x ∈ (l.take i).drop f → (x == c) = false
theorem Cut.next {c : UInt8} {l : List UInt8} {ps : List ByteArray} {f i : Nat} (h : Cut c l ps f i) (hi : i < l.length) (hx : (l[i] == c) = false) : Cut c l ps f (i + 1) := by
  refine ⟨by have := h.fi; omega, hi, by have := h.len; omega, h.eq, fun x hx' => ?_⟩
  rw [List.take_succ_eq_append_getElem hi, List.drop_append_of_le_length (by rw [List.length_take]; have := h.fi; omega), List.mem_append] at hx'
  rcases hx' with h1 | h1
  · exact h.no x h1
  · rw [List.mem_singleton] at h1; rw [h1]; exact hx
theorem Cut.found {c : UInt8} {l : List UInt8} {ps : List ByteArray} {f i : Nat} (h : Cut c l ps f i) (hi : i < l.length) (hx : l[i] = c) (p : ByteArray) (hp : p.data.toList = (l.take i).drop f) : Cut c l (ps ++ [p]) (i + 1) (i + 1) := by
  refine ⟨Nat.le_refl _, hi, by rw [List.length_append]; have := h.len; simp; omega, ?_, fun x hx' => ?_⟩
  · rw [h.eq, List.map_append, List.append_assoc]
    congr 1
    have e : l.drop f = (l.take i).drop f ++ c :: l.drop (i + 1) := by
      conv => lhs; rw [← List.take_append_drop i l]
      rw [List.drop_append_of_le_length (by rw [List.length_take]; have := h.fi; omega), List.drop_eq_getElem_cons hi, hx]
    rw [e, splitL_found c _ _ h.no, ← hp]
    rfl
  · rw [List.drop_eq_nil_of_le (by rw [List.length_take]; omega)] at hx'
    exact absurd hx' (by simp)
theorem Cut.last {c : UInt8} {l : List UInt8} {ps : List ByteArray} {f : Nat} (h : Cut c l ps f l.length) (p : ByteArray) (hp : p.data.toList = l.drop f) : splitL c l = (ps ++ [p]).map (·.data.toList) := by
  rw [h.eq, List.map_append]
  congr 1
  have := h.no
  rw [List.take_length] at this
  rw [splitL_none c _ this, ← hp]
  rfl

set_option maxRecDepth 100000 in
set_option maxHeartbeats 2000000 in
theorem split_any (s : ByteArray) (c : UInt8) (cc : Int) (hcc : cc = c.toNat) (w : World) (hs : s.size ≤ 100000) :
    Calls Tryz.prog 129 #[.string s, .int .u8 cc] w fun e w' =>
      ∃ (v : Value) (ps : List ByteArray), e = .returned v ∧ w'.ownsRow w.heap.size 9 1 v ps.length (ps.map Value.string) ∧ Below w.heap.size w w' ∧ ps.map (·.data.toList) = splitL c s.data.toList := by
  obtain ⟨i0, hi, hz0, hz1, hz2⟩ := info_parts Tryz.infoStr
  have hl : s.data.toList.length = s.size := Array.length_toList
  have HCC : Hid (cc = c.toNat) := hcc
  clear hcc
  go_enter Tryz.func129, Tryz.ntmps129
  go_wp2
  go_loopg [5, 6, 7] s.size (fun g v x y wr => ∃ (ps : List ByteArray) (f i : Nat) (ao : Option Addr) (cv : Nat), Hid (i + g = s.size) ∧ v = .slice ao ps.length cv ∧ x = .int .i64 f ∧ y = .int .i64 i ∧ Hid (wr.ownsRow w.heap.size 9 1 v ps.length (ps.map Value.string)) ∧ Hid (Below w.heap.size w wr) ∧ Hid (Cut c s.data.toList ps f i))
  case atStart =>
    exact ⟨[], 0, 0, none, 0, by show _ = _; omega, rfl, rfl, rfl, World.ownsRow_nil _ _ _ _, Below.refl _ _, ⟨Nat.le_refl _, Nat.zero_le _, Nat.le_refl _, by simp, fun x hx => by simp at hx⟩⟩
  case round =>
    obtain ⟨ps, f, i, ao, cv, hig, rfl, rfl, rfl, HO, HB, HC⟩ := hrel
    have hfi : f ≤ i := HC.out.fi
    have hpl : ps.length ≤ i := HC.out.len
    have hsize := HB.out.size
    have his : i ≤ s.size := by have := hig.out; omega
    cases gk with
    | zero =>
      have hlt : ¬ (i : Int) < s.size := by have := hig.out; omega
      have hfs : f ≤ s.size := by omega
      go_wp2_with (first
        | (at_builtin; refine wpList_append_own _ rfl _ _ 57 rfl w.heap.size 9 i0 (.string ByteArray.empty) 1 16 Tryz.underlying57 hi hz0 hz1 hz2 rfl (by decide) _ _ _ rfl (HO.out.alloc _) ⟨wr.heap.size, 0, none⟩ 1 1 [.string (s.extract f s.size)] rfl rfl (cell_one_new _ _ _) (fun x hx => by simp at hx; subst hx; rfl) (by unfold maxLen; omega) (by omega) (by simp; omega) ?_; intro v' w3 hown' hgrow3 hnil3))
      go_ret
      have hie : i = s.data.toList.length := by have := hig.out; omega
      have hC := HC.out
      subst hie
      exact ⟨v', rfl, ps ++ [s.extract f s.size], by rw [List.length_append, List.map_append]; exact hown', (HB.out.alloc hsize _).grown hgrow3 (by simp; omega) (fun q hq => (HO.out.lt q hq).1), (hC.last _ (Lib.extract_to_end s f)).symm⟩
    | succ g =>
      have hlt : (i : Int) < s.size := by have := hig.out; omega
      have hn : i < s.size := by omega
      by_cases hc : (s[i].toNat : Int) = cc
      · have hce : ((s[i].toNat : Int) == cc) = true := by rw [beq_iff_eq]; exact hc
        go_wp2_with (first
          | (at_builtin; refine wpList_append_own _ rfl _ _ 57 rfl w.heap.size 9 i0 (.string ByteArray.empty) 1 16 Tryz.underlying57 hi hz0 hz1 hz2 rfl (by decide) _ _ _ rfl (HO.out.alloc _) ⟨wr.heap.size, 0, none⟩ 1 1 [.string (s.extract f i)] rfl rfl (cell_one_new _ _ _) (fun x hx => by simp at hx; subst hx; rfl) (by unfold maxLen; omega) (by omega) (by simp; omega) ?_; intro v' w3 hown' hgrow3 hnil3))
        go_roundg g
        case measure => omega
        case rel =>
          obtain ⟨g3, cap3, hv3⟩ : ∃ g3 cap3, v' = .slice (some ⟨g3, 0, none⟩) (ps.length + 1) cap3 := by
            rcases hown'.2 with ⟨_, h⟩ | ⟨g3, cap3, _, h, _⟩
            · omega
            · exact ⟨g3, cap3, h⟩
          have hx : s.data.toList[i] = c := by
            have e : s[i].toNat = c.toNat := by have := HCC.out; omega
            exact UInt8.toNat_inj.1 e
          exact ⟨ps ++ [s.extract f i], i + 1, i + 1, some ⟨g3, 0, none⟩, cap3, by show _ = _; have := hig.out; omega, by rw [hv3, List.length_append]; rfl, by go_num, by go_num, by show World.ownsRow _ _ _ _ _ _ _; rw [List.length_append, List.map_append]; exact hown', (HB.out.alloc hsize _).grown hgrow3 (by simp; omega) (fun q hq => (HO.out.lt q hq).1), HC.out.found (by omega) hx _ (ext_list s f i)⟩
      · have hce : ((s[i].toNat : Int) == cc) = false := by rw [beq_eq_false_iff_ne]; exact hc
        go_wp2
        go_roundg g
        case measure => omega
        case rel =>
          refine ⟨ps, f, i + 1, ao, cv, by show _ = _; have := hig.out; omega, rfl, rfl, by go_num, HO.out, HB.out, HC.out.next (by omega) ?_⟩
          rw [beq_eq_false_iff_ne]
          intro e
          exact hc (by rw [HCC.out, ← e]; rfl)
end Go.Proofs.YtllcbnfmihfaaaaGreatDoor
namespace Go.Proofs.YtllcbnfmihfaaaaGreatDoor
open Go.RowKit

theorem strs_of_own {w : World} {base : Nat} {v : Value} {ps : List ByteArray} (h : w.ownsRow base 9 1 v ps.length (ps.map Value.string)) (hne : 0 < ps.length) :
    ∃ g cap, v = .slice (some ⟨g, 0, none⟩) ps.length cap ∧ base ≤ g ∧ g < w.heap.size ∧ ∀ j (hj : j < ps.length), w.cell? ⟨g, j, none⟩ = some (.string ps[j]) := by
  obtain ⟨_, ⟨_, h0⟩ | ⟨g, cap, cur, hv, hg, hh, hn, _, hcs, ht⟩⟩ := h
  · omega
  · refine ⟨g, cap, hv, hg, (Array.getElem?_eq_some_iff.1 hh).1, fun j hj => ?_⟩
    have e : cur.toList[j]? = some (.string ps[j]) := by
      have := congrArg (·[j]?) ht
      simp only [List.getElem?_take, List.getElem?_map] at this
      rw [if_pos (by omega), List.getElem?_eq_getElem hj] at this
      exact this
    rw [cell_of_row w g j cur _ _ hh]
    simpa using e

theorem splitL_len (c : UInt8) : ∀ l : List UInt8, (splitL c l).length ≤ l.length + 1
  | [] => by simp [splitL]
  | x :: r => by
    have ih := splitL_len c r
    unfold splitL
    split
    · simp only [List.length_cons]; omega
    · cases h : splitL c r with
      | nil => simp
      | cons a b => rw [h] at ih; simp only [List.length_cons] at *; omega
theorem splitL_size (c : UInt8) : ∀ (l p : List UInt8), p ∈ splitL c l → p.length ≤ l.length
  | [], p, h => by simp [splitL] at h; subst h; exact Nat.le_refl _
  | x :: r, p, h => by
    have ih := fun q => splitL_size c r q
    unfold splitL at h
    split at h
    · rcases List.mem_cons.1 h with rfl | h
      · exact Nat.zero_le _
      · exact Nat.le_succ_of_le (ih p h)
    · cases e : splitL c r with
      | nil => exact absurd e (splitL_ne _ _)
      | cons a b =>
        rw [e] at h ih
        rcases List.mem_cons.1 h with rfl | h
        · exact Nat.succ_le_succ (ih a (List.mem_cons_self ..))
        · exact Nat.le_succ_of_le (ih p (List.mem_cons_of_mem _ h))
theorem ne_len {c : UInt8} {l : List UInt8} {ps : List ByteArray} (h : ps.map (·.data.toList) = splitL c l) : 0 < ps.length := by
  rcases ps with _ | ⟨a, b⟩
  · exact absurd h.symm (splitL_ne _ _)
  · simp

def segB (l : List UInt8) : Bool := litB l || (l == [42] || (l == [42, 42] || l == [91, 93]))
def patB (l : List UInt8) : Bool := l == [46] || ((splitL 47 l).all segB && decide ((splitL 47 l).length ≤ 8))

set_option maxRecDepth 100000 in
set_option maxHeartbeats 2000000 in
theorem pattern_any (s : ByteArray) (w : World) (hs : s.size ≤ 100000) :
    Calls Tryz.prog 178 #[.string s] w fun e w' =>
      ∃ a n cap, e = .returned (.tuple #[.slice a n cap, .bool (patB s.data.toList)]) ∧ Below w.heap.size w w' := by
  cases hd : (s.toList == [46])
  · have HP : Hid (patB s.data.toList = ((splitL 47 s.data.toList).all segB && decide ((splitL 47 s.data.toList).length ≤ 8))) := by
      show _ = _
      unfold patB
      rw [← Lib.toList_data, hd, Bool.false_or]
    go_enter Tryz.func178, Tryz.ntmps178
    have T1 : True := trivial
    go_wp2_with (first
      | (go_at_call 129; clear T1; refine (split_any s 47 47 rfl _ hs).mono ?_; rintro e w2 ⟨v, ps, rfl, HO, HB, HE⟩; obtain ⟨g, cap, rfl, hg, hgs, hcs⟩ := strs_of_own HO (ne_len HE)))
    have hpl := ne_len HE
    have hpb : ps.length ≤ 100001 := by
      have h1 := congrArg List.length HE
      have h2 := splitL_len 47 s.data.toList
      have h3 : s.data.toList.length = s.size := Array.length_toList
      rw [List.length_map] at h1
      omega
    have hps : ∀ p, p ∈ ps → p.size ≤ 4611686018427387904 := fun p hp => by
      have := splitL_size 47 s.data.toList p.data.toList (by rw [← HE]; exact List.mem_map_of_mem hp)
      have h3 : s.data.toList.length = s.size := Array.length_toList
      have h4 : p.data.toList.length = p.size := Array.length_toList
      omega
    have HS : Hid (∀ p, p ∈ ps → p.size ≤ 4611686018427387904) := hps
    have HCS : Hid (∀ (j : Nat) (hj : j < ps.length), w2.cell? ⟨g, j, none⟩ = some (Value.string ps[j])) := hcs
    have HP2 : Hid (patB s.data.toList = (ps.all (fun p => segB p.data.toList) && decide (ps.length ≤ 8))) := by
      show _ = _
      rw [HP.out, ← HE, List.all_map, List.length_map]
      rfl
    have HB2 : Hid (Below w.heap.size w w2) := HB
    clear HB HP HE HO hcs hps
    go_loopg [5] ps.length (fun gk x wr => ∃ k : Nat, Hid (k + gk = ps.length) ∧ x = .int .i64 k ∧ w2 = wr ∧ Hid (∀ i (h : i < ps.length), i < k → segB ps[i].data.toList = true))
    case atStart => exact ⟨0, by show _ = _; omega, rfl, rfl, fun i _ hi => by omega⟩
    case round =>
      obtain ⟨k, hk, rfl, rfl, HL⟩ := hrel
      cases gk with
      | zero =>
        have hlt : ¬ (k : Int) < ps.length := by have := hk.out; omega
        have HA : Hid (patB s.data.toList = decide ((ps.length : Int) ≤ 8)) := by
          show _ = _
          rw [HP2.out, (List.all_eq_true.2 fun p hp => by
            obtain ⟨i, hi, rfl⟩ := List.getElem_of_mem hp
            exact HL.out i hi (by have := hk.out; omega) : ps.all (fun p => segB p.data.toList) = true), Bool.true_and]
          congr 1
          rw [eq_iff_iff]
          omega
        go_wp2
        go_ret2
        first | exact ⟨_, _, _, by rw [HA.out]; rfl, HB2.out⟩ | exact ⟨⟨_, _, _, by rw [HA.out]; rfl⟩, HB2.out⟩
      | succ gg =>
        have hlt : (k : Int) < ps.length := by have := hk.out; omega
        have hkn : k < ps.length := by omega
        have hc := HCS.out k hkn
        have hsz := HS.out ps[k] (List.getElem_mem hkn)
        have HN : Hid (segB ps[k].data.toList = false → patB s.data.toList = false) := fun h => by
          rw [HP2.out, Bool.and_eq_false_iff]
          left
          rw [List.all_eq_false]
          exact ⟨ps[k], List.getElem_mem hkn, by rw [h]; decide⟩
        have HY : Hid (segB ps[k].data.toList = true → ∀ i (h : i < ps.length), i < k + 1 → segB ps[i].data.toList = true) := fun h i hi hik => by
          by_cases e : i = k
          · subst e; exact h
          · exact HL.out i hi (by omega)
        clear HL
        generalize ps[k] = p at *
        have HG : Hid (segB p.data.toList = (litB p.data.toList || (p.toList == [42] || (p.toList == [42, 42] || p.toList == [91, 93])))) := by
          show _ = _
          unfold segB
          rw [Lib.toList_data]
        cases e0 : litB p.data.toList
        · cases e1 : (p.toList == [42])
          · cases e2 : (p.toList == [42, 42])
            · cases e3 : (p.toList == [91, 93])
              · have HF : Hid (patB s.data.toList = false) := HN.out (by rw [HG.out, e0, e1, e2, e3]; rfl)
                go_wp2_with (first
                  | (go_at_call 211; refine (literal_any p _ hsz).mono ?_; rintro e w2 ⟨rfl, rfl⟩; rw [e0]))
                go_ret2
                first | exact ⟨_, _, _, by rw [HF.out]; rfl, HB2.out⟩ | exact ⟨⟨_, _, _, by rw [HF.out]; rfl⟩, HB2.out⟩
              · have hT := HY.out (by rw [HG.out, e0, e1, e2, e3]; rfl)
                have HT : Hid (∀ i (h : i < ps.length), i < k + 1 → segB ps[i].data.toList = true) := hT
                clear hT
                go_wp2_with (first
                  | (go_at_call 211; refine (literal_any p _ hsz).mono ?_; rintro e w2 ⟨rfl, rfl⟩; rw [e0]))
                go_roundg gg
                case measure => omega
                case rel => exact ⟨k + 1, by show _ = _; have := hk.out; omega, by go_num, rfl, HT.out⟩
            · have hT := HY.out (by rw [HG.out, e0, e1, e2]; rfl)
              have HT : Hid (∀ i (h : i < ps.length), i < k + 1 → segB ps[i].data.toList = true) := hT
              clear hT
              go_wp2_with (first
                | (go_at_call 211; refine (literal_any p _ hsz).mono ?_; rintro e w2 ⟨rfl, rfl⟩; rw [e0]))
              go_roundg gg
              case measure => omega
              case rel => exact ⟨k + 1, by show _ = _; have := hk.out; omega, by go_num, rfl, HT.out⟩
          · have hT := HY.out (by rw [HG.out, e0, e1]; rfl)
            have HT : Hid (∀ i (h : i < ps.length), i < k + 1 → segB ps[i].data.toList = true) := hT
            clear hT
            go_wp2_with (first
              | (go_at_call 211; refine (literal_any p _ hsz).mono ?_; rintro e w2 ⟨rfl, rfl⟩; rw [e0]))
            go_roundg gg
            case measure => omega
            case rel => exact ⟨k + 1, by show _ = _; have := hk.out; omega, by go_num, rfl, HT.out⟩
        · have hT := HY.out (by rw [HG.out, e0]; rfl)
          have HT : Hid (∀ i (h : i < ps.length), i < k + 1 → segB ps[i].data.toList = true) := hT
          clear hT
          go_wp2_with (first
            | (go_at_call 211; refine (literal_any p _ hsz).mono ?_; rintro e w2 ⟨rfl, rfl⟩; rw [e0]))
          go_roundg gg
          case measure => omega
          case rel => exact ⟨k + 1, by show _ = _; have := hk.out; omega, by go_num, rfl, HT.out⟩
  · have HP : Hid (patB s.data.toList = true) := by
      show _ = _
      unfold patB
      rw [← Lib.toList_data, hd, Bool.true_or]
    go_enter Tryz.func178, Tryz.ntmps178
    go_wp2
    go_ret2
    exact ⟨none, 0, 0, by rw [HP.out]; rfl, Below.refl _ _⟩
end Go.Proofs.YtllcbnfmihfaaaaGreatDoor
namespace Go.Proofs.YtllcbnfmihfaaaaGreatDoor
open Go.RowKit

/-- A map to integers: what it holds. -/
def ImAt (W : World) (kt : TypeId) (m n : Nat) (f : Lit → Option Nat) : Prop :=
  ∃ D : DataW Unit, W.ownsMap Tryz.prog kt (plainElem Tryz.prog 3) m n D ∧ ∀ l, Maps.has D l = (f l).isSome ∧ ∀ v : Nat, f l = some v → D.atKey l (.lit (.int .i64 0)) = .lit (.int .i64 v)
theorem ImAt.kept {W W' : World} {kt : TypeId} {m n : Nat} {f : Lit → Option Nat} {row : Option Nat} (h : ImAt W kt m n f) (hg : W.grownBy W' row) (hne : some m ≠ row) : ImAt W' kt m n f := by
  obtain ⟨D, h1, h2⟩ := h
  exact ⟨D, h1.kept hg hne, h2⟩
theorem ImAt.lt {W : World} {kt : TypeId} {m n : Nat} {f : Lit → Option Nat} (h : ImAt W kt m n f) : m < W.heap.size := by
  obtain ⟨D, h1, _⟩ := h
  exact h1.lt
theorem im_made (W : World) (kt : TypeId) : ImAt (W.alloc (.map #[] 0)) kt W.heap.size 0 (fun _ => none) :=
  ⟨_, World.ownsMap_made W Tryz.prog kt _, fun l => ⟨by simp [Maps.has], fun v h => by cases h⟩⟩
theorem zInt (W : World) : (zeroValue 3).run Tryz.prog W = .ok (.int .i64 0) W := by kernel_rfl
theorem im_val {W : World} {kt : TypeId} {m n : Nat} {f : Lit → Option Nat} {D : DataW Unit} (_h1 : W.ownsMap Tryz.prog kt (plainElem Tryz.prog 3) m n D) (h2 : ∀ l, Maps.has D l = (f l).isSome ∧ ∀ v : Nat, f l = some v → D.atKey l (.lit (.int .i64 0)) = .lit (.int .i64 v)) (kl : Lit) :
    D.atKey kl (.lit (.int .i64 0)) = .lit (.int .i64 (((f kl).getD 0 : Nat) : Int)) := by
  cases hf : f kl with
  | some v => exact (h2 kl).2 v hf
  | none =>
    have := (h2 kl).1
    rw [hf] at this
    exact Maps.atKey_of_not_has this _
theorem im_look {W : World} {kt t : TypeId} {m n : Nat} {f : Lit → Option Nat} (h : ImAt W kt m n f) (K : Maps.Keyed Tryz.prog kt) (ht : Tryz.prog.underlying t = some (.map kt 3)) {key : Value} {kl : Lit} (hk : keyOf Tryz.prog kt key = some kl) :
    (Instr.lookup t (.map (some m)) key false).run Tryz.prog W = .ok (.int .i64 (((f kl).getD 0 : Nat) : Int)) W := by
  obtain ⟨D, h1, h2⟩ := h
  obtain ⟨c, hr, hc, _⟩ := h1.lookup_int K ht Tryz.underlying3 (zInt W) hk
  rw [im_val h1 h2 kl] at hc
  have e : (((f kl).getD 0 : Nat) : Int) = c := by simpa using hc
  rw [hr, e]
theorem im_look_ok {W : World} {kt t : TypeId} {m n : Nat} {f : Lit → Option Nat} (h : ImAt W kt m n f) (K : Maps.Keyed Tryz.prog kt) (ht : Tryz.prog.underlying t = some (.map kt 3)) {key : Value} {kl : Lit} (hk : keyOf Tryz.prog kt key = some kl) :
    (Instr.lookup t (.map (some m)) key true).run Tryz.prog W = .ok (.tuple #[.int .i64 (((f kl).getD 0 : Nat) : Int), .bool (f kl).isSome]) W := by
  obtain ⟨D, h1, h2⟩ := h
  obtain ⟨v, ps, hr, hv⟩ := h1.look_ok K ht (zInt W) (plainElem_int Tryz.underlying3 (by decide)) hk
  rw [im_val h1 h2 kl] at hv
  obtain ⟨c, rfl, hc, _⟩ := plainElem_int_inv Tryz.underlying3 hv
  have e : (((f kl).getD 0 : Nat) : Int) = c := by
    have := congrArg Prod.fst hc
    simpa using this
  rw [hr, (h2 kl).1, e]
theorem im_store {W : World} {kt t : TypeId} {m n : Nat} {f : Lit → Option Nat} (h : ImAt W kt m n f) (K : Maps.Keyed Tryz.prog kt) (ht : Tryz.prog.underlying t = some (.map kt 3)) (hn : n < 1000000000) {key : Value} {kl : Lit} (hk : keyOf Tryz.prog kt key = some kl) (v : Nat) (hv : v < 1000000000) :
    ∃ w', (Instr.mapUpdate t (.map (some m)) key (.int .i64 v)).run Tryz.prog W = .ok () w' ∧ (∀ f' : Lit → Option Nat, f' kl = some v → (∀ l, l ≠ kl → f' l = f l) → ImAt w' kt m (n + 1) f') ∧ W.grownBy w' (some m) := by
  obtain ⟨D, h1, h2⟩ := h
  have hw : (Lit.int .i64 (v : Int)).wf = true := by
    have e1 : IntKind.i64.min = -9223372036854775808 := by kernel_rfl
    have e2 : IntKind.i64.max = 9223372036854775807 := by kernel_rfl
    simp [Lit.wf, e1, e2]
    omega
  obtain ⟨w', hr, ho, hT⟩ := h1.store K ht (by unfold maxLen; omega) hk (plainElem_int Tryz.underlying3 hw)
  refine ⟨w', hr, fun f' e1 e2 => ⟨_, ho, fun l => ?_⟩, hT.grown⟩
  by_cases e : l = kl
  · subst e
    refine ⟨(Maps.has_put_same h1.isMap (K.key hk) _).trans (by rw [e1]; rfl), fun u hu => ?_⟩
    have hu2 := Option.some.inj (e1.symm.trans hu)
    rw [← hu2]
    exact Maps.atKey_put_same h1.isMap (K.key hk) _ _
  · rw [e2 l e]
    exact ⟨(Maps.has_put_other e _).trans (h2 l).1, fun u hu => (Maps.atKey_put_other e _ _).trans ((h2 l).2 u hu)⟩
theorem plK : Maps.Keyed Tryz.prog 164 := Maps.Keyed.of_law pl_law
theorem mvK : Maps.Keyed Tryz.prog 320 := Maps.Keyed.of_law mv_law
end Go.Proofs.YtllcbnfmihfaaaaGreatDoor
namespace Go.Proofs.YtllcbnfmihfaaaaGreatDoor
open Go.RowKit

/-- What an automaton is made of, once it is compiled. -/
structure Aut where
  ra : Option Addr
  rc : Nat
  rs : List (List (Nat × List UInt8) × Int × Int)
  dflt : Int
  lm : Nat
  ln : Nat
  lf : Lit → Option Nat
  st : Nat → Nat
  tb : Nat
  L : Nat
  tc : Nat
  tk : Nat → Nat → Nat
  nb : Nat
  mb : Nat
def autC (q : Aut) (sv : Value) : Array Value := #[.slice q.ra q.rs.length q.rc, .int .i64 q.dflt, .map (some q.lm), .int .u16 (q.st 0), .int .u16 (q.st 1), .int .u16 (q.st 2), .int .u16 (q.st 3), .int .u16 (q.st 4), .int .u16 (q.st 5), .int .u16 (q.st 6), .int .u16 (q.st 7), .int .u16 (q.st 8), .int .u16 (q.st 9), .int .u16 (q.st 10), .int .u16 (q.st 11), .int .u16 (q.st 12), .int .u16 (q.st 13), .int .u16 (q.st 14), .int .u16 (q.st 15), .slice (some ⟨q.tb, 0, none⟩) q.L q.tc, sv, .map (some q.nb), .map (some q.mb)]
def stC (x : (Nat → Nat) × Int × Int) : List Value := (plA x.1).toList ++ [.int .i64 x.2.1, .int .i64 x.2.2]
/-- An automaton in memory, over the world W0 in which its rules lie. -/
structure AuAt (W0 : World) (A : Nat) (q : Aut) (sts : List ((Nat → Nat) × Int × Int)) (sv : Value) (nf : Lit → Option Nat) (mn : Nat) (mf : Lit → Option Nat) (W : World) : Prop where
  row : W.heap[A]? = some (.cells (autC q sv) 168)
  rules : PruAt W0 q.ra q.rs
  few : q.rs.length ≤ 16 ∧ ∀ i (h : i < q.rs.length), q.rs[i].1.length ≤ 8
  below : Below W0.heap.size W0 W
  letters : ImAt W 9 q.lm q.ln q.lf
  takes : ∃ cur, W.heap[q.tb]? = some (.cells cur 164) ∧ ∀ (x r : Nat), x < q.L → r < 16 → cur[x * 16 + r]? = some (.int .u16 (q.tk x r))
  states : W.ownsRow W0.heap.size 240 18 sv sts.length (sts.flatMap stC)
  numbers : ImAt W 164 q.nb sts.length nf
  moves : ImAt W 320 q.mb mn mf
  high : W0.heap.size ≤ A ∧ W0.heap.size ≤ q.lm ∧ W0.heap.size ≤ q.tb ∧ W0.heap.size ≤ q.nb ∧ W0.heap.size ≤ q.mb
  apart : A ≠ q.lm ∧ A ≠ q.tb ∧ A ≠ q.nb ∧ A ≠ q.mb ∧ q.lm ≠ q.tb ∧ q.lm ≠ q.nb ∧ q.lm ≠ q.mb ∧ q.tb ≠ q.nb ∧ q.tb ≠ q.mb ∧ q.nb ≠ q.mb
  own : ∀ g, sv.ownBlock = some g → g ≠ A ∧ g ≠ q.lm ∧ g ≠ q.tb ∧ g ≠ q.nb ∧ g ≠ q.mb
  bits : (∀ r, q.st r < 256) ∧ ∀ x r, q.tk x r < 256
  here : ∀ (i : Nat) (x : (Nat → Nat) × Int × Int), sts[i]? = some x → x.2 = jdg q.dflt q.rs x.1 0 ∧ ∀ r, x.1 r < 512
  num : ∀ (i : Nat) (x : (Nat → Nat) × Int × Int), sts[i]? = some x → ∀ l, keyOf Tryz.prog 164 (.agg (plA x.1)) = some l → nf l = some i
  num' : ∀ (l : Lit) (i : Nat), nf l = some i → ∃ x, sts[i]? = some x ∧ keyOf Tryz.prog 164 (.agg (plA x.1)) = some l
theorem yrowA {P : Program} {ev : Operand → Value} {W : World} {o : Oper} (ty : TypeId) (x : Operand) (ho : o.op = .load ty x)
    (g : Nat) (hx : ev x = .pointer (some ⟨g, 0, none⟩)) (t : TypeId) (cs : Array Value) (fr : Nat × Nat) (d : TypeDesc) (hg : W.heap[g]? = some (.cells cs t fr))
    (hu : P.underlying ty = some d) (hd : (match d with | .struct _ | .array _ _ => true | _ => false) = true) (hi : (P.info? ty).map (·.size) = some cs.size) :
    (execOp ev o).run P W = .ok (.value (.agg cs)) W := by
  unfold execOp
  simp only [ho, hx, Instr.loadAt, Instr.sureAddr, Sem.run_bind, Sem.run_pure, Result.andThen_ok, run_loadVar_row W g t ty cs fr d hg hu hd hi]
set_option maxRecDepth 100000 in
set_option maxHeartbeats 2000000 in
theorem number_known (W0 : World) (A : Nat) (q : Aut) (sts : List ((Nat → Nat) × Int × Int)) (sv : Value) (nf : Lit → Option Nat) (mn : Nat) (mf : Lit → Option Nat) (W : World) (h : AuAt W0 A q sts sv nf mn mf W) (Y : Nat → Nat) (l : Lit) (hl : keyOf Tryz.prog 164 (.agg (plA Y)) = some l) (i : Nat) (hi : nf l = some i) :
    Calls Tryz.prog 86 #[.pointer (some ⟨A, 0, none⟩), .agg (plA Y)] W fun e W' => e = .returned (.int .i64 i) ∧ Below W.heap.size W W' := by
  have HB : Hid ((W.alloc (.cells (plA Y) 164)).heap[W.heap.size]? = some (.cells (plA Y) 164)) := heap_new _ _
  have hA : A < W.heap.size := (Array.getElem?_eq_some_iff.1 h.row).1
  have c21 : W.cell? ⟨A, 21, none⟩ = some (.map (some q.nb)) := cellOfHeap h.row 21
  have HI : Hid (ImAt (W.alloc (.cells (plA Y) 164)) 164 q.nb sts.length nf) := h.numbers.kept (World.grownBy_alloc W (.cells (plA Y) 164) none) (by simp)
  clear h
  go_enter Tryz.func86, Tryz.ntmps86
  go_wp2
  have hS : (fun Z : World => Z.cell? ⟨A, 21, none⟩ = some (.map (some q.nb)) ∧ Z.heap[W.heap.size]? = some (.cells (plA Y) 164) ∧ ImAt Z 164 q.nb sts.length nf) { W.alloc (.cells (plA Y) 164) with drawn := (W.alloc (.cells (plA Y) 164)).drawn + 1 } := ⟨((((Below.refl W.heap.size W).alloc (Nat.le_refl _) (.cells (plA Y) 164)).cell (p := ⟨A, 21, none⟩) hA).trans c21 :), HB.out, HI.out⟩
  refine wp_region_held (S := fun Z => Z.cell? ⟨A, 21, none⟩ = some (.map (some q.nb)) ∧ Z.heap[W.heap.size]? = some (.cells (plA Y) 164) ∧ ImAt Z 164 q.nb sts.length nf) (by kernel_rfl) ?_
  refine tkH 0 10 (.pointer (some ⟨A, 0, none⟩)) rfl (by kernel_rfl) (fun _ _ _ h => h) (fun Z hZ => by kernel_rfl) hS ?_
  refine tkH 1 11 (.pointer (some ⟨A, 0, none⟩)) rfl (by kernel_rfl) (fun _ _ _ h => h) (fun Z hZ => by kernel_rfl) hS ?_
  refine tkH 2 12 (.pointer (some ⟨A, 21, none⟩)) rfl (by kernel_rfl) (fun _ _ _ h => h) (fun Z hZ => by kernel_rfl) hS ?_
  refine tkH 3 13 (.map (some q.nb)) rfl (by kernel_rfl) (fun _ _ _ h => h) (fun Z hZ => ?y3) hS ?_
  case y3 => (have z1 := hZ.1; go_simp)
  refine tkH 4 14 (.agg (plA Y)) rfl (by kernel_rfl) (fun _ _ _ h => h) (fun Z hZ => ?y4) hS ?_
  case y4 => exact yrowA 164 (.tmp 3) rfl W.heap.size rfl _ _ _ _ hZ.2.1 Tryz.underlying164 rfl (infoPl Y)
  refine tkH 5 15 (.tuple #[.int .i64 i, .bool true]) rfl (by kernel_rfl) (fun _ _ _ h => h) (fun Z hZ => ?y5) hS ?_
  case y5 => (have z2 := im_look_ok hZ.2.2 plK Tryz.underlying160 hl; rw [hi] at z2; go_simp)
  refine tkH 6 9 (.tuple #[.int .i64 i, .bool true]) rfl (by kernel_rfl) (fun _ _ _ h => h) (fun Z hZ => by kernel_rfl) hS ?_
  refine tkH 7 16 (.int .i64 i) rfl (by kernel_rfl) (fun _ _ _ h => h) (fun Z hZ => by kernel_rfl) hS ?_
  refine tkH 8 17 (.bool true) rfl (by kernel_rfl) (fun _ _ _ h => h) (fun Z hZ => by kernel_rfl) hS ?_
  refine tkH 9 5 (.int .i64 i) rfl (by kernel_rfl) (fun _ _ _ h => h) (fun Z hZ => by kernel_rfl) hS ?_
  refine tkH 10 6 (.bool true) rfl (by kernel_rfl) (fun _ _ _ h => h) (fun Z hZ => by kernel_rfl) hS ?_
  refine wpAnyH_done (by kernel_rfl) ?_ _
  go_simp
  go_wp2
  go_ret
  exact ⟨rfl, ((Below.refl _ _).alloc (Nat.le_refl _) _).drew⟩
end Go.Proofs.YtllcbnfmihfaaaaGreatDoor
