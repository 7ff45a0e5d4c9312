import Derived.Test.YtllcbnfmihfaaaaGreatDoorPolC
import Derived.Test.YtllcbnfmihfaaaaGreatDoorSplM
import Derived.WalkKit
import Derived.BigCall
import Derived.Maps.AppendAt
namespace Go.Proofs.YtllcbnfmihfaaaaGreatDoor
open Go.RowKit

theorem Tryz.infoStr : (Tryz.prog.info? 9).map (fun i => (i.zero, i.size, i.bytes)) = some (some (.string ByteArray.empty), 1, 16) := by kernel_rfl

theorem ext_list (s : ByteArray) (a b : Nat) : (s.extract a b).data.toList = (s.data.toList.take b).drop a := by
  rw [Lib.extract_data]; simp [List.drop_take]

/-- The parts so far: what is left is the parts from f on. -/
structure Cut (c : UInt8) (l : List UInt8) (ps : List ByteArray) (f i : Nat) : Prop where
  fi : f ≤ i
  il : i ≤ l.length
  len : ps.length ≤ i
  eq : splitL c l = ps.map (·.data.toList) ++ splitL c (l.drop f)
  no : ∀ x, x ∈ (l.take i).drop f → (x == c) = false
theorem Cut.next {c : UInt8} {l : List UInt8} {ps : List ByteArray} {f i : Nat} (h : Cut c l ps f i) (hi : i < l.length) (hx : (l[i] == c) = false) : Cut c l ps f (i + 1) := by
  refine ⟨by have := h.fi; omega, hi, by have := h.len; omega, h.eq, fun x hx' => ?_⟩
  rw [List.take_succ_eq_append_getElem hi, List.drop_append_of_le_length (by rw [List.length_take]; have := h.fi; omega), List.mem_append] at hx'
  rcases hx' with h1 | h1
  · exact h.no x h1
  · rw [List.mem_singleton] at h1; rw [h1]; exact hx
theorem Cut.found {c : UInt8} {l : List UInt8} {ps : List ByteArray} {f i : Nat} (h : Cut c l ps f i) (hi : i < l.length) (hx : l[i] = c) (p : ByteArray) (hp : p.data.toList = (l.take i).drop f) : Cut c l (ps ++ [p]) (i + 1) (i + 1) := by
  refine ⟨Nat.le_refl _, hi, by rw [List.length_append]; have := h.len; simp; omega, ?_, fun x hx' => ?_⟩
  · rw [h.eq, List.map_append, List.append_assoc]
    congr 1
    have e : l.drop f = (l.take i).drop f ++ c :: l.drop (i + 1) := by
      conv => lhs; rw [← List.take_append_drop i l]
      rw [List.drop_append_of_le_length (by rw [List.length_take]; have := h.fi; omega), List.drop_eq_getElem_cons hi, hx]
    rw [e, splitL_found c _ _ h.no, ← hp]
    rfl
  · rw [List.drop_eq_nil_of_le (by rw [List.length_take]; omega)] at hx'
    exact absurd hx' (by simp)
theorem Cut.last {c : UInt8} {l : List UInt8} {ps : List ByteArray} {f : Nat} (h : Cut c l ps f l.length) (p : ByteArray) (hp : p.data.toList = l.drop f) : splitL c l = (ps ++ [p]).map (·.data.toList) := by
  rw [h.eq, List.map_append]
  congr 1
  have := h.no
  rw [List.take_length] at this
  rw [splitL_none c _ this, ← hp]
  rfl

set_option maxRecDepth 100000 in
set_option maxHeartbeats 2000000 in
theorem split_any (s : ByteArray) (c : UInt8) (cc : Int) (hcc : cc = c.toNat) (w : World) (hs : s.size ≤ 100000) :
    Calls Tryz.prog 129 #[.string s, .int .u8 cc] w fun e w' =>
      ∃ (v : Value) (ps : List ByteArray), e = .returned v ∧ w'.ownsRow w.heap.size 9 1 v ps.length (ps.map Value.string) ∧ Below w.heap.size w w' ∧ ps.map (·.data.toList) = splitL c s.data.toList := by
  obtain ⟨i0, hi, hz0, hz1, hz2⟩ := info_parts Tryz.infoStr
  have hl : s.data.toList.length = s.size := Array.length_toList
  have HCC : Hid (cc = c.toNat) := hcc
  clear hcc
  go_enter Tryz.func129, Tryz.ntmps129
  go_wp2
  go_loopg [5, 6, 7] s.size (fun g v x y wr => ∃ (ps : List ByteArray) (f i : Nat) (ao : Option Addr) (cv : Nat), Hid (i + g = s.size) ∧ v = .slice ao ps.length cv ∧ x = .int .i64 f ∧ y = .int .i64 i ∧ Hid (wr.ownsRow w.heap.size 9 1 v ps.length (ps.map Value.string)) ∧ Hid (Below w.heap.size w wr) ∧ Hid (Cut c s.data.toList ps f i))
  case atStart =>
    exact ⟨[], 0, 0, none, 0, by show _ = _; omega, rfl, rfl, rfl, World.ownsRow_nil _ _ _ _, Below.refl _ _, ⟨Nat.le_refl _, Nat.zero_le _, Nat.le_refl _, by simp, fun x hx => by simp at hx⟩⟩
  case round =>
    obtain ⟨ps, f, i, ao, cv, hig, rfl, rfl, rfl, HO, HB, HC⟩ := hrel
    have hfi : f ≤ i := HC.out.fi
    have hpl : ps.length ≤ i := HC.out.len
    have hsize := HB.out.size
    have his : i ≤ s.size := by have := hig.out; omega
    cases gk with
    | zero =>
      have hlt : ¬ (i : Int) < s.size := by have := hig.out; omega
      have hfs : f ≤ s.size := by omega
      go_wp2_with (first
        | (at_builtin; refine wpList_append_own _ rfl _ _ 57 rfl w.heap.size 9 i0 (.string ByteArray.empty) 1 16 Tryz.underlying57 hi hz0 hz1 hz2 rfl (by decide) _ _ _ rfl (HO.out.alloc _) ⟨wr.heap.size, 0, none⟩ 1 1 [.string (s.extract f s.size)] rfl rfl (cell_one_new _ _ _) (fun x hx => by simp at hx; subst hx; rfl) (by unfold maxLen; omega) (by omega) (by simp; omega) ?_; intro v' w3 hown' hgrow3 hnil3))
      go_ret
      have hie : i = s.data.toList.length := by have := hig.out; omega
      have hC := HC.out
      subst hie
      exact ⟨v', rfl, ps ++ [s.extract f s.size], by rw [List.length_append, List.map_append]; exact hown', (HB.out.alloc hsize _).grown hgrow3 (by simp; omega) (fun q hq => (HO.out.lt q hq).1), (hC.last _ (Lib.extract_to_end s f)).symm⟩
    | succ g =>
      have hlt : (i : Int) < s.size := by have := hig.out; omega
      have hn : i < s.size := by omega
      by_cases hc : (s[i].toNat : Int) = cc
      · have hce : ((s[i].toNat : Int) == cc) = true := by rw [beq_iff_eq]; exact hc
        go_wp2_with (first
          | (at_builtin; refine wpList_append_own _ rfl _ _ 57 rfl w.heap.size 9 i0 (.string ByteArray.empty) 1 16 Tryz.underlying57 hi hz0 hz1 hz2 rfl (by decide) _ _ _ rfl (HO.out.alloc _) ⟨wr.heap.size, 0, none⟩ 1 1 [.string (s.extract f i)] rfl rfl (cell_one_new _ _ _) (fun x hx => by simp at hx; subst hx; rfl) (by unfold maxLen; omega) (by omega) (by simp; omega) ?_; intro v' w3 hown' hgrow3 hnil3))
        go_roundg g
        case measure => omega
        case rel =>
          obtain ⟨g3, cap3, hv3⟩ : ∃ g3 cap3, v' = .slice (some ⟨g3, 0, none⟩) (ps.length + 1) cap3 := by
            rcases hown'.2 with ⟨_, h⟩ | ⟨g3, cap3, _, h, _⟩
            · omega
            · exact ⟨g3, cap3, h⟩
          have hx : s.data.toList[i] = c := by
            have e : s[i].toNat = c.toNat := by have := HCC.out; omega
            exact UInt8.toNat_inj.1 e
          exact ⟨ps ++ [s.extract f i], i + 1, i + 1, some ⟨g3, 0, none⟩, cap3, by show _ = _; have := hig.out; omega, by rw [hv3, List.length_append]; rfl, by go_num, by go_num, by show World.ownsRow _ _ _ _ _ _ _; rw [List.length_append, List.map_append]; exact hown', (HB.out.alloc hsize _).grown hgrow3 (by simp; omega) (fun q hq => (HO.out.lt q hq).1), HC.out.found (by omega) hx _ (ext_list s f i)⟩
      · have hce : ((s[i].toNat : Int) == cc) = false := by rw [beq_eq_false_iff_ne]; exact hc
        go_wp2
        go_roundg g
        case measure => omega
        case rel =>
          refine ⟨ps, f, i + 1, ao, cv, by show _ = _; have := hig.out; omega, rfl, rfl, by go_num, HO.out, HB.out, HC.out.next (by omega) ?_⟩
          rw [beq_eq_false_iff_ne]
          intro e
          exact hc (by rw [HCC.out, ← e]; rfl)
end Go.Proofs.YtllcbnfmihfaaaaGreatDoor
