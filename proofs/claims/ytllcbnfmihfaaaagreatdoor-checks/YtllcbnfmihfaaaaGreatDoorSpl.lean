import Derived.Test.YtllcbnfmihfaaaaGreatDoorBase
import Derived.Test.YtllcbnfmihfaaaaGreatDoorIter
import Derived.Test.YtllcbnfmihfaaaaGreatDoorSplM
import Derived.Test.YtllcbnfmihfaaaaGreatDoorShelf
import Derived.RangeFuncBound
import Derived.RangeFuncCalls
import Derived.RangeFuncLeaves
import Derived.Shelf.Abstract
import Derived.OwnWalkIn
import Derived.TacticsInMore
import Derived.LoopNIn
import Derived.LoopIn
import Derived.Sort.LoopGhostIn
import Derived.Lib.Strings
import Derived.Lib.IndexBytes
namespace Go.Proofs.YtllcbnfmihfaaaaGreatDoor
open Go.RowKit Go.Shelf
attribute [local go_sem] Oper.semAt_some

set_option maxHeartbeats 400000 in
theorem splitSeq_any (s c : ByteArray) (w : World) :
    Calls Tryz.prog 135 #[.string s, .string c] w fun e w' =>
      e = .returned (.func (.func 213) #[] #[.pointer (some ⟨w.heap.size + 1, 0, none⟩), .pointer (some ⟨w.heap.size, 0, none⟩), .pointer (some ⟨w.heap.size + 1 + 1, 0, none⟩)]) ∧
      w' = ((w.alloc (.cells #[.string s] 9)).alloc (.cells #[.string c] 9)).alloc (.cells #[.int .i64 0] 3) := by
  go_enter Tryz.func135, Tryz.ntmps135
  go_wp2
  go_ret
  exact ⟨rfl, rfl⟩

/-- A string of at most 2000 bytes. -/
abbrev Str := { s : ByteArray // s.size ≤ 2000 }
def lst (x : Str) : List UInt8 := x.1.data.toList

/-- What the iterator stands on: the rest of the text, the separator, nothing kept of it. -/
structure SplAt (k : Nat) (c : UInt8) (W : World) (r : ByteArray) : Prop where
  rest : W.heap[k]? = some (.cells #[.string r] 9)
  sep : W.heap[k + 1]? = some (.cells #[.string ⟨#[c]⟩] 9)
  save : W.heap[k + 1 + 1]? = some (.cells #[.int .i64 0] 3)
theorem SplAt.keep {k : Nat} {c : UInt8} {W W' : World} {r : ByteArray} (h : SplAt k c W r) (hk : KeepR k (k + 3) W W') : SplAt k c W' r :=
  ⟨(hk.same _ (by omega) (by omega)).trans h.rest, (hk.same _ (by omega) (by omega)).trans h.sep, (hk.same _ (by omega) (by omega)).trans h.save⟩
theorem SplAt.store {k : Nat} {c : UInt8} {W : World} {r : ByteArray} (h : SplAt k c W r) (r' : ByteArray) : SplAt k c (W.setCell ⟨k, 0, none⟩ (.string r')) r' :=
  ⟨by rw [heap_setCell_same W _ _ _ _ _ h.rest]; rfl, (heap_setCell_other W _ _ _ (by simp)).trans h.sep, (heap_setCell_other W _ _ _ (by simp; omega)).trans h.save⟩
theorem grown_setCell (W : World) (k o : Nat) (v : Value) : W.grownBy (W.setCell ⟨k, o, none⟩ v) (some k) :=
  ⟨rfl, rfl, rfl, by simp [World.setCell], fun i _ hne => heap_setCell_other W _ _ _ (by intro e; exact hne (by rw [e]))⟩

theorem ext_take (s : ByteArray) (o : Nat) : (s.extract 0 o).data.toList = s.data.toList.take o := by
  rw [Lib.extract_data]; simp
theorem ext_drop (s : ByteArray) (o : Nat) : (s.extract o s.size).data.toList = s.data.toList.drop o := by
  exact Lib.extract_to_end s o
theorem ext_size0 (s : ByteArray) (o : Nat) (h : o ≤ s.size) : (s.extract 0 o).size = o := by simp [ByteArray.size_extract]; omega
theorem ext_size1 (s : ByteArray) (o : Nat) : (s.extract o s.size).size = s.size - o := by simp [ByteArray.size_extract]

set_option maxRecDepth 100000 in
set_option maxHeartbeats 2000000 in
theorem split_seq (n : Nat) (k : Nat) (c : UInt8) (s : Str) (w : World) (hA : SplAt k c w s.1) :
    SeqSt Fence.wide n Tryz.prog 213 #[.pointer (some ⟨k + 1, 0, none⟩), .pointer (some ⟨k, 0, none⟩), .pointer (some ⟨k + 1 + 1, 0, none⟩)]
      (fun x : Str => #[.string x.1]) k (k + 3) k (fun xs => xs.map lst = splitL c (lst s)) (fun pre => ∃ r, splitL c (lst s) = pre.map lst ++ r) w := by
  intro l J Jx W hW hJ hJx hY h0
  have hlt : k + 1 + 1 < w.heap.size := (Array.getElem?_eq_some_iff.1 hA.save).1
  have HS : Hid (SplAt k c W s.1) := ⟨(hW.block _ (by omega)).trans hA.rest, (hW.block _ (by omega)).trans hA.sep, (hW.block _ (by omega)).trans hA.save⟩
  have HJ : Hid (BearsSt k J) := hJ
  have HJx : Hid (BearsSt k Jx) := hJx
  have HY : Hid (∀ pre x W1, J pre W1 → YieldAt Fence.wide (n - 1) Tryz.prog l #[.string x.1] W1 fun e W' =>
      (e = .returned (.bool true) ∧ J (pre ++ [x]) W' ∧ KeepR k (k + 3) W1 W') ∨ (e = .returned (.bool false) ∧ Jx (pre ++ [x]) W')) := hY
  have H0 : Hid (J [] W) := h0
  clear hA hlt hW hJ hJx hY h0
  have hc1 := cellOfHeap HS.out.sep 0
  refine callsIn_of_wp Tryz.func213 rfl trivial ?_ rfl
  simp only [Tryz.ntmps213, List.size_toArray, List.length_cons, List.length_nil, Nat.reduceAdd, Nat.reduceSub, Array.replicate_succ, Array.replicate_zero, List.push_toArray, List.append_toArray, List.nil_append, List.cons_append]
  gi_wp2
  gi_loopg [7, 8] 2001 (fun g x y wr => ∃ (pre : List Str) (r : Str), r.1.size < g ∧ Hid (splitL c (lst s) = pre.map lst ++ splitL c (lst r)) ∧ Hid (SplAt k c wr r.1) ∧ Hid (J pre wr))
  case atStart => exact ⟨[], s, by have := s.2; omega, rfl, HS, H0⟩
  case round =>
    clear HS hc1 H0
    obtain ⟨pre, r, hg, HE, HS, HP⟩ := hrel
    have hcr := cellOfHeap HS.out.rest 0
    have hcs := cellOfHeap HS.out.sep 0
    have hcv := cellOfHeap HS.out.save 0
    rcases Int.lt_or_le (Lib.indexByte (lst r) c) 0 with hneg | hpos
    · have hm1 : Lib.indexByte (lst r) c = -1 := by have := Lib.indexByte_ge (lst r) c; omega
      have HF : Hid (splitL c (lst s) = pre.map lst ++ [lst r]) := by show _ = _; rw [HE.out, index_split_none hm1]
      clear HE hneg
      have hm2 : Lib.indexByte r.1.data.toList c = -1 := hm1
      clear hm1
      obtain ⟨fn, tmps, assign, body, hy, hR⟩ := HY.out pre r wr HP.out
      gi_wp2_with fail
      refine ⟨trivial, (fun h => by cases h), ?_⟩
      refine (callsIn_wide.2 (Tryz.strings_Index_one r.1 c _)).mono ?_
      rintro e w2 ⟨rfl, rfl⟩
      gi_wp2
      refine ⟨(fun h => by cases h), hR.mono ?_⟩
      rintro e W3 (⟨rfl, hJ3, hk3⟩ | ⟨rfl, hJx3⟩)
      · gi_wp2
        go_end0
        exact ⟨⟨_, rfl⟩, .inl ⟨pre ++ [r], by rw [HF.out]; simp, hJ3⟩⟩
      · gi_wp2
        go_end0
        exact ⟨⟨_, rfl⟩, .inr ⟨pre ++ [r], ⟨[], by rw [HF.out]; simp⟩, hJx3⟩⟩
    · obtain ⟨o, ho⟩ := Int.eq_ofNat_of_zero_le hpos
      obtain ⟨hol, hsp⟩ := index_split_some ho
      have hm2 : Lib.indexByte r.1.data.toList c = o := ho
      have hor : o < r.1.size := by simpa [lst] using hol
      have hr2 := r.2
      have HM : Hid (splitL c (lst s) = pre.map lst ++ ((lst r).take o :: splitL c ((lst r).drop (o + 1)))) := by show _ = _; rw [HE.out, hsp]
      clear HE hsp hpos ho hol
      have hx : (r.1.extract 0 o).size ≤ 2000 := by rw [ext_size0 _ _ (by omega)]; omega
      have hr : (r.1.extract (o + 1) r.1.size).size ≤ 2000 := by rw [ext_size1]; omega
      have HM2 : Hid (splitL c (lst s) = (pre ++ [(⟨r.1.extract 0 o, hx⟩ : Str)]).map lst ++ splitL c (lst (⟨r.1.extract (o + 1) r.1.size, hr⟩ : Str))) := by
        show _ = _
        rw [HM.out]
        simp only [List.map_append, List.map_cons, List.map_nil, lst]
        rw [ext_take, ext_drop, List.append_assoc]
        rfl
      have hsz : (r.1.extract (o + 1) r.1.size).size < r.1.size := by rw [ext_size1]; omega
      clear HM
      obtain ⟨fn, tmps, assign, body, hy, hR⟩ := HY.out pre ⟨r.1.extract 0 o, hx⟩ wr HP.out
      dsimp only at hy
      gi_wp2_with fail
      refine ⟨trivial, (fun h => by cases h), ?_⟩
      refine (callsIn_wide.2 (Tryz.strings_Index_one r.1 c _)).mono ?_
      rintro e w2 ⟨rfl, rfl⟩
      gi_wp2
      refine ⟨(fun h => by cases h), hR.mono ?_⟩
      rintro e W3 (⟨rfl, hJ3, hk3⟩ | ⟨rfl, hJx3⟩)
      · have HS3 : Hid (SplAt k c W3 r.1) := HS.out.keep hk3
        clear hcr hcs hcv
        have hcr := cellOfHeap HS3.out.rest 0
        have hcs := cellOfHeap HS3.out.sep 0
        have hfr := frozen_of_row W3 k 0 _ _ HS3.out.rest
        have HJ3 : Hid (J (pre ++ [⟨r.1.extract 0 o, hx⟩]) W3) := hJ3
        clear hJ3 hk3 HS
        gi_wp2
        gi_roundg ((r.1.extract (o + 1) r.1.size).size + 1)
        case measure => omega
        case rel => exact ⟨pre ++ [⟨r.1.extract 0 o, hx⟩], ⟨r.1.extract (o + 1) r.1.size, hr⟩, Nat.lt_succ_self _, HM2, HS3.out.store _, HJ.out _ _ _ HJ3.out (grown_setCell W3 k 0 _)⟩
      · have HJ3 : Hid (Jx (pre ++ [⟨r.1.extract 0 o, hx⟩]) W3) := hJx3
        clear hJx3
        gi_wp2
        refine bodyPost_ret (results_none rfl _ _ _) rfl ?_
        exact ⟨⟨_, rfl⟩, .inr ⟨_, ⟨_, HM2.out⟩, HJ3.out⟩⟩
end Go.Proofs.YtllcbnfmihfaaaaGreatDoor
