import Derived.Test.YtllcbnfmihfaaaaGreatDoorShelf
import Derived.RangeFuncBound
import Derived.RangeFuncCalls
import Derived.RangeFuncLeaves
import Derived.Shelf.Abstract
import Derived.OwnWalkIn
import Derived.TacticsInMore
import Derived.LoopNIn
import Derived.LoopIn
import Derived.Sort.LoopGhostIn
import Derived.Lib.Strings
import Derived.Lib.IndexBytes
import Derived.Test.YtllcbnfmihfaaaaGreatDoorLq00
import Derived.Test.YtllcbnfmihfaaaaGreatDoorLq02
import Derived.Test.YtllcbnfmihfaaaaGreatDoorLq09
import Derived.Test.YtllcbnfmihfaaaaGreatDoorLq14
namespace Go.Proofs.YtllcbnfmihfaaaaGreatDoor
open Go.RowKit Go.Shelf
attribute [local go_sem] Oper.semAt_some

set_option maxHeartbeats 400000 in
theorem splitSeq_any (s c : ByteArray) (w : World) :
    Calls Tryz.prog 135 #[.string s, .string c] w fun e w' =>
      e = .returned (.func (.func 213) #[] #[.pointer (some ⟨w.heap.size + 1, 0, none⟩), .pointer (some ⟨w.heap.size, 0, none⟩), .pointer (some ⟨w.heap.size + 1 + 1, 0, none⟩)]) ∧
      w' = ((w.alloc (.cells #[.string s] 9)).alloc (.cells #[.string c] 9)).alloc (.cells #[.int .i64 0] 3) := by
  go_enter Tryz.func135, Tryz.ntmps135
  go_wp2
  go_ret
  exact ⟨rfl, rfl⟩

/-- A string of at most 2000 bytes. -/
abbrev Str := { s : ByteArray // s.size ≤ 2000 }
def lst (x : Str) : List UInt8 := x.1.data.toList

/-- What the iterator stands on: the rest of the text, the separator, nothing kept of it. -/
structure SplAt (k : Nat) (c : UInt8) (W : World) (r : ByteArray) : Prop where
  rest : W.heap[k]? = some (.cells #[.string r] 9)
  sep : W.heap[k + 1]? = some (.cells #[.string ⟨#[c]⟩] 9)
  save : W.heap[k + 1 + 1]? = some (.cells #[.int .i64 0] 3)
theorem SplAt.keep {k : Nat} {c : UInt8} {W W' : World} {r : ByteArray} (h : SplAt k c W r) (hk : KeepR k (k + 3) W W') : SplAt k c W' r :=
  ⟨(hk.same _ (by omega) (by omega)).trans h.rest, (hk.same _ (by omega) (by omega)).trans h.sep, (hk.same _ (by omega) (by omega)).trans h.save⟩
theorem SplAt.store {k : Nat} {c : UInt8} {W : World} {r : ByteArray} (h : SplAt k c W r) (r' : ByteArray) : SplAt k c (W.setCell ⟨k, 0, none⟩ (.string r')) r' :=
  ⟨by rw [heap_setCell_same W _ _ _ _ _ h.rest]; rfl, (heap_setCell_other W _ _ _ (by simp)).trans h.sep, (heap_setCell_other W _ _ _ (by simp; omega)).trans h.save⟩
theorem grown_setCell (W : World) (k o : Nat) (v : Value) : W.grownBy (W.setCell ⟨k, o, none⟩ v) (some k) :=
  ⟨rfl, rfl, rfl, by simp [World.setCell], fun i _ hne => heap_setCell_other W _ _ _ (by intro e; exact hne (by rw [e]))⟩

theorem ext_take (s : ByteArray) (o : Nat) : (s.extract 0 o).data.toList = s.data.toList.take o := by
  rw [Lib.extract_data]; simp
theorem ext_drop (s : ByteArray) (o : Nat) : (s.extract o s.size).data.toList = s.data.toList.drop o := by
  exact Lib.extract_to_end s o
theorem ext_size0 (s : ByteArray) (o : Nat) (h : o ≤ s.size) : (s.extract 0 o).size = o := by simp [ByteArray.size_extract]; omega
theorem ext_size1 (s : ByteArray) (o : Nat) : (s.extract o s.size).size = s.size - o := by simp [ByteArray.size_extract]

set_option maxRecDepth 100000 in
set_option maxHeartbeats 2000000 in
theorem split_seq (n : Nat) (k : Nat) (c : UInt8) (s : Str) (w : World) (hA : SplAt k c w s.1) :
    SeqSt Fence.wide n Tryz.prog 213 #[.pointer (some ⟨k + 1, 0, none⟩), .pointer (some ⟨k, 0, none⟩), .pointer (some ⟨k + 1 + 1, 0, none⟩)]
      (fun x : Str => #[.string x.1]) k (k + 3) k (fun xs => xs.map lst = splitL c (lst s)) (fun pre => ∃ r, splitL c (lst s) = pre.map lst ++ r) w := by
  intro l J Jx W hW hJ hJx hY h0
  have hlt : k + 1 + 1 < w.heap.size := (Array.getElem?_eq_some_iff.1 hA.save).1
  have HS : Hid (SplAt k c W s.1) := ⟨(hW.block _ (by omega)).trans hA.rest, (hW.block _ (by omega)).trans hA.sep, (hW.block _ (by omega)).trans hA.save⟩
  have HJ : Hid (BearsSt k J) := hJ
  have HJx : Hid (BearsSt k Jx) := hJx
  have HY : Hid (∀ pre x W1, J pre W1 → YieldAt Fence.wide (n - 1) Tryz.prog l #[.string x.1] W1 fun e W' =>
      (e = .returned (.bool true) ∧ J (pre ++ [x]) W' ∧ KeepR k (k + 3) W1 W') ∨ (e = .returned (.bool false) ∧ Jx (pre ++ [x]) W')) := hY
  have H0 : Hid (J [] W) := h0
  clear hA hlt hW hJ hJx hY h0
  have hc1 := cellOfHeap HS.out.sep 0
  refine callsIn_of_wp Tryz.func213 rfl trivial ?_ rfl
  simp only [Tryz.ntmps213, List.size_toArray, List.length_cons, List.length_nil, Nat.reduceAdd, Nat.reduceSub, Array.replicate_succ, Array.replicate_zero, List.push_toArray, List.append_toArray, List.nil_append, List.cons_append]
  gi_wp2
  gi_loopg [7, 8] 2001 (fun g x y wr => ∃ (pre : List Str) (r : Str), r.1.size < g ∧ Hid (splitL c (lst s) = pre.map lst ++ splitL c (lst r)) ∧ Hid (SplAt k c wr r.1) ∧ Hid (J pre wr))
  case atStart => exact ⟨[], s, by have := s.2; omega, rfl, HS, H0⟩
  case round =>
    clear HS hc1 H0
    obtain ⟨pre, r, hg, HE, HS, HP⟩ := hrel
    have hcr := cellOfHeap HS.out.rest 0
    have hcs := cellOfHeap HS.out.sep 0
    have hcv := cellOfHeap HS.out.save 0
    rcases Int.lt_or_le (Lib.indexByte (lst r) c) 0 with hneg | hpos
    · have hm1 : Lib.indexByte (lst r) c = -1 := by have := Lib.indexByte_ge (lst r) c; omega
      have HF : Hid (splitL c (lst s) = pre.map lst ++ [lst r]) := by show _ = _; rw [HE.out, index_split_none hm1]
      clear HE hneg
      have hm2 : Lib.indexByte r.1.data.toList c = -1 := hm1
      clear hm1
      obtain ⟨fn, tmps, assign, body, hy, hR⟩ := HY.out pre r wr HP.out
      gi_wp2_with fail
      refine ⟨trivial, (fun h => by cases h), ?_⟩
      refine (callsIn_wide.2 (Tryz.strings_Index_one r.1 c _)).mono ?_
      rintro e w2 ⟨rfl, rfl⟩
      gi_wp2
      refine ⟨(fun h => by cases h), hR.mono ?_⟩
      rintro e W3 (⟨rfl, hJ3, hk3⟩ | ⟨rfl, hJx3⟩)
      · gi_wp2
        go_end0
        exact ⟨⟨_, rfl⟩, .inl ⟨pre ++ [r], by rw [HF.out]; simp, hJ3⟩⟩
      · gi_wp2
        go_end0
        exact ⟨⟨_, rfl⟩, .inr ⟨pre ++ [r], ⟨[], by rw [HF.out]; simp⟩, hJx3⟩⟩
    · obtain ⟨o, ho⟩ := Int.eq_ofNat_of_zero_le hpos
      obtain ⟨hol, hsp⟩ := index_split_some ho
      have hm2 : Lib.indexByte r.1.data.toList c = o := ho
      have hor : o < r.1.size := by simpa [lst] using hol
      have hr2 := r.2
      have HM : Hid (splitL c (lst s) = pre.map lst ++ ((lst r).take o :: splitL c ((lst r).drop (o + 1)))) := by show _ = _; rw [HE.out, hsp]
      clear HE hsp hpos ho hol
      have hx : (r.1.extract 0 o).size ≤ 2000 := by rw [ext_size0 _ _ (by omega)]; omega
      have hr : (r.1.extract (o + 1) r.1.size).size ≤ 2000 := by rw [ext_size1]; omega
      have HM2 : Hid (splitL c (lst s) = (pre ++ [(⟨r.1.extract 0 o, hx⟩ : Str)]).map lst ++ splitL c (lst (⟨r.1.extract (o + 1) r.1.size, hr⟩ : Str))) := by
        show _ = _
        rw [HM.out]
        simp only [List.map_append, List.map_cons, List.map_nil, lst]
        rw [ext_take, ext_drop, List.append_assoc]
        rfl
      have hsz : (r.1.extract (o + 1) r.1.size).size < r.1.size := by rw [ext_size1]; omega
      clear HM
      obtain ⟨fn, tmps, assign, body, hy, hR⟩ := HY.out pre ⟨r.1.extract 0 o, hx⟩ wr HP.out
      dsimp only at hy
      gi_wp2_with fail
      refine ⟨trivial, (fun h => by cases h), ?_⟩
      refine (callsIn_wide.2 (Tryz.strings_Index_one r.1 c _)).mono ?_
      rintro e w2 ⟨rfl, rfl⟩
      gi_wp2
      refine ⟨(fun h => by cases h), hR.mono ?_⟩
      rintro e W3 (⟨rfl, hJ3, hk3⟩ | ⟨rfl, hJx3⟩)
      · have HS3 : Hid (SplAt k c W3 r.1) := HS.out.keep hk3
        clear hcr hcs hcv
        have hcr := cellOfHeap HS3.out.rest 0
        have hcs := cellOfHeap HS3.out.sep 0
        have hfr := frozen_of_row W3 k 0 _ _ HS3.out.rest
        have HJ3 : Hid (J (pre ++ [⟨r.1.extract 0 o, hx⟩]) W3) := hJ3
        clear hJ3 hk3 HS
        gi_wp2
        gi_roundg ((r.1.extract (o + 1) r.1.size).size + 1)
        case measure => omega
        case rel => exact ⟨pre ++ [⟨r.1.extract 0 o, hx⟩], ⟨r.1.extract (o + 1) r.1.size, hr⟩, Nat.lt_succ_self _, HM2, HS3.out.store _, HJ.out _ _ _ HJ3.out (grown_setCell W3 k 0 _)⟩
      · have HJ3 : Hid (Jx (pre ++ [⟨r.1.extract 0 o, hx⟩]) W3) := hJx3
        clear hJx3
        gi_wp2
        refine bodyPost_ret (results_none rfl _ _ _) rfl ?_
        exact ⟨⟨_, rfl⟩, .inr ⟨_, ⟨_, HM2.out⟩, HJ3.out⟩⟩
end Go.Proofs.YtllcbnfmihfaaaaGreatDoor
namespace Go.Proofs.YtllcbnfmihfaaaaGreatDoor
open Go.RowKit Go.Deep

/-- b can be reached from a over the edges. -/
def Rch (L : List (Int × Int)) (a b : Nat) : Prop := ∀ S : Nat → Prop, S a → (∀ e, e ∈ L → S e.1.toNat → S e.2.toNat) → S b
theorem Rch.refl (L : List (Int × Int)) (a : Nat) : Rch L a a := fun _ h _ => h
theorem Rch.trans {L : List (Int × Int)} {a b c : Nat} (h : Rch L a b) (k : Rch L b c) : Rch L a c := fun S ha hc => k S (h S ha hc) hc
theorem Rch.edge {L : List (Int × Int)} {e : Int × Int} (h : e ∈ L) : Rch L e.1.toNat e.2.toNat := fun _ ha hc => hc e h ha

/-! ### the program's matrix -/
theorem addE_mono {m : Nat → Nat → Bool} {e : Int × Int} {i j : Nat} (h : m i j = true) : addE m e i j = true := by
  unfold addE upd; split <;> simp_all
theorem addE_self (m : Nat → Nat → Bool) (e : Int × Int) : addE m e e.1.toNat e.2.toNat = true := by simp [addE, upd]
theorem foldE_mono (L : List (Int × Int)) : ∀ (m : Nat → Nat → Bool) (i j : Nat), m i j = true → L.foldl addE m i j = true := by
  induction L with
  | nil => intro m i j h; exact h
  | cons e L ih => intro m i j h; exact ih _ i j (addE_mono h)
theorem foldE_mem (L : List (Int × Int)) : ∀ (m : Nat → Nat → Bool) (e : Int × Int), e ∈ L → L.foldl addE m e.1.toNat e.2.toNat = true := by
  induction L with
  | nil => intro m e h; cases h
  | cons x L ih =>
    intro m e h
    cases List.mem_cons.1 h with
    | inl h => subst h; exact foldE_mono L _ _ _ (addE_self m e)
    | inr h => exact ih _ e h
theorem foldE_sound (P : Nat → Nat → Prop) (L : List (Int × Int)) : ∀ (m : Nat → Nat → Bool), (∀ i j, m i j = true → P i j) → (∀ e, e ∈ L → P e.1.toNat e.2.toNat) → ∀ i j, L.foldl addE m i j = true → P i j := by
  induction L with
  | nil => intro m h _; exact h
  | cons x L ih =>
    intro m h he
    refine ih (addE m x) (fun i j hij => ?_) (fun e hm => he e (List.mem_cons_of_mem _ hm))
    unfold addE upd at hij
    split at hij
    · rename_i c
      obtain ⟨rfl, rfl⟩ := c
      exact he x (List.mem_cons_self ..)
    · exact h i j hij
theorem edgeM_sound {n : Nat} {L : List (Int × Int)} {i j : Nat} (h : edgeM n L i j = true) : Rch L i j :=
  foldE_sound (Rch L) L (idTo n) (fun i j hij => by have := of_decide_eq_true hij; rw [this.1]; exact Rch.refl _ _) (fun _ he => Rch.edge he) i j h
theorem fst_sound {n k : Nat} {m : Nat → Nat → Bool} {l h i j : Nat} (H : fst n k m l h i j = true) : m i j = true ∨ (m i k = true ∧ m k j = true) := by
  unfold fst at H
  simp only [Bool.or_eq_true, Bool.and_eq_true] at H
  rcases H with H | ⟨_, H⟩
  · exact .inl H
  · exact .inr H
theorem fst_mono {n k : Nat} {m : Nat → Nat → Bool} {l h i j : Nat} (H : m i j = true) : fst n k m l h i j = true := by
  unfold fst; rw [H]; rfl
theorem fst_join {n k : Nat} {m : Nat → Nat → Bool} {i j : Nat} (hi : i < n) (hj : j < n) (H1 : m i k = true) (H2 : m k j = true) : fst n k m n 0 i j = true := by
  unfold fst
  rw [H1, H2, decide_eq_true (by omega)]
  simp
theorem fwTo_sound {n : Nat} {L : List (Int × Int)} : ∀ (k i j : Nat), fwTo n k (edgeM n L) i j = true → Rch L i j := by
  intro k
  induction k with
  | zero => intro i j h; exact edgeM_sound h
  | succ k ih =>
    intro i j h
    rcases fst_sound h with h | ⟨h1, h2⟩
    · exact ih i j h
    · exact (ih i k h1).trans (ih k j h2)
theorem fwTo_mono {n : Nat} {m : Nat → Nat → Bool} {i j : Nat} (h : m i j = true) : ∀ k, fwTo n k m i j = true := by
  intro k
  induction k with
  | zero => exact h
  | succ k ih => exact fst_mono ih
theorem fwTo_trans {n : Nat} {m : Nat → Nat → Bool} : ∀ (k : Nat), k ≤ n → ∀ c i j, c < k → i < n → j < n → fwTo n k m i c = true → fwTo n k m c j = true → fwTo n k m i j = true := by
  intro k
  induction k with
  | zero => intro _ c i j h; omega
  | succ k ih =>
    intro hk c i j hc hi hj h1 h2
    have ih := ih (by omega)
    have col : ∀ x, fwTo n (k + 1) m x k = fwTo n k m x k := fun x => fst_col n k (fwTo n k m) n 0 x
    have line : ∀ x, fwTo n (k + 1) m k x = fwTo n k m k x := fun x => fst_line n k (fwTo n k m) n 0 x
    by_cases e : c = k
    · subst e
      rw [col] at h1
      rw [line] at h2
      exact fst_join hi hj h1 h2
    · have hck : c < k := by omega
      have hcn : c < n := by omega
      have hkn : k < n := by omega
      rcases fst_sound h1 with h1 | ⟨h1, h1'⟩
      · rcases fst_sound h2 with h2 | ⟨h2, h2'⟩
        · exact fst_mono (ih c i j hck hi hj h1 h2)
        · exact fst_join hi hj (ih c i k hck hi hkn h1 h2) h2'
      · rcases fst_sound h2 with h2 | ⟨h2, h2'⟩
        · exact fst_join hi hj h1 (ih c k j hck hkn hj h1' h2)
        · exact fst_join hi hj h1 h2'

theorem edge_lt {n : Nat} {L : List (Int × Int)} (hE : edgesB n L = true) {e : Int × Int} (he : e ∈ L) : e.1.toNat < n ∧ e.2.toNat < n := by
  have := List.all_eq_true.1 hE e he
  unfold edgeB at this
  simp only [Bool.and_eq_true] at this
  obtain ⟨⟨h1, h2⟩, _⟩ := this
  have g1 := of_decide_eq_true h1
  have g2 := of_decide_eq_true h2
  omega
theorem newM_iff {n : Nat} {L : List (Int × Int)} (hE : edgesB n L = true) {a b : Nat} (ha : a < n) (hb : b < n) : newM n L a b = true ↔ Rch L a b := by
  constructor
  · exact fwTo_sound n a b
  · intro h
    have := h (fun x => x < n → newM n L a x = true) (fun _ => fwTo_mono (foldE_mono L _ _ _ (decide_eq_true ⟨rfl, ha⟩)) n)
      (fun e he h1 h2 => fwTo_trans n (Nat.le_refl _) e.1.toNat a e.2.toNat (edge_lt hE he).1 ha h2 (h1 (edge_lt hE he).1) (fwTo_mono (foldE_mem L _ e he) n))
    exact this hb

/-! ### the reference's -/
theorem updS_mono {S : Nat → Bool} {k x : Nat} (h : S x = true) : updS S k x = true := by unfold updS; split <;> simp_all
theorem stepS_mono {S : Nat → Bool} {e : Int × Int} {x : Nat} (h : S x = true) : stepS S e x = true := by
  unfold stepS; split
  · exact updS_mono h
  · exact h
theorem roundS_mono (L : List (Int × Int)) : ∀ {S : Nat → Bool} {x : Nat}, S x = true → roundS L S x = true := by
  unfold roundS
  induction L with
  | nil => intro S x h; exact h
  | cons e L ih => intro S x h; exact ih (stepS_mono h)
theorem roundS_edge (L : List (Int × Int)) : ∀ {S : Nat → Bool} {e : Int × Int}, e ∈ L → S e.1.toNat = true → roundS L S e.2.toNat = true := by
  induction L with
  | nil => intro S e h; cases h
  | cons x L ih =>
    intro S e h hs
    cases List.mem_cons.1 h with
    | inl h =>
      subst h
      refine roundS_mono L (S := stepS S e) ?_
      unfold stepS
      rw [if_pos hs]
      simp [updS]
    | inr h => exact ih (S := stepS S x) h (stepS_mono hs)
theorem roundS_sound (P : Nat → Prop) (L : List (Int × Int)) : ∀ {S : Nat → Bool}, (∀ x, S x = true → P x) → (∀ e, e ∈ L → P e.1.toNat → P e.2.toNat) → ∀ x, roundS L S x = true → P x := by
  induction L with
  | nil => intro S h _; exact h
  | cons e L ih =>
    intro S h he
    refine ih (S := stepS S e) (fun x hx => ?_) (fun e' h' => he e' (List.mem_cons_of_mem _ h'))
    unfold stepS at hx
    split at hx
    · rename_i hs
      unfold updS at hx
      split at hx
      · rename_i c; subst c; exact he e (List.mem_cons_self ..) (h _ hs)
      · exact h x hx
    · exact h x hx
def Shut (L : List (Int × Int)) (S : Nat → Bool) : Prop := ∀ e, e ∈ L → S e.1.toNat = true → S e.2.toNat = true
theorem roundS_shut {L : List (Int × Int)} {S : Nat → Bool} (h : Shut L S) : roundS L S = S := by
  funext x
  cases hx : S x
  · cases hr : roundS L S x
    · rfl
    · have := roundS_sound (fun x => S x = true) L (S := S) (fun _ h => h) h x hr
      rw [hx] at this; cases this
  · exact roundS_mono L hx
def cnt (n : Nat) (S : Nat → Bool) : Nat := ((List.range n).filter S).length
theorem cnt_le (n : Nat) (S : Nat → Bool) : cnt n S ≤ n := by
  have := List.length_filter_le S (List.range n)
  simpa [cnt] using this
theorem filter_lt {S T : Nat → Bool} (hm : ∀ x, S x = true → T x = true) : ∀ (l : List Nat) (y : Nat), y ∈ l → S y = false → T y = true → (l.filter S).length < (l.filter T).length := by
  have le : ∀ l : List Nat, (l.filter S).length ≤ (l.filter T).length := by
    intro l
    induction l with
    | nil => simp
    | cons x l ih =>
      cases hs : S x
      · rw [List.filter_cons_of_neg (by simp [hs])]
        exact Nat.le_trans ih (by rw [List.filter_cons]; split <;> simp)
      · rw [List.filter_cons_of_pos hs, List.filter_cons_of_pos (hm x hs)]
        simp only [List.length_cons]; omega
  intro l
  induction l with
  | nil => intro y hy; cases hy
  | cons x l ih =>
    intro y hy h1 h2
    cases List.mem_cons.1 hy with
    | inl h =>
      subst h
      rw [List.filter_cons_of_neg (by simp [h1]), List.filter_cons_of_pos h2]
      have := le l
      simp only [List.length_cons]; omega
    | inr h =>
      have := ih y h h1 h2
      cases hs : S x
      · rw [List.filter_cons_of_neg (by simp [hs])]
        exact Nat.lt_of_lt_of_le this (by rw [List.filter_cons]; split <;> simp)
      · rw [List.filter_cons_of_pos hs, List.filter_cons_of_pos (hm x hs)]
        simp only [List.length_cons]; omega
theorem rounds_shut {n : Nat} {L : List (Int × Int)} (hE : edgesB n L = true) {a : Nat} (ha : a < n) : ∀ k, Shut L (roundsS L k (startS a)) ∨ k + 1 ≤ cnt n (roundsS L k (startS a)) := by
  intro k
  induction k with
  | zero =>
    right
    have : 0 < ((List.range n).filter (startS a)).length := List.length_pos_of_mem (a := a) (List.mem_filter.2 ⟨List.mem_range.2 ha, by simp [startS, updS]⟩)
    exact this
  | succ k ih =>
    rcases ih with h | h
    · left
      show Shut L (roundS L (roundsS L k (startS a)))
      rw [roundS_shut h]; exact h
    · by_cases hs : Shut L (roundsS L k (startS a))
      · left
        show Shut L (roundS L (roundsS L k (startS a)))
        rw [roundS_shut hs]; exact hs
      · right
        have : ∃ e, e ∈ L ∧ roundsS L k (startS a) e.1.toNat = true ∧ roundsS L k (startS a) e.2.toNat = false := by
          apply Classical.byContradiction
          intro hno
          refine hs (fun e he h1 => ?_)
          cases h2 : roundsS L k (startS a) e.2.toNat
          · exact absurd ⟨e, he, h1, h2⟩ hno
          · rfl
        obtain ⟨e, he, h1, h2⟩ := this
        have hlt := filter_lt (S := roundsS L k (startS a)) (T := roundS L (roundsS L k (startS a))) (fun x hx => roundS_mono L hx) (List.range n) e.2.toNat (List.mem_range.2 (edge_lt hE he).2) h2 (roundS_edge L he h1)
        show k + 1 + 1 ≤ ((List.range n).filter (roundS L (roundsS L k (startS a)))).length
        unfold cnt at h
        omega
theorem rounds_sound {L : List (Int × Int)} {a : Nat} : ∀ k x, roundsS L k (startS a) x = true → Rch L a x := by
  intro k
  induction k with
  | zero =>
    intro x h
    have h : startS a x = true := h
    unfold startS updS at h
    split at h
    · rename_i c; subst c; exact Rch.refl _ _
    · cases h
  | succ k ih =>
    intro x h
    exact roundS_sound (fun x => Rch L a x) L (S := roundsS L k (startS a)) ih (fun e he h1 => h1.trans (Rch.edge he)) x h
theorem rounds_mono {L : List (Int × Int)} {S : Nat → Bool} {x : Nat} (h : S x = true) : ∀ k, roundsS L k S x = true := by
  intro k
  induction k with
  | zero => exact h
  | succ k ih => exact roundS_mono L ih
theorem leqF_iff {n : Nat} {L : List (Int × Int)} (hE : edgesB n L = true) {a b : Nat} (ha : a < n) : leqF n L a b = true ↔ Rch L a b := by
  constructor
  · exact rounds_sound n b
  · intro h
    have hs : Shut L (roundsS L n (startS a)) := by
      rcases rounds_shut hE ha n with h | h
      · exact h
      · have := cnt_le n (roundsS L n (startS a)); omega
    exact h (fun x => roundsS L n (startS a) x = true) (rounds_mono (by simp [startS, updS]) n) hs
theorem newM_leqF {n : Nat} {L : List (Int × Int)} (hE : edgesB n L = true) {a b : Nat} (ha : a < n) (hb : b < n) : newM n L a b = leqF n L a b := by
  rw [Bool.eq_iff_iff, newM_iff hE ha hb, leqF_iff hE ha]
theorem leqF_refl {n : Nat} {L : List (Int × Int)} (hE : edgesB n L = true) {a : Nat} (ha : a < n) : leqF n L a a = true := (leqF_iff hE ha).2 (Rch.refl _ _)
end Go.Proofs.YtllcbnfmihfaaaaGreatDoor
