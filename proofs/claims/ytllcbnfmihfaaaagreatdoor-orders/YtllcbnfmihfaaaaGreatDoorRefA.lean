import Derived.Test.YtllcbnfmihfaaaaGreatDoorNew
import Derived.Deep.OwnRows
namespace Go.Proofs.YtllcbnfmihfaaaaGreatDoor
open Go.RowKit Go.Deep

/-- A configuration's value, as far as labels and edges go. -/
structure CfgE (arr : Array Value) (n : Nat) (L : List (Int × Int)) (ea : Option Addr) (ecap : Nat) : Prop where
  size : arr.size = 11
  f0 : arr[0]? = some (.int .i64 n)
  f1 : arr[1]? = some (.slice ea L.length ecap)
theorem infoCfg {arr : Array Value} (h : arr.size = 11) : (Tryz.prog.info? 45).map (·.size) = some arr.size := by rw [h]; kernel_rfl

set_option maxHeartbeats 400000 in
theorem label_any (arr : Array Value) (n : Nat) (h : arr[0]? = some (.int .i64 n)) (a : Int) (w : World) :
    Calls Tryz.prog 76 #[.agg arr, .int .i64 a] w fun e w' => e = .returned (.bool (hasB n a)) ∧ Below w.heap.size w w' := by
  go_enter Tryz.func76, Tryz.ntmps76
  go_wp2
  all_goals go_ret
  · exact ⟨by simp [hasB, *], (Below.refl _ _).alloc (Nat.le_refl _) _⟩
  · exact ⟨by have h1 : ¬ 0 ≤ a := by omega
              simp [hasB, h1], (Below.refl _ _).alloc (Nat.le_refl _) _⟩

/-! ### leq -/
def boolArr (n : Nat) (S : Nat → Bool) : Array Value := ((List.range n).map fun k => .bool (S k)).toArray
theorem boolArr_size (n : Nat) (S : Nat → Bool) : (boolArr n S).size = n := by simp [boolArr]
theorem boolArr_at (n : Nat) (S : Nat → Bool) (k : Nat) (h : k < n) : (boolArr n S)[k]? = some (.bool (S k)) := by
  simp only [boolArr, List.getElem?_toArray, List.getElem?_map]
  rw [List.getElem?_range h]
  rfl
def updS (S : Nat → Bool) (k : Nat) : Nat → Bool := fun x => if x = k then true else S x
theorem boolArr_set (n : Nat) (S : Nat → Bool) (k : Nat) : (boolArr n S).setIfInBounds k (.bool true) = boolArr n (updS S k) := by
  apply Array.ext_getElem?
  intro i
  rw [Array.getElem?_setIfInBounds]
  by_cases hi : i < n
  · rw [boolArr_at n (updS S k) i hi]
    by_cases hk : k = i
    · subst hk
      rw [if_pos rfl, if_pos (by rw [boolArr_size]; exact hi)]
      simp [updS]
    · rw [if_neg hk, boolArr_at n S i hi]
      have : ¬ i = k := fun e => hk e.symm
      simp [updS, this]
  · have e1 : (boolArr n (updS S k))[i]? = none := Array.getElem?_eq_none (by rw [boolArr_size]; omega)
    have e2 : (boolArr n S)[i]? = none := Array.getElem?_eq_none (by rw [boolArr_size]; omega)
    rw [e1, e2]
    by_cases hk : k = i
    · subst hk
      rw [if_pos rfl, if_neg (by rw [boolArr_size]; omega)]
    · rw [if_neg hk]
theorem boolArr_made (n : Nat) : madeCells #[.bool false] n = boolArr n fun _ => false := by
  apply Array.ext_getElem?
  intro i
  by_cases hi : i < n
  · rw [boolArr_at _ _ _ hi]
    simp [madeCells, hi, Nat.mod_one]
  · have e1 : (boolArr n fun _ => false)[i]? = none := Array.getElem?_eq_none (by rw [boolArr_size]; omega)
    rw [e1, Array.getElem?_eq_none (by rw [size_madeCells]; omega)]

def stepS (S : Nat → Bool) (e : Int × Int) : Nat → Bool := if S e.1.toNat then updS S e.2.toNat else S
def roundS (L : List (Int × Int)) (S : Nat → Bool) : Nat → Bool := L.foldl stepS S
theorem roundS_snoc (L : List (Int × Int)) (S : Nat → Bool) (k : Nat) (h : k < L.length) : roundS (L.take (k + 1)) S = stepS (roundS (L.take k) S) L[k] := by
  unfold roundS
  rw [List.take_succ_eq_append_getElem h, List.foldl_append]
  rfl
def roundsS (L : List (Int × Int)) : Nat → (Nat → Bool) → Nat → Bool
  | 0, S => S
  | k + 1, S => roundS L (roundsS L k S)
def startS (a : Nat) : Nat → Bool := updS (fun _ => false) a
def leqF (n : Nat) (L : List (Int × Int)) (a b : Nat) : Bool := roundsS L n (startS a) b

structure AbvAt (w W : World) (b n : Nat) (S : Nat → Bool) : Prop where
  below : Below b w W
  own : W.heap[b]? = some (.cells (boolArr n S) 4)
theorem AbvAt.set {w W : World} {b n : Nat} {S : Nat → Bool} (h : AbvAt w W b n S) (k : Nat) : AbvAt w (W.setCell ⟨b, k, none⟩ (.bool true)) b n (updS S k) :=
  ⟨h.below.setCell (Nat.le_refl _) _, by rw [heap_setCell_same W _ _ _ _ _ h.own, boolArr_set]⟩
theorem AbvAt.at_ {w W : World} {b n : Nat} {S : Nat → Bool} (h : AbvAt w W b n S) {k : Nat} (hk : k < n) : W.cell? ⟨b, k, none⟩ = some (.bool (S k)) := (cellOfHeap h.own k).trans (boolArr_at n S k hk)
theorem AbvAt.frozen {w W : World} {b n : Nat} {S : Nat → Bool} (h : AbvAt w W b n S) (k : Nat) : W.frozen? ⟨b, k, none⟩ = false := frozen_of_row W b k _ _ h.own

theorem edge_of {n : Nat} {L : List (Int × Int)} (h : edgesB n L = true) {k : Nat} (hk : k < L.length) : ∃ i j : Nat, i < n ∧ j < n ∧ L[k].1 = (i : Int) ∧ L[k].2 = (j : Int) := by
  have := List.all_eq_true.1 h L[k] (List.getElem_mem hk)
  unfold edgeB at this
  simp only [Bool.and_eq_true] at this
  obtain ⟨⟨h1, h2⟩, _⟩ := this
  have g1 := of_decide_eq_true h1
  have g2 := of_decide_eq_true h2
  exact ⟨L[k].1.toNat, L[k].2.toNat, by omega, by omega, by omega, by omega⟩

set_option maxRecDepth 100000 in
set_option maxHeartbeats 2000000 in
theorem leq_any (arr : Array Value) (n : Nat) (L : List (Int × Int)) (ea : Option Addr) (ecap : Nat) (H : CfgE arr n L ea ecap) (hn : n ≤ 6) (hL : L.length ≤ 30) (hE : edgesB n L = true) (a b : Nat) (ha : a < n) (hb : b < n) (w : World) (hA : EdgesAt w ea L) :
    Calls Tryz.prog 126 #[.agg arr, .int .i64 a, .int .i64 b] w fun e w' => e = .returned (.bool (leqF n L a b)) ∧ Below w.heap.size w w' := by
  have f0 := H.f0
  have f1 := H.f1
  have HE : Hid (edgesB n L = true) := hE
  have HA : Hid (EdgesAt w ea L) := hA
  clear H hE hA
  have hmk := fun w => run_make_row' (P := Tryz.prog) 299 4 (.bool false) 1 Tryz.underlying299 (by kernel_rfl) rfl .i64 .i64 n (by omega) (by omega) w
  rw [boolArr_made] at hmk
  have HW0 : Hid ((w.alloc (.cells arr 45)).heap[w.heap.size]? = some (.cells arr 45)) := heap_new _ _
  have HB0 : Hid (Below w.heap.size w (w.alloc (.cells arr 45))) := (Below.refl _ _).alloc (Nat.le_refl _) _
  have HS0 : Hid ((w.alloc (.cells arr 45)).heap.size = w.heap.size + 1) := by show _ = _; simp
  have HT : Hid (AbvAt (w.alloc (.cells arr 45)) ((w.alloc (.cells arr 45)).alloc (.cells ((boolArr n fun _ => false).setIfInBounds a (.bool true)) 4)) (w.heap.size + 1) n (startS a)) := by
    refine ⟨(Below.refl _ _).alloc (by simp) _, ?_⟩
    have := heap_new (w.alloc (.cells arr 45)) (.cells ((boolArr n fun _ => false).setIfInBounds a (.bool true)) 4)
    rw [World.size_alloc] at this
    rw [this, boolArr_set]
    rfl
  have hba := boolArr_at n (fun _ => false) a ha
  go_enter Tryz.func126, Tryz.ntmps126
  go_wp2
  clear hba hmk
  generalize (w.alloc (.cells arr 45)).alloc (.cells ((boolArr n fun _ => false).setIfInBounds a (.bool true)) 4) = W1 at *
  generalize w.alloc (.cells arr 45) = W0 at *
  go_loopg [8] n (fun g x wr => ∃ k : Nat, Hid (k + g = n) ∧ x = .int .i64 k ∧ Hid (AbvAt W0 wr (w.heap.size + 1) n (roundsS L k (startS a))))
  case atStart => exact ⟨0, by show _ = _; omega, rfl, HT⟩
  case round =>
    clear HT
    obtain ⟨k, hk, rfl, HK⟩ := hrel
    have hc0 := (cellOfHeap ((HK.out.below.block _ (by omega)).trans HW0.out) 0).trans f0
    cases gk with
    | zero =>
      have hlt : ¬ (k : Int) < n := by have := hk.out; omega
      have e : k = n := by have := hk.out; omega
      subst e
      have hcb := HK.out.at_ hb
      have HF : Hid (roundsS L k (startS a) b = leqF k L a b) := rfl
      generalize roundsS L k (startS a) b = v0 at hcb HF
      go_wp2
      go_ret
      exact ⟨by rw [← HF.out]; rfl, HB0.out.trans (HK.out.below.mono (by omega))⟩
    | succ g =>
      have hlt : (k : Int) < n := by have := hk.out; omega
      go_wp2
      go_loopg [9] L.length (fun g x wr => ∃ q : Nat, Hid (q + g = L.length) ∧ x = .int .i64 q ∧ Hid (AbvAt W0 wr (w.heap.size + 1) n (roundS (L.take q) (roundsS L k (startS a)))))
      case atStart => exact ⟨0, by show _ = _; omega, rfl, HK⟩
      case round =>
        clear HK hc0
        obtain ⟨q, hq, rfl, HQ⟩ := hrel
        have hc1 := (cellOfHeap ((HQ.out.below.block _ (by omega)).trans HW0.out) 1).trans f1
        cases gk with
        | zero =>
          have hql : ¬ (q : Int) < L.length := by have := hq.out; omega
          go_wp2
          go_roundg g
          case measure => omega
          case rel =>
            refine ⟨k + 1, by show _ = _; have := hk.out; omega, by go_num, ?_⟩
            have := HQ.out
            rw [List.take_of_length_le (by have := hq.out; omega)] at this
            exact this
        | succ g2 =>
          have hql : (q : Int) < L.length := by have := hq.out; omega
          obtain ⟨i, j, hi, hj, ei, ej⟩ := edge_of HE.out (k := q) (by omega)
          obtain ⟨bb, off, rfl, hbb, e1, e2⟩ := (HA.out.below (HB0.out.trans (HQ.out.below.mono (by omega)))).at_ q (by omega)
          have HM : Hid (roundS (L.take (q + 1)) (roundsS L k (startS a)) = if roundS (L.take q) (roundsS L k (startS a)) i then updS (roundS (L.take q) (roundsS L k (startS a))) j else roundS (L.take q) (roundsS L k (startS a))) := by
            show _ = _
            rw [roundS_snoc L _ q (by omega)]
            unfold stepS
            rw [ei, ej]
            rfl
          rw [ei] at e1
          rw [ej] at e2
          clear ei ej
          have ci := HQ.out.at_ hi
          have cj := HQ.out.at_ hj
          have cf := HQ.out.frozen j
          cases es : roundS (L.take q) (roundsS L k (startS a)) i
          · rw [es] at ci
            have HF : Hid (roundS (L.take (q + 1)) (roundsS L k (startS a)) = roundS (L.take q) (roundsS L k (startS a))) := by show _ = _; rw [HM.out, es]; rfl
            clear es HM cj cf
            go_wp2
            go_roundg g2
            case measure => omega
            case rel => exact ⟨q + 1, by show _ = _; have := hq.out; omega, by go_num, by show AbvAt _ _ _ _ _; rw [HF.out]; exact HQ.out⟩
          · rw [es] at ci
            have HF : Hid (roundS (L.take (q + 1)) (roundsS L k (startS a)) = updS (roundS (L.take q) (roundsS L k (startS a))) j) := by show _ = _; rw [HM.out, es]; rfl
            clear es HM
            generalize roundS (L.take q) (roundsS L k (startS a)) j = v0 at cj
            go_wp2
            go_roundg g2
            case measure => omega
            case rel => exact ⟨q + 1, by show _ = _; have := hq.out; omega, by go_num, by show AbvAt _ _ _ _ _; rw [HF.out]; exact HQ.out.set j⟩
end Go.Proofs.YtllcbnfmihfaaaaGreatDoor
