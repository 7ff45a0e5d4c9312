import Derived.Test.YtllcbnfmihfaaaaGreatDoorLq05
namespace Go.Proofs.YtllcbnfmihfaaaaGreatDoor
open Go.RowKit

def wipedE (D : List (Int × Int)) (k : Nat) : List (Int × Int) := List.replicate k (0, 0) ++ D.drop k
theorem wipedE_len (D : List (Int × Int)) (k : Nat) (h : k ≤ D.length) : (wipedE D k).length = D.length := by simp [wipedE]; omega
theorem wipedE_at (D : List (Int × Int)) (k : Nat) (h : k < D.length) : (wipedE D k)[k]'(by rw [wipedE_len D k (by omega)]; exact h) = D[k] := by
  simp only [wipedE]
  rw [List.getElem_append_right (by simp)]
  simp
theorem wipedE_set (D : List (Int × Int)) (k : Nat) (h : k < D.length) : (wipedE D k).set k (0, 0) = wipedE D (k + 1) := by
  unfold wipedE
  have e1 : (List.replicate k ((0, 0) : Int × Int) ++ D.drop k).set k (0, 0) = List.replicate k (0, 0) ++ (D.drop k).set 0 (0, 0) := by
    simp
  rw [e1, List.drop_eq_getElem_cons h, List.set_cons_zero, List.replicate_succ', List.append_assoc]
  rfl
theorem room8I : roomI 8 = List.replicate 8 77 := rfl
theorem room8E : roomE 8 = List.replicate 8 (77, 77) := rfl
def wipedI (D : List Int) (k : Nat) : List Int := List.replicate k 1 ++ D.drop k
theorem wipedI_len (D : List Int) (k : Nat) (h : k ≤ D.length) : (wipedI D k).length = D.length := by simp [wipedI]; omega
theorem wipedI_at (D : List Int) (k : Nat) (h : k < D.length) : (wipedI D k)[k]'(by rw [wipedI_len D k (by omega)]; exact h) = D[k] := by
  simp only [wipedI]
  rw [List.getElem_append_right (by simp)]
  simp
theorem wipedI_set (D : List Int) (k : Nat) (h : k < D.length) : (wipedI D k).set k 1 = wipedI D (k + 1) := by
  unfold wipedI
  have e1 : (List.replicate k (1 : Int) ++ D.drop k).set k 1 = List.replicate k 1 ++ (D.drop k).set 0 1 := by
    simp
  rw [e1, List.drop_eq_getElem_cons h, List.set_cons_zero, List.replicate_succ', List.append_assoc]
  rfl

/-! One block turns, nothing else. -/
theorem gb_refl (w : World) (b : Nat) : w.grownBy w (some b) := ⟨rfl, rfl, rfl, Nat.le_refl _, fun _ _ _ => rfl⟩
theorem gb_trans {a w w' : World} {b : Nat} (h : a.grownBy w (some b)) (k : w.grownBy w' (some b)) : a.grownBy w' (some b) :=
  ⟨k.os.trans h.os, k.tape.trans h.tape, k.output.trans h.output, Nat.le_trans h.size k.size, fun i hi hn => (k.block i (Nat.lt_of_lt_of_le hi h.size) hn).trans (h.block i hi hn)⟩
theorem gb_alloc {a w : World} {b : Nat} (h : a.grownBy w (some b)) (o : Obj) : a.grownBy (w.alloc o) (some b) :=
  gb_trans h ⟨rfl, rfl, rfl, by simp, fun k hk _ => Below.heap_alloc _ _ _ hk⟩
theorem gb_drewN {a w : World} {b : Nat} (h : a.grownBy w (some b)) (n : Nat) : a.grownBy (w.drewN n) (some b) := gb_trans h ⟨rfl, rfl, rfl, Nat.le_refl _, fun _ _ _ => rfl⟩
theorem gb_setCell {a w : World} {b : Nat} (h : a.grownBy w (some b)) (o : Nat) (v : Value) : a.grownBy (w.setCell ⟨b, o, none⟩ v) (some b) :=
  gb_trans h ⟨rfl, rfl, rfl, by simp [World.setCell], fun k _ hn => heap_setCell_other _ _ _ _ (fun e => hn (by rw [e]))⟩
theorem gb_below {a w : World} {b : Nat} (h : a.grownBy w (some b)) {B : Nat} (hB : B ≤ b) (hs : B ≤ a.heap.size) : Below B a w :=
  ⟨h.os, h.tape, h.output, h.size, fun k hk => h.block k (by omega) (by simp; omega)⟩

set_option maxRecDepth 100000 in
set_option maxHeartbeats 2000000 in
theorem wholeInts_any (B : List Int) (ba : Option Addr) (bcap : Nat) (BE : Nat) (hB : B.length + 8 ≤ 9223372036854775807) (w0 w : World) (hA : IntsAt w0 ba B) (hb : Below w0.heap.size w0 w) (hlt : w0.heap.size ≤ BE) (ha : ba.isSome = true)
    (hown : w.heap[BE]? = some (.cells (intArr (B ++ roomI 8)) 3)) :
    Calls Tryz.prog 150 #[.slice (some ⟨BE, 0, none⟩) B.length (B.length + 8), .slice ba B.length bcap] w fun e w' => e = .returned (.bool true) ∧ w.grownBy w' (some BE) := by
  have HA : Hid (IntsAt w0 ba B) := hA
  have HB : Hid (Below w0.heap.size w0 w) := hb
  have HW : Hid (w.heap[BE]? = some (.cells (intArr (wipedI (B ++ roomI 8) 0)) 3)) := hown
  clear hA hb hown
  obtain ⟨ad, rfl⟩ := Option.isSome_iff_exists.1 ha
  clear ha
  have hq1 := fun w => Lib.run_eql_slice_nil (P := Tryz.prog) w 25 3 (some ad) B.length bcap 0 0 Tryz.underlying25
  have hlen : (B ++ roomI 8).length = B.length + 8 := by rw [List.length_append, roomI_length 8 (Nat.le_refl _)]
  have HLEN : Hid ((B ++ roomI 8).length = B.length + 8) := hlen
  clear hlen
  go_enter Tryz.func150, Tryz.ntmps150
  go_wp2
  go_loopg [8, 7, 9] (B.length + 8) (fun g x y z wr => ∃ k : Nat, Hid (k + g = B.length + 8) ∧ x = .int .i64 k ∧ y = .bool true ∧ Hid (w.grownBy wr (some BE)) ∧ Hid (wr.heap[BE]? = some (.cells (intArr (wipedI (B ++ roomI 8) k)) 3)))
  case atStart => exact ⟨0, by show _ = _; omega, rfl, rfl, gb_refl _ _, HW⟩
  case round =>
    clear HW
    obtain ⟨k, hk, rfl, rfl, HK, HW⟩ := hrel
    cases gk with
    | zero =>
      have hle : ¬ (k : Int) < B.length + 8 := by have := hk.out; omega
      go_wp2
      go_ret
      exact ⟨rfl, HK.out⟩
    | succ g =>
      have hle : (k : Int) < B.length + 8 := by have := hk.out; omega
      have hkd : k < (B ++ roomI 8).length := by rw [HLEN.out]; omega
      have hc := (cellOfHeap HW.out k).trans (intArr_at _ k (by rw [wipedI_len _ _ (by omega)]; exact hkd))
      rw [wipedI_at _ _ hkd] at hc
      have hf := frozen_of_row wr BE k _ _ HW.out
      have HN : Hid ((wr.setCell ⟨BE, k, none⟩ (.int .i64 1)).heap[BE]? = some (.cells (intArr (wipedI (B ++ roomI 8) (k + 1))) 3)) := by
        show _ = _
        rw [heap_setCell_same _ _ _ _ _ _ HW.out, intArr_set, wipedI_set _ _ hkd]
      by_cases hkn : k < B.length
      · have hkn' : (k : Int) < B.length := by omega
        obtain ⟨b, off, hh, hbl, hcs⟩ := (HA.out.below (HB.out.trans (gb_below HK.out hlt HB.out.size))).at_ k hkn
        cases hh
        have hc2 := hcs k hkn
        rw [List.getElem_append_left hkn] at hc
        generalize B[k] = v at hc hc2
        clear hcs hkd
        go_wp2
        go_roundg g
        case measure => omega
        case rel => exact ⟨k + 1, by show _ = _; have := hk.out; omega, by go_num, by simp, gb_setCell HK.out _ _, HN⟩
      · have hkn' : ¬ (k : Int) < B.length := by omega
        have e77 : (B ++ roomI 8)[k] = 77 := by
          rw [List.getElem_append_right (by omega)]
          simp only [room8I, List.getElem_replicate]
        rw [e77] at hc
        clear e77 hkd
        go_wp2
        go_roundg g
        case measure => omega
        case rel => exact ⟨k + 1, by show _ = _; have := hk.out; omega, by go_num, by simp, gb_setCell HK.out _ _, HN⟩

set_option maxRecDepth 100000 in
set_option maxHeartbeats 2000000 in
theorem wholeEdges_any (L : List (Int × Int)) (ea : Option Addr) (ecap : Nat) (BE : Nat) (hB : L.length + 8 ≤ 9223372036854775807) (w0 w : World) (hA : EdgesAt w0 ea L) (hb : Below w0.heap.size w0 w) (hlt : w0.heap.size ≤ BE) (ha : ea.isSome = true)
    (hown : w.heap[BE]? = some (.cells (edgeArr (L ++ roomE 8)) 101)) :
    Calls Tryz.prog 149 #[.slice (some ⟨BE, 0, none⟩) L.length (L.length + 8), .slice ea L.length ecap] w fun e w' => e = .returned (.bool true) ∧ w.grownBy w' (some BE) := by
  have HA : Hid (EdgesAt w0 ea L) := hA
  have HB : Hid (Below w0.heap.size w0 w) := hb
  have HW : Hid (w.heap[BE]? = some (.cells (edgeArr (wipedE (L ++ roomE 8) 0)) 101)) := hown
  have HBE : Hid (BE < w.heap.size) := (Array.getElem?_eq_some_iff.1 hown).1
  clear hA hb hown
  obtain ⟨ad, rfl⟩ := Option.isSome_iff_exists.1 ha
  clear ha
  have hq1 := fun w => Lib.run_eql_slice_nil (P := Tryz.prog) w 43 101 (some ad) L.length ecap 0 0 Tryz.underlying43
  have hlen : (L ++ roomE 8).length = L.length + 8 := by rw [List.length_append, roomE_length 8 (Nat.le_refl _)]
  have HLEN : Hid ((L ++ roomE 8).length = L.length + 8) := hlen
  clear hlen
  go_enter Tryz.func149, Tryz.ntmps149
  go_wp2
  go_loopg [8, 7, 9] (L.length + 8) (fun g x y z wr => ∃ k : Nat, Hid (k + g = L.length + 8) ∧ x = .int .i64 k ∧ y = .bool true ∧ Hid (w.grownBy wr (some BE)) ∧ Hid (wr.heap[BE]? = some (.cells (edgeArr (wipedE (L ++ roomE 8) k)) 101)))
  case atStart => exact ⟨0, by show _ = _; omega, rfl, rfl, gb_refl _ _, HW⟩
  case round =>
    clear HW
    obtain ⟨k, hk, rfl, rfl, HK, HW⟩ := hrel
    have hbe : BE < wr.heap.size := (Array.getElem?_eq_some_iff.1 HW.out).1
    cases gk with
    | zero =>
      have hle : ¬ (k : Int) < L.length + 8 := by have := hk.out; omega
      go_wp2
      go_ret
      exact ⟨rfl, HK.out⟩
    | succ g =>
      have hle : (k : Int) < L.length + 8 := by have := hk.out; omega
      have hkd : k < (L ++ roomE 8).length := by rw [HLEN.out]; omega
      have hc := edgeArr_at (wipedE (L ++ roomE 8) k) k (by rw [wipedE_len _ _ (by omega)]; exact hkd)
      rw [wipedE_at _ _ hkd] at hc
      have hca := (cellOfHeap HW.out (k * 2)).trans hc.1
      have hcb := (cellOfHeap HW.out (k * 2 + 1)).trans hc.2
      have hf := fun j => frozen_of_row wr BE j _ _ HW.out
      have HN : Hid (∀ o q, ((((wr.alloc o).drewN q).setCell ⟨BE, k * 2, none⟩ (.int .i64 0)).setCell ⟨BE, k * 2 + 1, none⟩ (.int .i64 0)).heap[BE]? = some (.cells (edgeArr (wipedE (L ++ roomE 8) (k + 1))) 101)) := by
        intro o q
        rw [heap_setCell_same _ _ _ _ _ _ (heap_setCell_same ((wr.alloc o).drewN q) _ _ _ _ _ ((Below.heap_alloc wr o _ hbe).trans HW.out)), edgeArr_set _ _ _ _ (by rw [wipedE_len _ _ (by omega)]; exact hkd), wipedE_set _ _ hkd]
      clear hc
      by_cases hkn : k < L.length
      · have hkn' : (k : Int) < L.length := by omega
        obtain ⟨b, off, hh, hbl, hc1, hc2⟩ := (HA.out.below (HB.out.trans (gb_below HK.out hlt HB.out.size))).at_ k hkn
        cases hh
        rw [List.getElem_append_left hkn] at hca hcb
        have hbn : b < BE := by
          obtain ⟨b2, off2, hh2, hb2, _⟩ := HA.out.at_ k hkn
          cases hh2
          omega
        generalize L[k].1 = v at *
        generalize L[k].2 = u at *
        clear hkd
        go_wp2
        go_quiet (fail)
        go_wp2
        go_roundg g
        case measure => omega
        case rel => exact ⟨k + 1, by show _ = _; have := hk.out; omega, by go_num, rfl, gb_setCell (gb_setCell (gb_drewN (gb_alloc HK.out _) _) _ _) _ _, HN.out _ _⟩
      · have hkn' : ¬ (k : Int) < L.length := by omega
        have e77 : (L ++ roomE 8)[k] = (77, 77) := by
          rw [List.getElem_append_right (by omega)]
          simp only [room8E, List.getElem_replicate]
        rw [e77] at hca hcb
        dsimp only at hca hcb
        clear e77 hkd
        go_wp2
        go_quiet (fail)
        go_wp2
        go_roundg g
        case measure => omega
        case rel => exact ⟨k + 1, by show _ = _; have := hk.out; omega, by go_num, rfl, gb_setCell (gb_setCell (gb_drewN (gb_alloc HK.out _) _) _ _) _ _, HN.out _ _⟩

set_option maxHeartbeats 400000 in
theorem wholeEdges_nil (v : Value) (n cap : Nat) (w : World) :
    Calls Tryz.prog 149 #[v, .slice none n cap] w fun e w' => e = .returned (.bool true) ∧ w' = w := by
  have hq1 := fun w => Lib.run_eql_slice_nil (P := Tryz.prog) w 43 101 none n cap 0 0 Tryz.underlying43
  go_enter Tryz.func149, Tryz.ntmps149
  go_wp2
  go_ret
  exact ⟨rfl, rfl⟩
set_option maxHeartbeats 400000 in
theorem wholeInts_nil (v : Value) (n cap : Nat) (w : World) :
    Calls Tryz.prog 150 #[v, .slice none n cap] w fun e w' => e = .returned (.bool true) ∧ w' = w := by
  have hq1 := fun w => Lib.run_eql_slice_nil (P := Tryz.prog) w 25 3 none n cap 0 0 Tryz.underlying25
  go_enter Tryz.func150, Tryz.ntmps150
  go_wp2
  go_ret
  exact ⟨rfl, rfl⟩

/-- Either form: there is nothing, or it is as it was lent. -/
theorem wholeEdges_c (L : List (Int × Int)) (ea : Option Addr) (ecap : Nat) (v : Value) (BE : Nat) (hB : L.length + 8 ≤ 9223372036854775807) (w0 w : World) (hA : EdgesAt w0 ea L) (hb : Below w0.heap.size w0 w) (hlt : w0.heap.size ≤ BE)
    (hv : ea.isSome = true → v = .slice (some ⟨BE, 0, none⟩) L.length (L.length + 8)) (hown : w.heap[BE]? = some (.cells (edgeArr (L ++ roomE 8)) 101)) :
    Calls Tryz.prog 149 #[v, .slice ea L.length ecap] w fun e w' => e = .returned (.bool true) ∧ w.grownBy w' (some BE) := by
  cases ea with
  | none =>
    refine (wholeEdges_nil v L.length ecap w).mono ?_
    rintro e w' ⟨rfl, rfl⟩
    exact ⟨rfl, gb_refl _ _⟩
  | some ad =>
    rw [hv rfl]
    exact wholeEdges_any L (some ad) ecap BE hB w0 w hA hb hlt rfl hown
theorem wholeInts_c (B : List Int) (ba : Option Addr) (bcap : Nat) (v : Value) (BE : Nat) (hB : B.length + 8 ≤ 9223372036854775807) (w0 w : World) (hA : IntsAt w0 ba B) (hb : Below w0.heap.size w0 w) (hlt : w0.heap.size ≤ BE)
    (hv : ba.isSome = true → v = .slice (some ⟨BE, 0, none⟩) B.length (B.length + 8)) (hown : w.heap[BE]? = some (.cells (intArr (B ++ roomI 8)) 3)) :
    Calls Tryz.prog 150 #[v, .slice ba B.length bcap] w fun e w' => e = .returned (.bool true) ∧ w.grownBy w' (some BE) := by
  cases ba with
  | none =>
    refine (wholeInts_nil v B.length bcap w).mono ?_
    rintro e w' ⟨rfl, rfl⟩
    exact ⟨rfl, gb_refl _ _⟩
  | some ad =>
    rw [hv rfl]
    exact wholeInts_any B (some ad) bcap BE hB w0 w hA hb hlt rfl hown

set_option maxRecDepth 100000 in
set_option maxHeartbeats 1000000 in
theorem whole_any (arr oarr : Array Value) (L : List (Int × Int)) (ea : Option Addr) (ecap : Nat) (B : List Int) (ba : Option Addr) (bcap : Nat) (v1 v10 : Value)
    (f1 : arr[1]? = some (.slice ea L.length ecap)) (f10 : arr[10]? = some (.slice ba B.length bcap)) (g1 : oarr[1]? = some v1) (g10 : oarr[10]? = some v10)
    (hL : L.length + 8 ≤ 9223372036854775807) (hB : B.length + 8 ≤ 9223372036854775807) (w0 w : World) (hA : EdgesAt w0 ea L) (hI : IntsAt w0 ba B) (hb : Below w0.heap.size w0 w)
    (hv1 : ea.isSome = true → v1 = .slice (some ⟨w0.heap.size + 1 + 1, 0, none⟩) L.length (L.length + 8)) (hv10 : ba.isSome = true → v10 = .slice (some ⟨w0.heap.size + 1 + 1 + 1, 0, none⟩) B.length (B.length + 8))
    (hoE : w.heap[w0.heap.size + 1 + 1]? = some (.cells (edgeArr (L ++ roomE 8)) 101)) (hoI : w.heap[w0.heap.size + 1 + 1 + 1]? = some (.cells (intArr (B ++ roomI 8)) 3)) :
    Calls Tryz.prog 97 #[.agg oarr, .agg arr] w fun e w' => e = .returned (.bool true) ∧ Below w0.heap.size w w' := by
  have sE : w0.heap.size + 1 + 1 < w.heap.size := (Array.getElem?_eq_some_iff.1 hoE).1
  have sI : w0.heap.size + 1 + 1 + 1 < w.heap.size := (Array.getElem?_eq_some_iff.1 hoI).1
  have hb2 : Below w.heap.size w ((w.alloc (.cells oarr 45)).alloc (.cells arr 45)) := ((Below.refl _ _).alloc (Nat.le_refl _) _).alloc (by simp) _
  have c1 := wholeEdges_c L ea ecap v1 (w0.heap.size + 1 + 1) hL w0 ((w.alloc (.cells oarr 45)).alloc (.cells arr 45)) hA (hb.trans (hb2.mono hb.size)) (by omega) hv1 ((hb2.block _ sE).trans hoE)
  have HZ : Hid (((w.alloc (.cells oarr 45)).alloc (.cells arr 45)).heap.size = w.heap.size + 1 + 1) := by show _ = _; simp
  have X0 : Hid (((w.alloc (.cells oarr 45)).alloc (.cells arr 45)).heap[w.heap.size]? = some (.cells oarr 45)) := (Below.heap_alloc _ _ _ (by simp)).trans (heap_new _ _)
  have X1 : Hid (((w.alloc (.cells oarr 45)).alloc (.cells arr 45)).heap[w.heap.size + 1]? = some (.cells arr 45)) := by
    have := heap_new (w.alloc (.cells oarr 45)) (.cells arr 45)
    rwa [World.size_alloc] at this
  have HB : Hid (Below w0.heap.size w0 w) := hb
  have HB2 : Hid (Below w.heap.size w ((w.alloc (.cells oarr 45)).alloc (.cells arr 45))) := hb2
  have HI : Hid (IntsAt w0 ba B) := hI
  have HV : Hid (ba.isSome = true → v10 = .slice (some ⟨w0.heap.size + 1 + 1 + 1, 0, none⟩) B.length (B.length + 8)) := hv10
  have HOI : Hid (w.heap[w0.heap.size + 1 + 1 + 1]? = some (.cells (intArr (B ++ roomI 8)) 3)) := hoI
  clear hA hI hb hb2 hv1 hv10 hoE hoI
  go_enter Tryz.func97, Tryz.ntmps97
  go_wp2_with (first
    | (go_at_call 149; refine c1.mono ?_; clear c1; rintro e w2 ⟨rfl, hG2⟩; have hz2 := hG2.size; rw [HZ.out] at hz2; have k0 := (cellOfHeap ((hG2.block w.heap.size (by rw [HZ.out]; omega) (by simp; omega)).trans X0.out) 10).trans g10; have k1 := (cellOfHeap ((hG2.block (w.heap.size + 1) (by rw [HZ.out]; omega) (by simp; omega)).trans X1.out) 10).trans f10; have c2 := wholeInts_c B ba bcap v10 (w0.heap.size + 1 + 1 + 1) hB w0 w2 HI.out ((HB.out.trans (HB2.out.mono HB.out.size)).trans (gb_below hG2 (by omega) (by rw [HZ.out]; have := HB.out.size; omega))) (by omega) HV.out ((hG2.block _ (by rw [HZ.out]; omega) (by simp)).trans ((HB2.out.block _ sI).trans HOI.out)))
    | (go_at_call 150; refine c2.mono ?_; clear c2; rintro e w3 ⟨rfl, hG3⟩))
  go_ret
  exact ⟨rfl, ((HB2.out.mono HB.out.size).trans (gb_below hG2 (by omega) (by rw [HZ.out]; have := HB.out.size; omega))).trans (gb_below hG3 (by omega) (by have := HB.out.size; omega))⟩
end Go.Proofs.YtllcbnfmihfaaaaGreatDoor
