import Derived.Test.YtllcbnfmihfaaaaGreatDoorLq04
namespace Go.Proofs.YtllcbnfmihfaaaaGreatDoor
open Go.RowKit

def zCfg : Array Value := #[.int .i64 0, .slice none 0 0, .int .i64 0, .string ByteArray.empty, .int .i64 0, .int .i64 0, .int .i64 0, .int .i64 0, .int .i64 0, .int .i64 0, .slice none 0 0]
theorem run_allocCfg (ρ : Operand → Value) (o : Oper) (ho : o.op = .alloc 45) (w : World) : (execOp ρ o).run Tryz.prog w = .ok (.value (.pointer (some ⟨w.heap.size, 0, none⟩))) (w.alloc (.cells zCfg 45)) := by
  unfold execOp
  rw [ho]
  kernel_rfl
theorem wpList_allocCfg {ops : Array Oper} {rest : List Oper} {o : Oper} {a : Act} {w : World} {Q : Exit → Act → World → Prop} (hg : o.guard = none) (ho : o.op = .alloc 45) (d : Option Tmp) (hd : o.dst = d) (N : Nat) (hN : w.heap.size = N)
    (h : wpList Tryz.prog ops Q rest (a.put d (.pointer (some ⟨N, 0, none⟩))) (w.alloc (.cells zCfg 45))) : wpList Tryz.prog ops Q (o :: rest) a w := by
  subst hN
  exact Great.wpList_allocTo hg d hd _ _ (run_allocCfg _ _ ho _) h

theorem make_edges (n : Nat) (h : (n + 8) * 16 ≤ 281474976710656) (w : World) :
    (Instr.makeSlice 43 (.int .i64 ((n : Int) + 8)) (.int .i64 ((n : Int) + 8))).run Tryz.prog w = .ok (.slice (some ⟨w.heap.size, 0, none⟩) (n + 8) (n + 8)) (w.alloc (.cells (edgeArr (List.replicate (n + 8) (0, 0))) 101)) := by
  obtain ⟨i, hi, hzz⟩ := Option.map_eq_some_iff.1 (show (Tryz.prog.info? 101).map (fun i => (i.zero, i.size, i.bytes)) = some (some (.agg #[.int .i64 0, .int .i64 0]), 2, 16) by kernel_rfl)
  simp only [Prod.mk.injEq] at hzz
  obtain ⟨hz, hs, hb⟩ := hzz
  have := run_make (P := Tryz.prog) w 43 101 i _ Tryz.underlying43 hi hz .i64 .i64 ((n : Int) + 8) ((n : Int) + 8) (by omega) (Int.le_refl _) (by rw [hb]; omega) (by omega)
  rw [this, hs]
  have e : ((n : Int) + 8).toNat = n + 8 := by omega
  rw [e]
  show Result.ok _ (w.alloc (.cells (madeCells #[.int .i64 0, .int .i64 0] ((n + 8) * 2)) _)) = _
  rw [edgeArr_made]
theorem make_ints (n : Nat) (h : (n + 8) * 8 ≤ 281474976710656) (w : World) :
    (Instr.makeSlice 25 (.int .i64 ((n : Int) + 8)) (.int .i64 ((n : Int) + 8))).run Tryz.prog w = .ok (.slice (some ⟨w.heap.size, 0, none⟩) (n + 8) (n + 8)) (w.alloc (.cells (intArr (List.replicate (n + 8) 0)) 3)) := by
  obtain ⟨i, hi, hzz⟩ := Option.map_eq_some_iff.1 (show (Tryz.prog.info? 3).map (fun i => (i.zero, i.size, i.bytes)) = some (some (.int .i64 0), 1, 8) by kernel_rfl)
  simp only [Prod.mk.injEq] at hzz
  obtain ⟨hz, hs, hb⟩ := hzz
  have := run_make (P := Tryz.prog) w 25 3 i _ Tryz.underlying25 hi hz .i64 .i64 ((n : Int) + 8) ((n : Int) + 8) (by omega) (Int.le_refl _) (by rw [hb]; omega) (by omega)
  rw [this, hs]
  have e : ((n : Int) + 8).toNat = n + 8 := by omega
  rw [e, Nat.mul_one]
  show Result.ok _ (w.alloc (.cells (madeCells #[.int .i64 0] (n + 8)) _)) = _
  rw [intArr_made]

/-- What 'lent' stands on. -/
structure LentAt (w W : World) (arr : Array Value) (E : List (Int × Int)) (I : List Int) : Prop where
  below : Below w.heap.size w W
  box : W.heap[w.heap.size]? = some (.cells arr 45)
  res : W.heap[w.heap.size + 1]? = some (.cells zCfg 45)
  e : W.heap[w.heap.size + 1 + 1]? = some (.cells (edgeArr E) 101)
  b : W.heap[w.heap.size + 1 + 1 + 1]? = some (.cells (intArr I) 3)
theorem LentAt.setE {w W : World} {arr : Array Value} {E : List (Int × Int)} {I : List Int} (h : LentAt w W arr E I) (i : Nat) (x y : Int) (hi : i < E.length) :
    LentAt w ((W.setCell ⟨w.heap.size + 1 + 1, i * 2, none⟩ (.int .i64 x)).setCell ⟨w.heap.size + 1 + 1, i * 2 + 1, none⟩ (.int .i64 y)) arr (E.set i (x, y)) I := by
  refine ⟨(h.below.setCell (by first | (simp; done) | (simp; omega)) _).setCell (by first | (simp; done) | (simp; omega)) _, ?_, ?_, ?_, ?_⟩
  · rw [heap_setCell_other _ _ _ _ (by first | (simp; done) | (simp; omega)), heap_setCell_other _ _ _ _ (by first | (simp; done) | (simp; omega))]; exact h.box
  · rw [heap_setCell_other _ _ _ _ (by simp), heap_setCell_other _ _ _ _ (by simp)]; exact h.res
  · rw [heap_setCell_same _ _ _ _ _ _ (heap_setCell_same _ _ _ _ _ _ h.e), edgeArr_set E i x y hi]
  · rw [heap_setCell_other _ _ _ _ (by simp), heap_setCell_other _ _ _ _ (by simp)]; exact h.b
theorem addr_add (b off j : Nat) : (⟨b, off, none⟩ : Addr).add j = ⟨b, off + j, none⟩ := by unfold Addr.add; split <;> simp_all
theorem edgesAt_src {W : World} {ea : Option Addr} {L : List (Int × Int)} (h : EdgesAt W ea L) : ∀ ad, ea = some ad → ∀ j v, (edgeCells L)[j]? = some v → W.cell? (ad.add j) = some v := by
  intro ad had j v hj
  have hlt : j < (edgeCells L).length := (List.getElem?_eq_some_iff.1 hj).1
  rw [edgeCells_length] at hlt
  obtain ⟨b, off, ha, _, h1, h2⟩ := h.at_ (j / 2) (by omega)
  rw [had] at ha
  cases ha
  rw [addr_add]
  have g := edgeCells_at L (j / 2) (by omega)
  have key : j = (j / 2) * 2 ∨ j = (j / 2) * 2 + 1 := by omega
  rcases key with h' | h'
  · have hv : v = .int .i64 L[j / 2].1 := by rw [h'] at hj; exact Option.some.inj (hj.symm.trans g.1)
    rw [hv, show off + j = off + j / 2 * 2 by omega]; exact h1
  · have hv : v = .int .i64 L[j / 2].2 := by rw [h'] at hj; exact Option.some.inj (hj.symm.trans g.2)
    rw [hv, show off + j = off + j / 2 * 2 + 1 by omega]; exact h2
theorem intsAt_src {W : World} {ba : Option Addr} {B : List Int} (h : IntsAt W ba B) : ∀ ad, ba = some ad → ∀ j v, (B.map fun x => Value.int .i64 x)[j]? = some v → W.cell? (ad.add j) = some v := by
  intro ad had j v hj
  have hlt : j < B.length := by have := (List.getElem?_eq_some_iff.1 hj).1; simpa using this
  obtain ⟨b, off, ha, _, h1⟩ := h.at_ j hlt
  rw [had] at ha
  cases ha
  rw [addr_add]
  simp [hlt] at hj
  rw [← hj]
  exact h1 j hlt
theorem edges_copied (L : List (Int × Int)) : (edgeCells L ++ (edgeArr (List.replicate (L.length + 8) (0, 0))).toList.drop (edgeCells L).length).toArray = edgeArr (L ++ roomE 0) := by
  have e : List.replicate (L.length + 8) ((0, 0) : Int × Int) = List.replicate L.length (0, 0) ++ List.replicate 8 (0, 0) := by rw [List.replicate_append_replicate]
  unfold edgeArr
  rw [e, edgeCells_append, edgeCells_append, roomE_zero]
  congr 2
  rw [edgeCells_length]
  have : (edgeCells (List.replicate L.length ((0, 0) : Int × Int))).length = L.length * 2 := by rw [edgeCells_length]; simp
  rw [← this]
  simp
theorem ints_copied (B : List Int) : ((B.map fun x => Value.int .i64 x) ++ (intArr (List.replicate (B.length + 8) 0)).toList.drop (B.map fun x => Value.int .i64 x).length).toArray = intArr (B ++ roomI 0) := by
  have e : List.replicate (B.length + 8) (0 : Int) = List.replicate B.length 0 ++ List.replicate 8 0 := by rw [List.replicate_append_replicate]
  unfold intArr
  rw [e, List.map_append, List.map_append]
  congr 2
  simp [roomI]
theorem LentAt.setI {w W : World} {arr : Array Value} {E : List (Int × Int)} {I : List Int} (h : LentAt w W arr E I) (i : Nat) (x : Int) :
    LentAt w (W.setCell ⟨w.heap.size + 1 + 1 + 1, i, none⟩ (.int .i64 x)) arr E (I.set i x) := by
  refine ⟨h.below.setCell (by first | (simp; done) | (simp; omega)) _, ?_, ?_, ?_, ?_⟩
  · rw [heap_setCell_other _ _ _ _ (by first | (simp; done) | (simp; omega))]; exact h.box
  · rw [heap_setCell_other _ _ _ _ (by first | (simp; done) | (simp; omega))]; exact h.res
  · rw [heap_setCell_other _ _ _ _ (by simp)]; exact h.e
  · rw [heap_setCell_same _ _ _ _ _ _ h.b, intArr_set]

theorem lentAt_mk (w : World) (arr : Array Value) (E : List (Int × Int)) (I : List Int) :
    LentAt w ((((w.alloc (.cells arr 45)).alloc (.cells zCfg 45)).alloc (.cells (edgeArr E) 101)).alloc (.cells (intArr I) 3)) arr E I := by
  refine ⟨((((Below.refl _ _).alloc (Nat.le_refl _) _).alloc (by simp) _).alloc (by first | (simp; done) | (simp; omega)) _).alloc (by first | (simp; done) | (simp; omega)) _, ?_, ?_, ?_, ?_⟩
  · rw [Below.heap_alloc _ _ _ (by first | (simp; done) | (simp; omega)), Below.heap_alloc _ _ _ (by first | (simp; done) | (simp; omega)), Below.heap_alloc _ _ _ (by simp)]; exact heap_new _ _
  · rw [Below.heap_alloc _ _ _ (by first | (simp; done) | (simp; omega)), Below.heap_alloc _ _ _ (by simp)]
    have := heap_new (w.alloc (.cells arr 45)) (.cells zCfg 45)
    rwa [World.size_alloc] at this
  · rw [Below.heap_alloc _ _ _ (by simp)]
    have := heap_new ((w.alloc (.cells arr 45)).alloc (.cells zCfg 45)) (.cells (edgeArr E) 101)
    rwa [World.size_alloc, World.size_alloc] at this
  · have := heap_new (((w.alloc (.cells arr 45)).alloc (.cells zCfg 45)).alloc (.cells (edgeArr E) 101)) (.cells (intArr I) 3)
    rwa [World.size_alloc, World.size_alloc, World.size_alloc] at this

theorem LentAt.setBox {w W : World} {arr : Array Value} {E : List (Int × Int)} {I : List Int} (h : LentAt w W arr E I) (j : Nat) (v : Value) :
    LentAt w (W.setCell ⟨w.heap.size, j, none⟩ v) (arr.setIfInBounds j v) E I :=
  ⟨h.below.setCell (Nat.le_refl _) _, heap_setCell_same _ _ _ _ _ _ h.box, (heap_setCell_other _ _ _ _ (by simp)).trans h.res, (heap_setCell_other _ _ _ _ (by simp; omega)).trans h.e, (heap_setCell_other _ _ _ _ (by simp; omega)).trans h.b⟩
/-- What 'lent' leaves. -/
structure LentOut (w W : World) (E : List (Int × Int)) (I : List Int) : Prop where
  below : Below w.heap.size w W
  e : W.heap[w.heap.size + 1 + 1]? = some (.cells (edgeArr E) 101)
  b : W.heap[w.heap.size + 1 + 1 + 1]? = some (.cells (intArr I) 3)
theorem LentAt.fin {w W : World} {arr : Array Value} {E : List (Int × Int)} {I : List Int} (h : LentAt w W arr E I) (X : Array Value) : LentOut w (W.setRow (w.heap.size + 1) X) E I :=
  ⟨below_setRow h.below (by omega) _, (setRow_other' _ _ _ _ (by omega)).trans h.e, (setRow_other' _ _ _ _ (by omega)).trans h.b⟩
theorem all_set {arr : Array Value} (h : arr.all (·.oneCell') = true) (j : Nat) {v : Value} (hv : v.oneCell' = true) : (arr.setIfInBounds j v).all (·.oneCell') = true := by
  rw [Array.all_eq_true_iff_forall_mem] at h ⊢
  intro x hx
  obtain ⟨i, hi, rfl⟩ := Array.getElem_of_mem hx
  have hi' : i < arr.size := by simpa using hi
  rw [Array.getElem_setIfInBounds hi']
  split
  · exact hv
  · exact h _ (Array.getElem_mem hi')
theorem zCfg_size {X : Array Value} (h : X.size = 11) : zCfg.size = X.size := by rw [h]; rfl

/-- The configuration with lists of the caller's own. -/
def lentArr (arr : Array Value) (w : World) (ea ba : Option Addr) (n m : Nat) : Array Value :=
  (if ba.isSome then (if ea.isSome then arr.setIfInBounds 1 (.slice (some ⟨w.heap.size + 1 + 1, 0, none⟩) n (n + 8)) else arr).setIfInBounds 10 (.slice (some ⟨w.heap.size + 1 + 1 + 1, 0, none⟩) m (m + 8))
   else (if ea.isSome then arr.setIfInBounds 1 (.slice (some ⟨w.heap.size + 1 + 1, 0, none⟩) n (n + 8)) else arr))

set_option maxRecDepth 100000 in
set_option maxHeartbeats 4000000 in
theorem lent_any (arr : Array Value) (L : List (Int × Int)) (ea : Option Addr) (ecap : Nat) (B : List Int) (ba : Option Addr) (bcap : Nat) (hs : arr.size = 11) (hone : arr.all (·.oneCell') = true) (f1 : arr[1]? = some (.slice ea L.length ecap)) (f10 : arr[10]? = some (.slice ba B.length bcap))
    (hen : ea = none → L.length = 0 ∧ ecap = 0) (hbn : ba = none → B.length = 0 ∧ bcap = 0)
    (hL : (L.length + 8) * 16 ≤ 281474976710656) (hB : (B.length + 8) * 8 ≤ 281474976710656) (w : World) (hA : EdgesAt w ea L) (hI : IntsAt w ba B) :
    Calls Tryz.prog 96 #[.agg arr] w fun e w' => e = .returned (.agg (lentArr arr w ea ba L.length B.length)) ∧ LentOut w w' (L ++ roomE 8) (B ++ roomI 8) := by
  have HA : Hid (EdgesAt (((w.alloc (.cells arr 45)).alloc (.cells zCfg 45)).alloc (.cells (edgeArr (List.replicate (L.length + 8) (0, 0))) 101)) ea L) := hA.below ((((Below.refl _ _).alloc (Nat.le_refl _) _).alloc (by simp) _).alloc (by first | (simp; done) | (simp; omega)) _)
  have HI : Hid (IntsAt ((((w.alloc (.cells arr 45)).alloc (.cells zCfg 45)).alloc (.cells (edgeArr (L ++ roomE 0)) 101)).alloc (.cells (intArr (List.replicate (B.length + 8) 0)) 3)) ba B) := hI.below (((((Below.refl _ _).alloc (Nat.le_refl _) _).alloc (by simp) _).alloc (by first | (simp; done) | (simp; omega)) _).alloc (by first | (simp; done) | (simp; omega)) _)
  clear hA hI
  have mk1 := make_edges L.length hL
  have mk2 := make_ints B.length hB
  have HS : Hid (arr.size = 11) := hs
  have HO : Hid (arr.all (·.oneCell') = true) := hone
  have HEN : Hid (ea = none → L.length = 0 ∧ ecap = 0) := hen
  have HBN : Hid (ba = none → B.length = 0 ∧ bcap = 0) := hbn
  clear hs hone hen hbn
  have G1 : Hid ((((w.alloc (.cells arr 45)).alloc (.cells zCfg 45)).alloc (.cells (edgeArr (List.replicate (L.length + 8) (0, 0))) 101)).heap[w.heap.size + 1 + 1]? = some (.cells (edgeArr (List.replicate (L.length + 8) (0, 0))) 101)) := by
    have := heap_new ((w.alloc (.cells arr 45)).alloc (.cells zCfg 45)) (.cells (edgeArr (List.replicate (L.length + 8) (0, 0))) 101)
    rwa [World.size_alloc, World.size_alloc] at this
  have G2 : Hid (((((w.alloc (.cells arr 45)).alloc (.cells zCfg 45)).alloc (.cells (edgeArr (L ++ roomE 0)) 101)).alloc (.cells (intArr (List.replicate (B.length + 8) 0)) 3)).heap[w.heap.size + 1 + 1 + 1]? = some (.cells (intArr (List.replicate (B.length + 8) 0)) 3)) := by
    have := heap_new (((w.alloc (.cells arr 45)).alloc (.cells zCfg 45)).alloc (.cells (edgeArr (L ++ roomE 0)) 101)) (.cells (intArr (List.replicate (B.length + 8) 0)) 3)
    rwa [World.size_alloc, World.size_alloc, World.size_alloc] at this
  have D1 : Hid ((((w.alloc (.cells arr 45)).alloc (.cells zCfg 45)).alloc (.cells (edgeArr (List.replicate (L.length + 8) (0, 0))) 101)).setRow (w.heap.size + 1 + 1) (edgeCells L ++ (edgeArr (List.replicate (L.length + 8) (0, 0))).toList.drop (edgeCells L).length).toArray =
      ((w.alloc (.cells arr 45)).alloc (.cells zCfg 45)).alloc (.cells (edgeArr (L ++ roomE 0)) 101)) := by
    show _ = _
    rw [edges_copied]
    have := World.setRow_alloc_new ((w.alloc (.cells arr 45)).alloc (.cells zCfg 45)) (edgeArr (List.replicate (L.length + 8) (0, 0))) (edgeArr (L ++ roomE 0)) 101
    rwa [World.size_alloc, World.size_alloc] at this
  have D2 : Hid (((((w.alloc (.cells arr 45)).alloc (.cells zCfg 45)).alloc (.cells (edgeArr (L ++ roomE 0)) 101)).alloc (.cells (intArr (List.replicate (B.length + 8) 0)) 3)).setRow (w.heap.size + 1 + 1 + 1) ((B.map fun x => Value.int .i64 x) ++ (intArr (List.replicate (B.length + 8) 0)).toList.drop (B.map fun x => Value.int .i64 x).length).toArray =
      (((w.alloc (.cells arr 45)).alloc (.cells zCfg 45)).alloc (.cells (edgeArr (L ++ roomE 0)) 101)).alloc (.cells (intArr (B ++ roomI 0)) 3)) := by
    show _ = _
    rw [ints_copied]
    have := World.setRow_alloc_new (((w.alloc (.cells arr 45)).alloc (.cells zCfg 45)).alloc (.cells (edgeArr (L ++ roomE 0)) 101)) (intArr (List.replicate (B.length + 8) 0)) (intArr (B ++ roomI 0)) 3
    rwa [World.size_alloc, World.size_alloc, World.size_alloc] at this
  have HT : Hid (LentAt w _ arr (L ++ roomE 0) (B ++ roomI 0)) := lentAt_mk w arr (L ++ roomE 0) (B ++ roomI 0)
  go_enter Tryz.func96, Tryz.ntmps96
  go_wp2_with (first
    | (refine wpList_allocCfg rfl rfl _ rfl (w.heap.size + 1) ?hN ?_; case hN => (simp only [World.size_alloc]; done))
    | (refine wpList_copy_z _ _ 43 43 rfl rfl 101 Tryz.underlying43 2 (by kernel_rfl) (w.heap.size + 1 + 1) (L.length + 8) (L.length + 8) ea L.length ecap rfl rfl _ _ G1.out (edgeCells L) ?hn ?h1 (edgesAt_src HA.out) ?h2 (edgeCells_one L) ?_; (case hn => (rw [edgeCells_length, show Nat.min L.length (L.length + 8) = L.length from Nat.min_eq_left (by omega)])); (case h1 => (intro hh; rw [(HEN.out hh).1]; exact Nat.min_eq_left (by omega))); (case h2 => (rw [edgeCells_length, edgeArr_size]; simp; omega)); rw [D1.out])
    | (refine wpList_copy_z _ _ 25 25 rfl rfl 3 Tryz.underlying25 1 (by kernel_rfl) (w.heap.size + 1 + 1 + 1) (B.length + 8) (B.length + 8) ba B.length bcap rfl rfl _ _ G2.out (B.map fun x => Value.int .i64 x) ?hn ?h1 (intsAt_src HI.out) ?h2 ?h3 ?_; (case hn => (rw [List.length_map, show Nat.min B.length (B.length + 8) = B.length from Nat.min_eq_left (by omega), Nat.mul_one])); (case h1 => (intro hh; rw [(HBN.out hh).1]; exact Nat.min_eq_left (by omega))); (case h2 => (rw [List.length_map, intArr_size]; simp)); (case h3 => (intro v hv; obtain ⟨x, _, rfl⟩ := List.mem_map.1 hv; rfl)); rw [D2.out]))
  clear mk1 mk2 G1 G2 D1 D2 HA HI
  generalize (((w.alloc (.cells arr 45)).alloc (.cells zCfg 45)).alloc (.cells (edgeArr (L ++ roomE 0)) 101)).alloc (.cells (intArr (B ++ roomI 0)) 3) = W0 at *
  go_loopg [7] 8 (fun g x wr => ∃ k : Nat, Hid (k + g = 8) ∧ x = .int .i64 k ∧ Hid (LentAt w wr arr (L ++ roomE k) (B ++ roomI k)))
  case atStart => exact ⟨0, by show _ = _; omega, rfl, HT⟩
  case round =>
    clear HT
    obtain ⟨k, hk, rfl, HK⟩ := hrel
    cases gk with
    | succ g =>
      have hk8 : k < 8 := by have := hk.out; omega
      have hlt : (k : Int) < 8 := by omega
      have hlE : L.length + k < (L ++ roomE k).length := by rw [List.length_append, roomE_length k (by omega)]; omega
      have hlI : B.length + k < (B ++ roomI k).length := by rw [List.length_append, roomI_length k (by omega)]; omega
      obtain ⟨v1, hc1⟩ : ∃ v1, wr.cell? ⟨w.heap.size + 1 + 1, (L.length + k) * 2, none⟩ = some v1 := ⟨_, (cellOfHeap HK.out.e _).trans (edgeArr_at _ _ hlE).1⟩
      obtain ⟨v2, hc2⟩ : ∃ v2, wr.cell? ⟨w.heap.size + 1 + 1, (L.length + k) * 2 + 1, none⟩ = some v2 := ⟨_, (cellOfHeap HK.out.e _).trans (edgeArr_at _ _ hlE).2⟩
      obtain ⟨v3, hc3⟩ : ∃ v3, wr.cell? ⟨w.heap.size + 1 + 1 + 1, B.length + k, none⟩ = some v3 := ⟨_, (cellOfHeap HK.out.b _).trans (intArr_at _ _ hlI)⟩
      have hf1 := fun j => frozen_of_row wr (w.heap.size + 1 + 1) j _ _ HK.out.e
      have hf2 := fun j => frozen_of_row wr (w.heap.size + 1 + 1 + 1) j _ _ HK.out.b
      have HE : Hid (L.length + k < (L ++ roomE k).length) := hlE
      clear hlE hlI
      go_wp2
      go_roundg g
      case measure => omega
      case rel =>
        refine ⟨k + 1, by show _ = _; have := hk.out; omega, by go_num, ?_⟩
        have h1 := (HK.out.setE (L.length + k) 77 77 HE.out).setI (B.length + k) 77
        rw [set_room, set_room, roomE_set k hk8, roomI_set k hk8] at h1
        exact h1
    | zero =>
      have hlt : ¬ (k : Int) < 8 := by have := hk.out; omega
      have e8 : k = 8 := by have := hk.out; omega
      subst e8
      have hc1 := (cellOfHeap HK.out.box 1).trans f1
      have hc10 := (cellOfHeap HK.out.box 10).trans f10
      have hq1 := fun w => run_neq_slice_nil_any (P := Tryz.prog) w 43 101 ea L.length ecap 0 0 Tryz.underlying43
      have hq2 := fun w => run_neq_slice_nil_any (P := Tryz.prog) w 25 3 ba B.length bcap 0 0 Tryz.underlying25
      have hfz := fun j => frozen_of_row wr w.heap.size j _ _ HK.out.box
      cases ea with
      | none =>
        cases ba with
        | none =>
          have HF : Hid (LentAt w _ arr (L ++ roomE 8) (B ++ roomI 8)) := HK.out
          have HZ : Hid (arr.size = 11) := HS
          have HN : Hid (Array.all (arr) (·.oneCell') = true) := HO
          go_wp2_with (first
            | (refine wpList_load_row rfl 45 _ rfl _ rfl _ _ _ _ HF.out.box Tryz.underlying45 rfl (infoCfg HZ.out) ?_)
            | (refine wpList_store_row rfl 45 _ _ rfl (w.heap.size + 1) _ rfl rfl 45 zCfg HF.out.res (infoCfg HZ.out) (zCfg_size HZ.out) HN.out ?_))
          exact bodyPost_ret (results_cell_row Tryz.results96 _ _ (w.heap.size + 1) 45 (arr) (0, 0) _ rfl (setRow_heap _ _ zCfg _ _ _ HF.out.res) Tryz.underlying45 rfl (infoCfg HZ.out)) rfl ⟨rfl, HF.out.fin _⟩
        | some bad =>
          have HF : Hid (LentAt w _ (arr.setIfInBounds 10 (.slice (some ⟨w.heap.size + 1 + 1 + 1, 0, none⟩) B.length (B.length + 8))) (L ++ roomE 8) (B ++ roomI 8)) := HK.out.setBox 10 _
          have HZ : Hid (Array.size ((arr.setIfInBounds 10 (.slice (some ⟨w.heap.size + 1 + 1 + 1, 0, none⟩) B.length (B.length + 8)))) = 11) := by show _ = _; simp only [Array.size_setIfInBounds]; exact HS.out
          have HN : Hid (Array.all ((arr.setIfInBounds 10 (.slice (some ⟨w.heap.size + 1 + 1 + 1, 0, none⟩) B.length (B.length + 8)))) (·.oneCell') = true) := all_set HO.out 10 rfl
          go_wp2_with (first
            | (refine wpList_load_row rfl 45 _ rfl _ rfl _ _ _ _ HF.out.box Tryz.underlying45 rfl (infoCfg HZ.out) ?_)
            | (refine wpList_store_row rfl 45 _ _ rfl (w.heap.size + 1) _ rfl rfl 45 zCfg HF.out.res (infoCfg HZ.out) (zCfg_size HZ.out) HN.out ?_))
          exact bodyPost_ret (results_cell_row Tryz.results96 _ _ (w.heap.size + 1) 45 ((arr.setIfInBounds 10 (.slice (some ⟨w.heap.size + 1 + 1 + 1, 0, none⟩) B.length (B.length + 8)))) (0, 0) _ rfl (setRow_heap _ _ zCfg _ _ _ HF.out.res) Tryz.underlying45 rfl (infoCfg HZ.out)) rfl ⟨rfl, HF.out.fin _⟩
      | some ead =>
        cases ba with
        | none =>
          have HF : Hid (LentAt w _ (arr.setIfInBounds 1 (.slice (some ⟨w.heap.size + 1 + 1, 0, none⟩) L.length (L.length + 8))) (L ++ roomE 8) (B ++ roomI 8)) := HK.out.setBox 1 _
          have HZ : Hid (Array.size ((arr.setIfInBounds 1 (.slice (some ⟨w.heap.size + 1 + 1, 0, none⟩) L.length (L.length + 8)))) = 11) := by show _ = _; simp only [Array.size_setIfInBounds]; exact HS.out
          have HN : Hid (Array.all ((arr.setIfInBounds 1 (.slice (some ⟨w.heap.size + 1 + 1, 0, none⟩) L.length (L.length + 8)))) (·.oneCell') = true) := all_set HO.out 1 rfl
          go_wp2_with (first
            | (refine wpList_load_row rfl 45 _ rfl _ rfl _ _ _ _ HF.out.box Tryz.underlying45 rfl (infoCfg HZ.out) ?_)
            | (refine wpList_store_row rfl 45 _ _ rfl (w.heap.size + 1) _ rfl rfl 45 zCfg HF.out.res (infoCfg HZ.out) (zCfg_size HZ.out) HN.out ?_))
          exact bodyPost_ret (results_cell_row Tryz.results96 _ _ (w.heap.size + 1) 45 ((arr.setIfInBounds 1 (.slice (some ⟨w.heap.size + 1 + 1, 0, none⟩) L.length (L.length + 8)))) (0, 0) _ rfl (setRow_heap _ _ zCfg _ _ _ HF.out.res) Tryz.underlying45 rfl (infoCfg HZ.out)) rfl ⟨rfl, HF.out.fin _⟩
        | some bad =>
          have HF : Hid (LentAt w _ ((arr.setIfInBounds 1 (.slice (some ⟨w.heap.size + 1 + 1, 0, none⟩) L.length (L.length + 8))).setIfInBounds 10 (.slice (some ⟨w.heap.size + 1 + 1 + 1, 0, none⟩) B.length (B.length + 8))) (L ++ roomE 8) (B ++ roomI 8)) := (HK.out.setBox 1 _).setBox 10 _
          have HZ : Hid (Array.size (((arr.setIfInBounds 1 (.slice (some ⟨w.heap.size + 1 + 1, 0, none⟩) L.length (L.length + 8))).setIfInBounds 10 (.slice (some ⟨w.heap.size + 1 + 1 + 1, 0, none⟩) B.length (B.length + 8)))) = 11) := by show _ = _; simp only [Array.size_setIfInBounds]; exact HS.out
          have HN : Hid (Array.all (((arr.setIfInBounds 1 (.slice (some ⟨w.heap.size + 1 + 1, 0, none⟩) L.length (L.length + 8))).setIfInBounds 10 (.slice (some ⟨w.heap.size + 1 + 1 + 1, 0, none⟩) B.length (B.length + 8)))) (·.oneCell') = true) := all_set (all_set HO.out 1 rfl) 10 rfl
          go_wp2_with (first
            | (refine wpList_load_row rfl 45 _ rfl _ rfl _ _ _ _ HF.out.box Tryz.underlying45 rfl (infoCfg HZ.out) ?_)
            | (refine wpList_store_row rfl 45 _ _ rfl (w.heap.size + 1) _ rfl rfl 45 zCfg HF.out.res (infoCfg HZ.out) (zCfg_size HZ.out) HN.out ?_))
          exact bodyPost_ret (results_cell_row Tryz.results96 _ _ (w.heap.size + 1) 45 (((arr.setIfInBounds 1 (.slice (some ⟨w.heap.size + 1 + 1, 0, none⟩) L.length (L.length + 8))).setIfInBounds 10 (.slice (some ⟨w.heap.size + 1 + 1 + 1, 0, none⟩) B.length (B.length + 8)))) (0, 0) _ rfl (setRow_heap _ _ zCfg _ _ _ HF.out.res) Tryz.underlying45 rfl (infoCfg HZ.out)) rfl ⟨rfl, HF.out.fin _⟩
end Go.Proofs.YtllcbnfmihfaaaaGreatDoor
