import Derived.RangeFuncOwn
import Derived.RangeFuncFrom
import Derived.Below
import Derived.Test.YtllcbnfmihfaaaaGreatDoorLq08
namespace Go.Proofs.YtllcbnfmihfaaaaGreatDoor
open Go.RowKit

/-- Stands a byte at j that may stand there? -/
def okAt (lo hi : Int) (l : List UInt8) (j : Nat) : Bool :=
  decide (j < l.length) && (if j = 1 then decide (lo ≤ ((l.getD j 0).toNat : Int) ∧ ((l.getD j 0).toNat : Int) ≤ hi) else decide (128 ≤ (l.getD j 0).toNat ∧ (l.getD j 0).toNat ≤ 191))
def begF (lo hi : Int) (l : List UInt8) : Nat → Nat → Nat × Bool
  | 0, j => (j, true)
  | g + 1, j => if okAt lo hi l j then begF lo hi l g (j + 1) else (j, false)
def begV (l : List UInt8) : Nat × Bool :=
  if (secs (l.getD 0 0).toNat).2.2 = 0 then (0, false) else begF (secs (l.getD 0 0).toNat).1 (secs (l.getD 0 0).toNat).2.1 l ((secs (l.getD 0 0).toNat).2.2.toNat - 1) 1

theorem secs_k (c : Int) : (secs c).2.2 = 0 ∨ (secs c).2.2 = 1 ∨ (secs c).2.2 = 2 ∨ (secs c).2.2 = 3 ∨ (secs c).2.2 = 4 := by
  unfold secs
  repeat (first | (split; simp) | simp)

/-- The bytes from i to n. -/
def fromTo (s : ByteArray) (i n : Nat) : List UInt8 := (s.data.toList.take n).drop i
theorem fromTo_len (s : ByteArray) (i n : Nat) (h : n ≤ s.size) : (fromTo s i n).length = n - i := by
  unfold fromTo
  rw [List.length_drop, List.length_take]
  have : s.data.toList.length = s.size := Array.length_toList
  omega
theorem fromTo_get (s : ByteArray) (i n j : Nat) (h : n ≤ s.size) (hj : i + j < n) : (fromTo s i n).getD j 0 = s[i + j]'(by omega) := by
  unfold fromTo
  rw [List.getD_eq_getElem?_getD, List.getElem?_drop, List.getElem?_take, if_pos hj]
  have : i + j < s.data.toList.length := by
    have : s.data.toList.length = s.size := Array.length_toList
    omega
  rw [List.getElem?_eq_getElem this]
  rfl

set_option maxRecDepth 100000 in
set_option maxHeartbeats 1000000 in
theorem begins_any (s : ByteArray) (i n : Nat) (w : World) (hn : n ≤ s.size) (hi : i < n) (hs : s.size ≤ 4611686018427387904) :
    Calls Tryz.prog 68 #[.string s, .int .i64 i, .int .i64 n] w fun e w' => e = .returned (.tuple #[.int .i64 (begV (fromTo s i n)).1, .bool (begV (fromTo s i n)).2]) ∧ w' = w := by
  have hi0 : (i : Int) < s.size := by omega
  have his : i < s.size := by omega
  have HB0 : Hid (((fromTo s i n).getD 0 0) = s[i]) := fromTo_get s i n 0 hn (by omega)
  obtain ⟨lo, hi_, k, HK⟩ : ∃ lo hi_ k, Hid (secs (s[i].toNat : Int) = (lo, hi_, k)) := ⟨_, _, _, show secs _ = (_, _, _) from rfl⟩
  have hk := secs_k (s[i].toNat : Int)
  rw [HK.out] at hk
  simp only [] at hk
  have HV : Hid (begV (fromTo s i n) = if k = 0 then (0, false) else begF lo hi_ (fromTo s i n) (k.toNat - 1) 1) := by
    show _ = _
    unfold begV
    rw [HB0.out, HK.out]
  clear HB0
  by_cases h0 : k = 0
  · subst h0
    have HV2 : Hid (begV (fromTo s i n) = (0, false)) := by show _ = _; rw [HV.out, if_pos rfl]
    go_enter Tryz.func68, Tryz.ntmps68
    go_wp2_with (first
      | (go_at_call 112; refine (seconds_any _ _).mono ?_; rintro e w2 ⟨rfl, rfl⟩; rw [HK.out]))
    go_ret2
    exact ⟨by rw [HV2.out]; rfl, rfl⟩
  · obtain ⟨kn, rfl⟩ : ∃ kn : Nat, k = kn := ⟨k.toNat, by omega⟩
    have hk1 : 1 ≤ kn ∧ kn ≤ 4 := by simp at hk; omega
    have hk0 : ((kn : Int) == 0) = false := by rw [beq_eq_false_iff_ne]; omega
    have HV2 : Hid (begV (fromTo s i n) = begF lo hi_ (fromTo s i n) (kn - 1) 1) := by show _ = _; rw [HV.out, if_neg h0]; rfl
    go_enter Tryz.func68, Tryz.ntmps68
    go_wp2_with (first
      | (go_at_call 112; refine (seconds_any _ _).mono ?_; rintro e w2 ⟨rfl, rfl⟩; rw [HK.out]))
    go_loopg [11] (kn - 1) (fun g x wr => ∃ j : Nat, Hid (j + g = kn) ∧ x = .int .i64 j ∧ w2 = wr ∧ Hid (1 ≤ j) ∧ Hid (begV (fromTo s i n) = begF lo hi_ (fromTo s i n) g j))
    case atStart => exact ⟨1, by show _ = _; omega, rfl, rfl, Nat.le_refl 1, HV2.out⟩
    case round =>
      obtain ⟨j, hj, rfl, rfl, hj1, HL⟩ := hrel
      cases gk with
      | zero =>
        have hlt : ¬ (j : Int) < kn := by have := hj.out; omega
        go_wp2
        go_ret2
        exact ⟨by rw [HL.out]; have : j = kn := by have := hj.out; omega
                  subst this; rfl, rfl⟩
      | succ g =>
        have hlt : (j : Int) < kn := by have := hj.out; omega
        by_cases h1 : (n : Int) ≤ (i : Int) + j
        · have HF : Hid (begV (fromTo s i n) = (j, false)) := by
            show _ = _
            rw [HL.out, begF, okAt, fromTo_len _ _ _ hn, decide_eq_false (by omega)]
            rfl
          go_wp2
          go_ret2
          exact ⟨by rw [HF.out]; rfl, rfl⟩
        · have h1' : (i : Int) + j < n := by omega
          have h1s : (i : Int) + j < s.size := by omega
          have h1n : i + j < s.size := by omega
          have HO : Hid (okAt lo hi_ (fromTo s i n) j = if j = 1 then decide (lo ≤ (s[i + j].toNat : Int) ∧ (s[i + j].toNat : Int) ≤ hi_) else decide (128 ≤ s[i + j].toNat ∧ s[i + j].toNat ≤ 191)) := by
            show _ = _
            unfold okAt
            rw [fromTo_get s i n j hn (by omega), fromTo_len _ _ _ hn, decide_eq_true (by omega), Bool.true_and]
          have HT : Hid (okAt lo hi_ (fromTo s i n) j = true → begV (fromTo s i n) = begF lo hi_ (fromTo s i n) g (j + 1)) := fun h => by rw [HL.out, begF, if_pos h]
          have HF : Hid (okAt lo hi_ (fromTo s i n) j = false → begV (fromTo s i n) = (j, false)) := fun h => by rw [HL.out, begF, if_neg (by rw [h]; decide)]
          go_wp2
          all_goals first
            | (go_ret2
               have hF := HF.out (by rw [HO.out]; have := hj1.out; split <;> (apply decide_eq_false; omega))
               exact ⟨by rw [hF]; simp [*], rfl⟩)
            | (go_roundg g
               case measure => omega
               case rel =>
                 have hT := HT.out (by rw [HO.out]; have := hj1.out; split <;> (apply decide_eq_true; omega))
                 refine ⟨j + 1, by show _ = _; have := hj.out; omega, ?_, rfl, by show _ ≤ _; omega, hT⟩
                 first | go_num | (simp [*]; done))

theorem pair_eta {α β : Type} (p : α × β) : p = (p.1, p.2) := rfl
/-- How many bytes the character at the head has; 0: there is none. -/
def szL (l : List UInt8) : Nat := if (begV l).2 then (begV l).1 else 0
theorem size_any (s : ByteArray) (i : Nat) (w : World) (hi : i < s.size) (hs : s.size ≤ 4611686018427387904) :
    Calls Tryz.prog 43 #[.string s, .int .i64 i] w fun e w' => e = .returned (.int .i64 (szL (s.data.toList.drop i))) ∧ w' = w := by
  have HE : Hid (fromTo s i s.size = s.data.toList.drop i) := by
    show _ = _
    unfold fromTo
    have hl : s.data.toList.length = s.size := Array.length_toList
    rw [← hl, List.take_length]
  obtain ⟨k, b, HV⟩ : ∃ k b, Hid (begV (s.data.toList.drop i) = (k, b)) := ⟨_, _, pair_eta _⟩
  cases b
  · have HZ : Hid (szL (s.data.toList.drop i) = 0) := by show _ = _; unfold szL; rw [HV.out]; rfl
    go_enter Tryz.func43, Tryz.ntmps43
    go_wp2_with (first
      | (go_at_call 68; refine (begins_any s i s.size _ (Nat.le_refl _) hi hs).mono ?_; rintro e w2 ⟨rfl, rfl⟩; rw [HE.out, HV.out]))
    go_ret
    exact ⟨by rw [HZ.out]; rfl, rfl⟩
  · have HZ : Hid (szL (s.data.toList.drop i) = k) := by show _ = _; unfold szL; rw [HV.out]; rfl
    go_enter Tryz.func43, Tryz.ntmps43
    go_wp2_with (first
      | (go_at_call 68; refine (begins_any s i s.size _ (Nat.le_refl _) hi hs).mono ?_; rintro e w2 ⟨rfl, rfl⟩; rw [HE.out, HV.out]))
    go_ret
    exact ⟨by rw [HZ.out]; rfl, rfl⟩
end Go.Proofs.YtllcbnfmihfaaaaGreatDoor
namespace Go.Proofs.YtllcbnfmihfaaaaGreatDoor
open Go.RowKit

/-! A range over an iterator that KEEPS STATE OF ITS OWN IN A CELL (block st, laid ahead of the loop): the caller's invariant bears that this one block turns. -/

/-- The blocks from lo up to hi lie as they lay. -/
structure KeepR (lo hi : Nat) (W W' : World) : Prop where
  size : W.heap.size ≤ W'.heap.size
  same : ∀ k, lo ≤ k → k < hi → W'.heap[k]? = W.heap[k]?
theorem KeepR.refl (lo hi : Nat) (W : World) : KeepR lo hi W W := ⟨Nat.le_refl _, fun _ _ _ => rfl⟩
theorem KeepR.trans {lo hi : Nat} {A B C : World} (h : KeepR lo hi A B) (k : KeepR lo hi B C) : KeepR lo hi A C :=
  ⟨Nat.le_trans h.size k.size, fun i h1 h2 => (k.same i h1 h2).trans (h.same i h1 h2)⟩
theorem KeepR.put {lo hi : Nat} (W : World) (r : Nat) (o : Obj) (h : hi ≤ r) : KeepR lo hi W (W.putObj r o) :=
  ⟨by simp, fun k _ h2 => World.putObj_heap_other (by omega)⟩
theorem KeepR.below {lo hi : Nat} {W W' : World} (h : Below hi W W') : KeepR lo hi W W' := ⟨h.size, fun k _ h2 => h.block k h2⟩

/-- The invariant bears new blocks, and that block st turns. -/
def BearsSt {β : Type} (st : Nat) (I : β → World → Prop) : Prop := ∀ s W W', I s W → W.grownBy W' (some st) → I s W'
/-- It bears that a block that is no cells, from B on, turns. -/
def BearsPut {β : Type} (B : Nat) (I : β → World → Prop) : Prop := ∀ s W k (o o' : Obj), I s W → B ≤ k → W.heap[k]? = some o → o.isCells = false → I s (W.putObj k o')

/-- THE ITERATOR's CONTRACT. -/
def SeqSt {α : Type} (F : Fence) (n : Nat) (P : Program) (g : Nat) (lb : Array Value) (encs : α → Array Value) (lo hi st : Nat) (S Sp : List α → Prop) (w : World) : Prop :=
  ∀ (l : Nat) (J Jx : List α → World → Prop) (W : World), Below w.heap.size w W → BearsSt st J → BearsSt st Jx →
    (∀ pre x W1, J pre W1 → YieldAt F (n - 1) P l (encs x) W1 fun e W' =>
      (e = .returned (.bool true) ∧ J (pre ++ [x]) W' ∧ KeepR lo hi W1 W') ∨ (e = .returned (.bool false) ∧ Jx (pre ++ [x]) W')) →
    J [] W →
    CallsIn F n P g (#[.func (.yield l) #[] #[]] ++ lb) W fun e W' => (∃ v, e = .returned v) ∧ ((∃ xs, S xs ∧ J xs W') ∨ (∃ pre, Sp pre ∧ Jx pre W'))

/-- HOW A ROUND MAY BE LEFT. -/
def stPost {α : Type} (lo hi : Nat) (I : List α → World → Prop) (Ix : Code → List α → World → Prop) (xs : List α) (W : World) (e : Exit) (_ : Act) (W' : World) : Prop :=
  match e with
  | .normal => KeepsOthers W W' ∧ KeepR lo hi W W' ∧ I xs W'
  | .ret => KeepsOthers W W' ∧ Ix .ret xs W'
  | .exit id => KeepsOthers W W' ∧ Ix (.exit id) xs W'
  | _ => False

variable {F : Fence} {n : Nat} {P : Program}

theorem wpIn_rangeFunc_st {α : Type} {g : Operand} {ps : Array Tmp} {assign body : Code} {Q : Exit → Act → World → Prop} {a : Act} {w : World}
    (hro : F.round = none) (h1 : 1 ≤ n) {gf : Nat} {lb : Array Value} (hg : a.eval g = .func (.func gf) #[] lb) (hFg : F.fn gf) (eg : ∀ args w, (callFunc gf args).run P w = .ok (.enter gf args) w)
    {encs : α → Array Value} {lo hi st : Nat} (hst : st < w.heap.size) (hhi : hi ≤ w.heap.size) {S Sp : List α → Prop} {w0 : World} (hseq : SeqSt F (n - 1) P gf lb encs lo hi st S Sp w0) (hb0 : Below w0.heap.size w0 w) (hps : ∀ x, (encs x).size = ps.size)
    (I : List α → World → Prop) (Ix : Code → List α → World → Prop) (hI : BearsSt st I) (hIx : ∀ c, BearsSt st (Ix c)) (hP : BearsPut w.heap.size I) (hPx : ∀ c, BearsPut w.heap.size (Ix c)) (h0 : I [] w) (a₁ : α → Act)
    (hassign : ∀ (l : Nat) (x : α) (W : World) (K : Act → World → Prop), K (a₁ x) W →
      assign.wpIn (F.inRound l) (n - 1 - 1) P (Exit.then K (fun _ _ _ => False)) { tmps := (ps.zip (encs x)).foldl (fun t (p, v) => t.setIfInBounds p v) a.tmps, defers := [] } W)
    (hbody : ∀ (l : Nat) (pre : List α) (x : α) (W : World), I pre W → w.heap.size < W.heap.size → body.wpIn (F.inRound l) (n - 1 - 1) P (stPost lo hi I Ix (pre ++ [x]) W) (a₁ x) W)
    (hdone : ∀ (D : Nat) (xs : List α) (W : World), w.heap.size ≤ D → S xs → I xs W → W.heap[D]? = some (.deferred (some [])) → Q .normal { a with defers := { target := .collected D, args := #[] } :: a.defers } W)
    (hstop : ∀ (D : Nat) (c : Code) (pre : List α) (W : World), w.heap.size ≤ D → Sp pre → Ix c pre W → W.heap[D]? = some (.deferred (some [])) → c.wpIn F n P Q { a with defers := { target := .collected D, args := #[] } :: a.defers } W) :
    (Code.rangeFunc g ps assign body).wpIn F n P Q a w := by
  refine wpIn_rangeFunc fun fn hfn => ?_
  rw [hro]
  -- THE TWO BLOCKS OF THE BOOK-KEEPING: D (deferred calls), l (the record)
  generalize hD : w.heap.size = D at *
  obtain ⟨rd, hrd⟩ : ∃ rd : LoopState → Option Code → Loop, rd = fun s p => { state := s, pending := p, fn, tmps := a.tmps, params := ps, assign, body, defers := D } := ⟨_, rfl⟩
  have hen := run_enterLoop_outer (P := P) (w := w) fn a.tmps ps assign body
  rw [hD] at hen
  have eqW : (w.alloc (.deferred (some []))).alloc (.loop { state := .ready, pending := none, fn, tmps := a.tmps, params := ps, assign, body, defers := D }) = (w.alloc (.deferred (some []))).alloc (.loop (rd .ready none)) := by rw [hrd]
  rw [eqW] at hen
  have b1 : Below D w ((w.alloc (.deferred (some []))).alloc (.loop (rd .ready none))) := by
    rw [← hD]; exact ((Below.refl _ w).alloc (Nat.le_refl _) _).alloc (by simp) _
  have l1 : ((w.alloc (.deferred (some []))).alloc (.loop (rd .ready none))).heap[D + 1]? = some (.loop (rd .ready none)) := by
    have := World.alloc_heap_new (w.alloc (.deferred (some []))) (.loop (rd .ready none))
    rwa [World.size_alloc, hD] at this
  have d1 : ((w.alloc (.deferred (some []))).alloc (.loop (rd .ready none))).heap[D]? = some (.deferred (some [])) := by
    have := World.alloc_heap_new w (.deferred (some []))
    rw [hD] at this
    exact (Below.heap_alloc _ _ _ (by simp; omega)).trans this
  have i1 : I [] ((w.alloc (.deferred (some []))).alloc (.loop (rd .ready none))) := by
    refine hI _ w _ h0 ⟨rfl, rfl, rfl, by simp; omega, fun k hk _ => ?_⟩
    exact b1.block k (by omega)
  generalize (w.alloc (.deferred (some []))).alloc (.loop (rd .ready none)) = W1 at *
  refine ⟨D + 1, [{ target := .collected D, args := #[] }], W1, { target := .fn (.func gf) lb, args := #[.func (.yield (D + 1)) #[] #[]] }, W1, gf, #[.func (.yield (D + 1)) #[] #[]] ++ lb, W1, hen, ?_, ?_, ?_, fun _ => h1, ?_⟩
  · simp only [resolve, hg]
    simp [go_sem]
  · intro f' hf'
    simp [Target.leads] at hf'
    subst hf'
    exact hFg
  · simp [invoke, go_sem, eg]
  -- the two blocks lie beside whatever turns at st
  have keep : ∀ {A B : World} {k : Nat} {o : Obj}, D ≤ k → A.grownBy B (some st) → A.heap[k]? = some o → B.heap[k]? = some o := by
    intro A B k o hk hgr ho
    exact (hgr.block k (Array.getElem?_eq_some_iff.1 ho).1 (by simp; omega)).trans ho
  refine (hseq (D + 1) (fun pre W => I pre W ∧ W.heap[D + 1]? = some (.loop (rd .ready none)) ∧ W.heap[D]? = some (.deferred (some [])))
    (fun pre W => ∃ c, Ix c pre W ∧ W.heap[D + 1]? = some (.loop (rd .done (some c))) ∧ W.heap[D]? = some (.deferred (some [])))
    W1 (hb0.trans (b1.mono (by have := hb0.size; omega))) (fun s A B h hgr => ⟨hI s A B h.1 hgr, keep (by omega) hgr h.2.1, keep (Nat.le_refl _) hgr h.2.2⟩)
    (fun s A B h hgr => by
      obtain ⟨c, hc, hl, hd⟩ := h
      exact ⟨c, hIx c s A B hc hgr, keep (by omega) hgr hl, keep (Nat.le_refl _) hgr hd⟩) ?_ ⟨i1, l1, d1⟩).mono ?_
  · rintro pre x W ⟨hin, hl, hd⟩
    have hlt : D + 1 < W.heap.size := (Array.getElem?_eq_some_iff.1 hl).1
    have hy := run_yield (P := P) (args := encs x) hl (by rw [hrd]; exact hps x)
    rw [hrd] at hy
    refine ⟨fn, _, assign, body, hy, roundIn_of_wpIn hfn (hassign _ x W _ ⟨_, run_beginRound hl (by rw [hrd]), ?_⟩)⟩
    generalize hWb : W.putObj (D + 1) (.loop { rd .ready none with state := .busy }) = Wb
    have lb2 : Wb.heap[D + 1]? = some (.loop { rd .ready none with state := .busy }) := by rw [← hWb]; exact World.putObj_heap_same hlt
    have db2 : Wb.heap[D]? = some (.deferred (some [])) := by rw [← hWb]; exact (World.putObj_heap_other (by omega)).trans hd
    have ib2 : I pre Wb := by rw [← hWb]; exact hP pre W (D + 1) _ _ hin (by omega) hl rfl
    have kW : KeepR lo hi W Wb := by rw [← hWb]; exact KeepR.put W (D + 1) _ (by omega)
    refine wpIn_mono (hbody _ pre x Wb ib2 (by have := (Array.getElem?_eq_some_iff.1 lb2).1; omega)) ?_
    -- the round's end turns the record alone
    have fin : ∀ (jump : Option Code) (W3 : World), KeepsOthers Wb W3 →
        (Instr.endRound (D + 1) jump).run P W3 = .ok (.bool jump.isNone) (W3.putObj (D + 1) (.loop (rd (if jump.isNone then .ready else .done) jump))) ∧ W3.heap[D + 1]? = some (.loop { rd .ready none with state := .busy }) ∧
        (W3.putObj (D + 1) (.loop (rd (if jump.isNone then .ready else .done) jump))).heap[D + 1]? = some (.loop (rd (if jump.isNone then .ready else .done) jump)) ∧
        (W3.putObj (D + 1) (.loop (rd (if jump.isNone then .ready else .done) jump))).heap[D]? = some (.deferred (some [])) := by
      intro jump W3 hk
      have hl3 := hk.same _ _ lb2 rfl
      refine ⟨?_, hl3, World.putObj_heap_same (Array.getElem?_eq_some_iff.1 hl3).1, (World.putObj_heap_other (by omega)).trans (hk.same _ _ db2 rfl)⟩
      have := run_endRound (P := P) jump hl3
      rw [hrd] at this ⊢
      exact this
    intro e a3 W3 hp
    match e, hp with
    | .normal, ⟨hk, hr, hi3⟩ =>
      obtain ⟨hrun, hl3, hl4, hd4⟩ := fin none W3 hk
      exact ⟨_, _, hrun, .inl ⟨rfl, ⟨hP _ W3 (D + 1) _ _ hi3 (by omega) hl3 rfl, hl4, hd4⟩, (kW.trans hr).trans (KeepR.put W3 (D + 1) _ (by omega))⟩⟩
    | .ret, ⟨hk, hi3⟩ =>
      obtain ⟨hrun, hl3, hl4, hd4⟩ := fin (some .ret) W3 hk
      exact ⟨_, _, hrun, .inr ⟨rfl, .ret, hPx _ _ W3 (D + 1) _ _ hi3 (by omega) hl3 rfl, hl4, hd4⟩⟩
    | .exit id, ⟨hk, hi3⟩ =>
      obtain ⟨hrun, hl3, hl4, hd4⟩ := fin (some (.exit id)) W3 hk
      exact ⟨_, _, hrun, .inr ⟨rfl, .exit id, hPx _ _ W3 (D + 1) _ _ hi3 (by omega) hl3 rfl, hl4, hd4⟩⟩
  · rintro e W2 ⟨⟨v, rfl⟩, h⟩
    rcases h with ⟨xs, hS, hin, hl, hd⟩ | ⟨pre, hSp, c, hin, hl, hd⟩
    · have hrun := run_endLoop (P := P) hl (by rw [hrd]; simp)
      rw [hrd] at hrun
      exact ⟨none, _, hrun, hdone D xs _ (Nat.le_refl _) hS (hP _ W2 (D + 1) _ _ hin (by omega) hl rfl) ((World.putObj_heap_other (by omega)).trans hd)⟩
    · have hrun := run_endLoop (P := P) hl (by rw [hrd]; simp)
      rw [hrd] at hrun
      exact ⟨some c, _, hrun, hstop D c pre _ (Nat.le_refl _) hSp (hPx c _ W2 (D + 1) _ _ hin (by omega) hl rfl) ((World.putObj_heap_other (by omega)).trans hd)⟩
end Go.Proofs.YtllcbnfmihfaaaaGreatDoor
