import Derived.Test.YtllcbnfmihfaaaaGreatDoorLq02
import Derived.Test.YtllcbnfmihfaaaaGreatDoorLq17
import Derived.Test.YtllcbnfmihfaaaaGreatDoorLq24
namespace Go.Proofs.YtllcbnfmihfaaaaGreatDoor
open Go.RowKit Go.Shelf

theorem below_drewN {B : Nat} {a w : World} (h : Below B a w) (n : Nat) : Below B a (w.drewN n) := h.trans ⟨rfl, rfl, rfl, Nat.le_refl _, fun _ _ => rfl⟩
theorem infoRulP : (Tryz.prog.info? 230).map (·.size) = some 3 := by kernel_rfl

/-- strings.Cut at one byte: two parts, none longer than the whole. -/
theorem cut_any (s : ByteArray) (hs : s.size ≤ 2000) : ∃ (p r : ByteArray) (b : Bool), p.data.toList = (Lib.cut s.data.toList [32]).1 ∧ r.data.toList = (Lib.cut s.data.toList [32]).2.1 ∧ p.size ≤ 2000 ∧ r.size ≤ 2000 ∧
    ∀ w, Glob w → Calls Tryz.prog 184 #[.string s, .string ⟨#[32]⟩] w fun e w' => e = .returned (.tuple #[.string p, .string r, .bool b]) ∧ Below w.heap.size w w' := by
  have hl : s.data.toList.length = s.size := Array.length_toList
  have hz : (Lib.cut s.data.toList [32]).1.length ≤ 2000 ∧ (Lib.cut s.data.toList [32]).2.1.length ≤ 2000 := by
    rcases cut_cases 32 s.data.toList with ⟨h, _⟩ | ⟨a, r, h, he, _⟩
    · rw [h]; simp; omega
    · have := congrArg List.length he
      rw [List.length_append, List.length_cons] at this
      rw [h]; simp; omega
  refine ⟨⟨(Lib.cut s.data.toList [32]).1.toArray⟩, ⟨(Lib.cut s.data.toList [32]).2.1.toArray⟩, (Lib.cut s.data.toList [32]).2.2, by simp, by simp, hz.1, hz.2, fun w hg => ?_⟩
  obtain ⟨m, hm⟩ := hg.mlen
  refine (Tryz.strings_Cut s ⟨#[32]⟩ m w (by omega) hm).mono ?_
  rintro e w' ⟨rfl, n, rfl⟩
  exact ⟨rfl, below_drewN (Below.refl _ _) n⟩

structure RlAt (w : World) (W : World) : Prop where
  below : Below w.heap.size w W
  res : W.heap[w.heap.size]? = some (.cells zRul 230)
theorem RlAt.step {w W W' : World} (h : RlAt w W) (hb : Below W.heap.size W W') : RlAt w W' :=
  ⟨h.below.trans (hb.mono h.below.size), (hb.block _ (Array.getElem?_eq_some_iff.1 h.res).1).trans h.res⟩
theorem rlAt_mk (w : World) : RlAt w (w.alloc (.cells zRul 230)) := ⟨(Below.refl _ _).alloc (Nat.le_refl _) _, heap_new _ _⟩

set_option maxRecDepth 100000 in
set_option maxHeartbeats 2000000 in
theorem readRule_any (s : ByteArray) (n : Nat) (w : World) (hs : s.size ≤ 2000) (hg : Glob w) :
    Calls Tryz.prog 136 #[.string s, .int .i64 n] w fun e w' =>
      ∃ a m cap x y, e = .returned (.tuple #[.agg (rulA a m cap x y), .bool (ruleB n s.data.toList)]) ∧ Below w.heap.size w w' := by
  have HIR : Hid ((Tryz.prog.info? 230).map (·.size) = some zRul.size) := infoRulP
  have HG : Hid (Glob w) := hg
  obtain ⟨p0, r0, b0, e0, e1, hp0, hr0, cC1⟩ := cut_any s hs
  obtain ⟨p1, r1, b1, e2, e3, hp1, hr1, cC2⟩ := cut_any r0 hr0
  have hv : ruleB n s.data.toList = (patB p0.data.toList && (labB p1.data.toList n && actV r1 != 0)) := by
    rw [← rule_eq]
    unfold ruleP
    rw [← e0, ← e1, ← e2, ← e3, back]
  have HV : Hid (ruleB n s.data.toList = (patB p0.data.toList && (labB p1.data.toList n && actV r1 != 0))) := hv
  clear e0 e1 e2 e3 hv hg
  have HR : Hid (RlAt w (w.alloc (.cells zRul 230))) := rlAt_mk w
  have cC1' := cC1 _ (HG.out.below HR.out.below)
  clear cC1
  go_enter Tryz.func136, Tryz.ntmps136
  go_wp2_with (fail)
  refine cC1'.mono ?_
  clear cC1'
  rintro e w2 ⟨rfl, hB2⟩
  have HR2 : Hid (RlAt w w2) := HR.out.step hB2
  clear hB2 HR
  have cC2' := cC2 _ (HG.out.below HR2.out.below)
  clear cC2
  go_wp2_with (fail)
  refine cC2'.mono ?_
  clear cC2'
  rintro e w3 ⟨rfl, hB3⟩
  have HR3 : Hid (RlAt w w3) := HR2.out.step hB3
  clear hB3 HR2
  have cP := readPattern_any p0 w3 hp0 (HG.out.below HR3.out.below)
  go_wp2_with (fail)
  refine cP.mono ?_
  clear cP
  rintro e w4 ⟨pa, pm, pc, rfl, hB4⟩
  have HR4 : Hid (RlAt w w4) := HR3.out.step hB4
  clear hB4 HR3
  cases h1 : patB p0.data.toList
  · have HF : Hid (ruleB n s.data.toList = false) := by show _ = _; rw [HV.out, h1]; rfl
    clear HV
    go_wp2_with (first
      | (go_at_call 186; refine (readLabel_any p1 n _).mono ?_; rintro e w5 ⟨rfl, rfl⟩)
      | (go_at_call 187; refine (readAction_any r1 _).mono ?_; rintro e w6 ⟨rfl, rfl⟩)
      | (refine wpList_store_row rfl 230 _ _ rfl w.heap.size zRul rfl rfl 230 zRul HR4.out.res HIR.out rfl zRul_all ?_))
    refine bodyPost_ret (results_row_tmp Tryz.results136 _ _ w.heap.size 230 zRul (0, 0) _ rfl (setRow_heap _ _ zRul _ _ _ HR4.out.res) Tryz.underlying230 rfl infoRulP (.bool false) rfl) rfl ⟨none, 0, 0, 0, 0, by rw [HF.out]; rfl, below_setRow HR4.out.below (by omega) _⟩
  · cases h2 : labB p1.data.toList n
    · have HF : Hid (ruleB n s.data.toList = false) := by show _ = _; rw [HV.out, h1, h2]; rfl
      clear HV
      have cL := fun w => readLabel_any p1 n w
      rw [h2] at cL
      clear h2
      go_wp2_with (first
        | (go_at_call 186; refine (cL _).mono ?_; rintro e w5 ⟨rfl, rfl⟩)
        | (go_at_call 187; refine (readAction_any r1 _).mono ?_; rintro e w6 ⟨rfl, rfl⟩)
        | (refine wpList_store_row rfl 230 _ _ rfl w.heap.size zRul rfl rfl 230 zRul HR4.out.res HIR.out rfl zRul_all ?_))
      refine bodyPost_ret (results_row_tmp Tryz.results136 _ _ w.heap.size 230 zRul (0, 0) _ rfl (setRow_heap _ _ zRul _ _ _ HR4.out.res) Tryz.underlying230 rfl infoRulP (.bool false) rfl) rfl ⟨none, 0, 0, 0, 0, by rw [HF.out]; rfl, below_setRow HR4.out.below (by omega) _⟩
    · have cL := fun w => readLabel_any p1 n w
      rw [h2] at cL
      have cA := fun w => readAction_any r1 w
      cases h3 : (actV r1 != 0)
      · have HF : Hid (ruleB n s.data.toList = false) := by show _ = _; rw [HV.out, h1, h2, h3]; rfl
        rw [h3] at cA
        clear HV h2 h3
        go_wp2_with (first
          | (go_at_call 186; refine (cL _).mono ?_; rintro e w5 ⟨rfl, rfl⟩)
          | (go_at_call 187; refine (cA _).mono ?_; rintro e w6 ⟨rfl, rfl⟩)
          | (refine wpList_store_row rfl 230 _ _ rfl w.heap.size zRul rfl rfl 230 zRul HR4.out.res HIR.out rfl zRul_all ?_))
        refine bodyPost_ret (results_row_tmp Tryz.results136 _ _ w.heap.size 230 zRul (0, 0) _ rfl (setRow_heap _ _ zRul _ _ _ HR4.out.res) Tryz.underlying230 rfl infoRulP (.bool false) rfl) rfl ⟨none, 0, 0, 0, 0, by rw [HF.out]; rfl, below_setRow HR4.out.below (by omega) _⟩
      · have HF : Hid (ruleB n s.data.toList = true) := by show _ = _; rw [HV.out, h1, h2, h3]; rfl
        rw [h3] at cA
        clear HV h2 h3
        generalize labI p1.data.toList = li at *
        generalize actV r1 = ai at *
        go_wp2_with (first
          | (go_at_call 186; refine (cL _).mono ?_; rintro e w5 ⟨rfl, rfl⟩)
          | (go_at_call 187; refine (cA _).mono ?_; rintro e w6 ⟨rfl, rfl⟩)
          | (refine wpList_store_row rfl 230 _ _ rfl w.heap.size (rulA pa pm pc li ai) rfl rfl 230 zRul HR4.out.res HIR.out rfl (rulA_all _ _ _ _ _) ?_))
        refine bodyPost_ret (results_row_tmp Tryz.results136 _ _ w.heap.size 230 (rulA pa pm pc li ai) (0, 0) _ rfl (setRow_heap _ _ zRul _ _ _ HR4.out.res) Tryz.underlying230 rfl infoRulP (.bool true) rfl) rfl ⟨_, _, _, _, _, by rw [HF.out], below_setRow HR4.out.below (by omega) _⟩
end Go.Proofs.YtllcbnfmihfaaaaGreatDoor
namespace Go.Proofs.YtllcbnfmihfaaaaGreatDoor
open Go.RowKit Go.Deep

/-- Texts in memory. -/
structure TxsAt (w : World) (a : Option Addr) (ss : List (List UInt8)) : Prop where
  at_ : ∀ i (h : i < ss.length), ∃ b off, a = some ⟨b, off, none⟩ ∧ b < w.heap.size ∧ w.cell? ⟨b, off + i, none⟩ = some (.string ⟨ss[i].toArray⟩)
theorem TxsAt.below {w w' : World} {a : Option Addr} {ss : List (List UInt8)} (h : TxsAt w a ss) (hb : Below w.heap.size w w') : TxsAt w' a ss :=
  ⟨fun i hi => by
    obtain ⟨b, off, h1, h2, h3⟩ := h.at_ i hi
    exact ⟨b, off, h1, Nat.lt_of_lt_of_le h2 hb.size, (hb.cell (p := ⟨b, _, none⟩) h2).trans h3⟩⟩
/-- Whether a segment takes the step j. -/
def tkJ (s : List UInt8) (ps : List (List UInt8 × Bool)) (j : Nat) : Bool := match ps[j]? with
  | some t => tkS (sgS s) t
  | none => false
/-- Up to which steps the segments so far have come, and one more, whose steps below k were looked at. -/
def nxG (s : List UInt8) (ps : List (List UInt8 × Bool)) (f : Nat → Bool) (k x : Nat) : Bool :=
  (List.range k).any fun j => f j && ((s == [42, 42] && decide (j ≤ x)) || (decide (x = j + 1) && tkJ s ps j))
theorem nxG_zero (s : List UInt8) (ps : List (List UInt8 × Bool)) (f : Nat → Bool) (x : Nat) : nxG s ps f 0 x = false := rfl
theorem nxG_succ (s : List UInt8) (ps : List (List UInt8 × Bool)) (f : Nat → Bool) (k x : Nat) : nxG s ps f (k + 1) x = (nxG s ps f k x || (f k && ((s == [42, 42] && decide (k ≤ x)) || (decide (x = k + 1) && tkJ s ps k)))) := by
  unfold nxG
  rw [any_succ]
theorem sg_star (s : List UInt8) : ((sgS s).1 = 1) ↔ (s == [42, 42]) = true := by
  unfold sgS
  by_cases h0 : (s == [42]) = true
  · rw [if_pos h0, eq_of_beq h0]
    decide
  · rw [if_neg h0]
    by_cases h1 : (s == [42, 42]) = true
    · rw [if_pos h1]
      exact ⟨fun _ => h1, fun _ => rfl⟩
    · rw [if_neg h1]
      refine ⟨fun h => ?_, fun h => absurd h h1⟩
      split at h <;> simp at h
theorem nxG_done (s : List UInt8) (ps : List (List UInt8 × Bool)) (f : Nat → Bool) (x : Nat) (hx : x ≤ ps.length) : nxG s ps f (ps.length + 1) x = rcS (sgS s) ps f x := by
  by_cases h1 : (s == [42, 42]) = true
  · have hs := (sg_star s).2 h1
    have ht : ∀ j, tkJ s ps j = false := by
      intro j
      unfold tkJ
      split
      · unfold tkS
        rw [if_neg (by omega), if_pos hs]
      · rfl
    have key : nxG s ps f (ps.length + 1) x = (List.range (x + 1)).any f := by
      unfold nxG
      rw [Bool.eq_iff_iff, List.any_eq_true, List.any_eq_true]
      constructor
      · rintro ⟨j, _, hj⟩
        rw [h1, ht] at hj
        simp at hj
        exact ⟨j, List.mem_range.2 (by omega), hj.1⟩
      · rintro ⟨j, hj, hf⟩
        have := List.mem_range.1 hj
        refine ⟨j, List.mem_range.2 (by omega), ?_⟩
        rw [h1, hf, decide_eq_true (by omega : j ≤ x)]
        rfl
    rw [key]
    cases x with
    | zero => rw [rcS, if_pos hs]; simp
    | succ x => rw [rcS, if_pos hs]
  · have h1' : (s == [42, 42]) = false := by simpa using h1
    have hs : ¬ (sgS s).1 = 1 := fun h => h1 ((sg_star s).1 h)
    cases x with
    | zero =>
      rw [rcS, if_neg hs]
      unfold nxG
      rw [List.any_eq_false]
      intro j _
      rw [h1']
      simp
    | succ x =>
      rw [rcS, if_neg hs]
      show nxG s ps f (ps.length + 1) (x + 1) = (f x && tkJ s ps x)
      unfold nxG
      rw [Bool.eq_iff_iff, List.any_eq_true]
      constructor
      · rintro ⟨j, _, hj⟩
        rw [h1'] at hj
        simp at hj
        obtain ⟨h2, h3, h4⟩ := hj
        have : x = j := by omega
        subst this
        rw [h2, h4]
        rfl
      · intro h
        rw [Bool.and_eq_true] at h
        refine ⟨x, List.mem_range.2 (by omega), ?_⟩
        rw [h.1, h.2]
        simp
theorem boolArr_ext (n : Nat) {S T : Nat → Bool} (h : ∀ x, x < n → S x = T x) : boolArr n S = boolArr n T := by
  apply Array.ext_getElem?
  intro i
  by_cases hi : i < n
  · rw [boolArr_at _ _ _ hi, boolArr_at _ _ _ hi, h i hi]
  · rw [Array.getElem?_eq_none (by rw [boolArr_size]; omega), Array.getElem?_eq_none (by rw [boolArr_size]; omega)]
/-- Where matches stands: the reach, and the next one. -/
structure MxAt (w : World) (b c N : Nat) (f g : Nat → Bool) (W : World) : Prop where
  below : Below w.heap.size w W
  lo : w.heap.size ≤ b ∧ w.heap.size ≤ c
  ne : b ≠ c
  re : W.heap[b]? = some (.cells (boolArr N f) 4)
  nx : W.heap[c]? = some (.cells (boolArr N g) 4)
theorem MxAt.next {w : World} {b c N : Nat} {f g : Nat → Bool} {W W' : World} (h : MxAt w b c N f g W) (hb : Below W.heap.size W W') : MxAt w b c N f g W' :=
  ⟨h.below.trans (hb.mono h.below.size), h.lo, h.ne, (hb.block _ (Array.getElem?_eq_some_iff.1 h.re).1).trans h.re, (hb.block _ (Array.getElem?_eq_some_iff.1 h.nx).1).trans h.nx⟩
theorem MxAt.set {w : World} {b c N : Nat} {f g : Nat → Bool} {W : World} (h : MxAt w b c N f g W) (k : Nat) : MxAt w b c N f (updS g k) (W.setCell ⟨c, k, none⟩ (.bool true)) :=
  ⟨h.below.setCell h.lo.2 _, h.lo, h.ne, (Below.heap_setCell _ _ _ _ (by simpa using h.ne)).trans h.re, by rw [heap_setCell_same W _ _ _ _ _ h.nx, boolArr_set]⟩
theorem MxAt.same {w : World} {b c N : Nat} {f g g' : Nat → Bool} {W : World} (h : MxAt w b c N f g W) (he : ∀ x, x < N → g x = g' x) : MxAt w b c N f g' W :=
  ⟨h.below, h.lo, h.ne, h.re, by rw [← boolArr_ext N he]; exact h.nx⟩
theorem MxAt.fr {w : World} {b c N : Nat} {f g : Nat → Bool} {W : World} (h : MxAt w b c N f g W) (k : Nat) (hk : k < N) : W.cell? ⟨b, k, none⟩ = some (.bool (f k)) := (cellOfHeap h.re k).trans (boolArr_at N f k hk)
theorem MxAt.gr {w : World} {b c N : Nat} {f g : Nat → Bool} {W : World} (h : MxAt w b c N f g W) (k : Nat) (hk : k < N) : W.cell? ⟨c, k, none⟩ = some (.bool (g k)) ∧ W.frozen? ⟨c, k, none⟩ = false := ⟨(cellOfHeap h.nx k).trans (boolArr_at N g k hk), frozen_of_row W c k _ _ h.nx⟩
/-- Where it stands between segments. -/
structure MyAt (w : World) (b N : Nat) (f : Nat → Bool) (W : World) : Prop where
  below : Below w.heap.size w W
  lo : w.heap.size ≤ b
  re : W.heap[b]? = some (.cells (boolArr N f) 4)
theorem mk_bools (n : Nat) (hn : n ≤ 4096) (w : World) : (Instr.makeSlice 299 (.int .i64 ((n : Int) + 1)) (.int .i64 ((n : Int) + 1))).run Tryz.prog w = .ok (.slice (some ⟨w.heap.size, 0, none⟩) (n + 1) (n + 1)) (w.alloc (.cells (boolArr (n + 1) fun _ => false) 4)) := by
  have h := run_make_row' (P := Tryz.prog) 299 4 (.bool false) 1 Tryz.underlying299 (by kernel_rfl) rfl .i64 .i64 (n + 1) (by omega) (by omega) w
  rw [boolArr_made] at h
  rw [← Int.natCast_succ]
  exact h
theorem MyAt.made {w : World} {b N : Nat} {f : Nat → Bool} {W : World} (h : MyAt w b N f W) : MxAt w b W.heap.size N f (fun _ => false) (W.alloc (.cells (boolArr N fun _ => false) 4)) :=
  ⟨h.below.alloc h.below.size _, ⟨h.lo, h.below.size⟩, by have := (Array.getElem?_eq_some_iff.1 h.re).1; omega, (Below.heap_alloc _ _ _ (Array.getElem?_eq_some_iff.1 h.re).1).trans h.re, heap_new _ _⟩
end Go.Proofs.YtllcbnfmihfaaaaGreatDoor
