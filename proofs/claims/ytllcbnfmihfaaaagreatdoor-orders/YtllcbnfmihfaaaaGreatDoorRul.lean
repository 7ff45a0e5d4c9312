import Derived.Test.YtllcbnfmihfaaaaGreatDoorPat
import Derived.Test.YtllcbnfmihfaaaaGreatDoorPolO
namespace Go.Proofs.YtllcbnfmihfaaaaGreatDoor
open Go.RowKit Go.Shelf

theorem below_drewN {B : Nat} {a w : World} (h : Below B a w) (n : Nat) : Below B a (w.drewN n) := h.trans ⟨rfl, rfl, rfl, Nat.le_refl _, fun _ _ => rfl⟩
theorem infoRulP : (Tryz.prog.info? 230).map (·.size) = some 3 := by kernel_rfl

/-- strings.Cut at one byte: two parts, none longer than the whole. -/
theorem cut_any (s : ByteArray) (hs : s.size ≤ 2000) : ∃ (p r : ByteArray) (b : Bool), p.data.toList = (Lib.cut s.data.toList [32]).1 ∧ r.data.toList = (Lib.cut s.data.toList [32]).2.1 ∧ p.size ≤ 2000 ∧ r.size ≤ 2000 ∧
    ∀ w, Glob w → Calls Tryz.prog 184 #[.string s, .string ⟨#[32]⟩] w fun e w' => e = .returned (.tuple #[.string p, .string r, .bool b]) ∧ Below w.heap.size w w' := by
  have hl : s.data.toList.length = s.size := Array.length_toList
  have hz : (Lib.cut s.data.toList [32]).1.length ≤ 2000 ∧ (Lib.cut s.data.toList [32]).2.1.length ≤ 2000 := by
    rcases cut_cases 32 s.data.toList with ⟨h, _⟩ | ⟨a, r, h, he, _⟩
    · rw [h]; simp; omega
    · have := congrArg List.length he
      rw [List.length_append, List.length_cons] at this
      rw [h]; simp; omega
  refine ⟨⟨(Lib.cut s.data.toList [32]).1.toArray⟩, ⟨(Lib.cut s.data.toList [32]).2.1.toArray⟩, (Lib.cut s.data.toList [32]).2.2, by simp, by simp, hz.1, hz.2, fun w hg => ?_⟩
  obtain ⟨m, hm⟩ := hg.mlen
  refine (Tryz.strings_Cut s ⟨#[32]⟩ m w (by omega) hm).mono ?_
  rintro e w' ⟨rfl, n, rfl⟩
  exact ⟨rfl, below_drewN (Below.refl _ _) n⟩

structure RlAt (w : World) (W : World) : Prop where
  below : Below w.heap.size w W
  res : W.heap[w.heap.size]? = some (.cells zRul 230)
theorem RlAt.step {w W W' : World} (h : RlAt w W) (hb : Below W.heap.size W W') : RlAt w W' :=
  ⟨h.below.trans (hb.mono h.below.size), (hb.block _ (Array.getElem?_eq_some_iff.1 h.res).1).trans h.res⟩
theorem rlAt_mk (w : World) : RlAt w (w.alloc (.cells zRul 230)) := ⟨(Below.refl _ _).alloc (Nat.le_refl _) _, heap_new _ _⟩

set_option maxRecDepth 100000 in
set_option maxHeartbeats 2000000 in
theorem readRule_any (s : ByteArray) (n : Nat) (w : World) (hs : s.size ≤ 2000) (hg : Glob w) :
    Calls Tryz.prog 136 #[.string s, .int .i64 n] w fun e w' =>
      ∃ a m cap x y, e = .returned (.tuple #[.agg (rulA a m cap x y), .bool (ruleB n s.data.toList)]) ∧ Below w.heap.size w w' := by
  have HIR : Hid ((Tryz.prog.info? 230).map (·.size) = some zRul.size) := infoRulP
  have HG : Hid (Glob w) := hg
  obtain ⟨p0, r0, b0, e0, e1, hp0, hr0, cC1⟩ := cut_any s hs
  obtain ⟨p1, r1, b1, e2, e3, hp1, hr1, cC2⟩ := cut_any r0 hr0
  have hv : ruleB n s.data.toList = (patB p0.data.toList && (labB p1.data.toList n && actV r1 != 0)) := by
    rw [← rule_eq]
    unfold ruleP
    rw [← e0, ← e1, ← e2, ← e3, back]
  have HV : Hid (ruleB n s.data.toList = (patB p0.data.toList && (labB p1.data.toList n && actV r1 != 0))) := hv
  clear e0 e1 e2 e3 hv hg
  have HR : Hid (RlAt w (w.alloc (.cells zRul 230))) := rlAt_mk w
  have cC1' := cC1 _ (HG.out.below HR.out.below)
  clear cC1
  go_enter Tryz.func136, Tryz.ntmps136
  go_wp2_with (fail)
  refine cC1'.mono ?_
  clear cC1'
  rintro e w2 ⟨rfl, hB2⟩
  have HR2 : Hid (RlAt w w2) := HR.out.step hB2
  clear hB2 HR
  have cC2' := cC2 _ (HG.out.below HR2.out.below)
  clear cC2
  go_wp2_with (fail)
  refine cC2'.mono ?_
  clear cC2'
  rintro e w3 ⟨rfl, hB3⟩
  have HR3 : Hid (RlAt w w3) := HR2.out.step hB3
  clear hB3 HR2
  have cP := readPattern_any p0 w3 hp0 (HG.out.below HR3.out.below)
  go_wp2_with (fail)
  refine cP.mono ?_
  clear cP
  rintro e w4 ⟨pa, pm, pc, rfl, hB4⟩
  have HR4 : Hid (RlAt w w4) := HR3.out.step hB4
  clear hB4 HR3
  cases h1 : patB p0.data.toList
  · have HF : Hid (ruleB n s.data.toList = false) := by show _ = _; rw [HV.out, h1]; rfl
    clear HV
    go_wp2_with (first
      | (go_at_call 186; refine (readLabel_any p1 n _).mono ?_; rintro e w5 ⟨rfl, rfl⟩)
      | (go_at_call 187; refine (readAction_any r1 _).mono ?_; rintro e w6 ⟨rfl, rfl⟩)
      | (refine wpList_store_row rfl 230 _ _ rfl w.heap.size zRul rfl rfl 230 zRul HR4.out.res HIR.out rfl zRul_all ?_))
    refine bodyPost_ret (results_row_tmp Tryz.results136 _ _ w.heap.size 230 zRul (0, 0) _ rfl (setRow_heap _ _ zRul _ _ _ HR4.out.res) Tryz.underlying230 rfl infoRulP (.bool false) rfl) rfl ⟨none, 0, 0, 0, 0, by rw [HF.out]; rfl, below_setRow HR4.out.below (by omega) _⟩
  · cases h2 : labB p1.data.toList n
    · have HF : Hid (ruleB n s.data.toList = false) := by show _ = _; rw [HV.out, h1, h2]; rfl
      clear HV
      have cL := fun w => readLabel_any p1 n w
      rw [h2] at cL
      clear h2
      go_wp2_with (first
        | (go_at_call 186; refine (cL _).mono ?_; rintro e w5 ⟨rfl, rfl⟩)
        | (go_at_call 187; refine (readAction_any r1 _).mono ?_; rintro e w6 ⟨rfl, rfl⟩)
        | (refine wpList_store_row rfl 230 _ _ rfl w.heap.size zRul rfl rfl 230 zRul HR4.out.res HIR.out rfl zRul_all ?_))
      refine bodyPost_ret (results_row_tmp Tryz.results136 _ _ w.heap.size 230 zRul (0, 0) _ rfl (setRow_heap _ _ zRul _ _ _ HR4.out.res) Tryz.underlying230 rfl infoRulP (.bool false) rfl) rfl ⟨none, 0, 0, 0, 0, by rw [HF.out]; rfl, below_setRow HR4.out.below (by omega) _⟩
    · have cL := fun w => readLabel_any p1 n w
      rw [h2] at cL
      have cA := fun w => readAction_any r1 w
      cases h3 : (actV r1 != 0)
      · have HF : Hid (ruleB n s.data.toList = false) := by show _ = _; rw [HV.out, h1, h2, h3]; rfl
        rw [h3] at cA
        clear HV h2 h3
        go_wp2_with (first
          | (go_at_call 186; refine (cL _).mono ?_; rintro e w5 ⟨rfl, rfl⟩)
          | (go_at_call 187; refine (cA _).mono ?_; rintro e w6 ⟨rfl, rfl⟩)
          | (refine wpList_store_row rfl 230 _ _ rfl w.heap.size zRul rfl rfl 230 zRul HR4.out.res HIR.out rfl zRul_all ?_))
        refine bodyPost_ret (results_row_tmp Tryz.results136 _ _ w.heap.size 230 zRul (0, 0) _ rfl (setRow_heap _ _ zRul _ _ _ HR4.out.res) Tryz.underlying230 rfl infoRulP (.bool false) rfl) rfl ⟨none, 0, 0, 0, 0, by rw [HF.out]; rfl, below_setRow HR4.out.below (by omega) _⟩
      · have HF : Hid (ruleB n s.data.toList = true) := by show _ = _; rw [HV.out, h1, h2, h3]; rfl
        rw [h3] at cA
        clear HV h2 h3
        generalize labI p1.data.toList = li at *
        generalize actV r1 = ai at *
        go_wp2_with (first
          | (go_at_call 186; refine (cL _).mono ?_; rintro e w5 ⟨rfl, rfl⟩)
          | (go_at_call 187; refine (cA _).mono ?_; rintro e w6 ⟨rfl, rfl⟩)
          | (refine wpList_store_row rfl 230 _ _ rfl w.heap.size (rulA pa pm pc li ai) rfl rfl 230 zRul HR4.out.res HIR.out rfl (rulA_all _ _ _ _ _) ?_))
        refine bodyPost_ret (results_row_tmp Tryz.results136 _ _ w.heap.size 230 (rulA pa pm pc li ai) (0, 0) _ rfl (setRow_heap _ _ zRul _ _ _ HR4.out.res) Tryz.underlying230 rfl infoRulP (.bool true) rfl) rfl ⟨_, _, _, _, _, by rw [HF.out], below_setRow HR4.out.below (by omega) _⟩
end Go.Proofs.YtllcbnfmihfaaaaGreatDoor
