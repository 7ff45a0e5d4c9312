import Derived.Test.YtllcbnfmihfaaaaGreatDoorCRd
import Derived.Test.YtllcbnfmihfaaaaGreatDoorRCk2
namespace Go.Proofs.YtllcbnfmihfaaaaGreatDoor
open Go.RowKit Go.Shelf

/-- The answer of Leq, as data. -/
def leqE (c : Cfg) (a b : Int) : Int := if ¬ chkE c = 0 then chkE c else if (hasB c.labels.toNat a && hasB c.labels.toNat b) = false then 7 else 0
def leqT (c : Cfg) (a b : Int) : Bool := if ¬ chkE c = 0 then false else if (hasB c.labels.toNat a && hasB c.labels.toNat b) = false then false else leqF c.labels.toNat c.L a.toNat b.toNat
theorem leqE_blind : Blind3 leqE := fun _ _ _ _ => rfl
theorem leqT_blind : Blind3 leqT := fun _ _ _ _ => rfl
theorem chk_ok {c : Cfg} (h : chkE c = 0) : newOK c.labels c.L = true := by
  cases hn : newOK c.labels c.L
  · have : ordOK c = false := by unfold ordOK; rw [hn]; rfl
    unfold chkE at h
    rw [if_pos this] at h
    cases h
  · rfl
theorem has_nat {n : Nat} {a : Int} (h : hasB n a = true) : a = (a.toNat : Nat) ∧ a.toNat < n := by
  unfold hasB at h
  have := of_decide_eq_true h
  omega

set_option maxRecDepth 100000 in
set_option maxHeartbeats 4000000 in
theorem refLeq_any : Says3 100 leqT leqE := by
  intro c a b w hc hg
  have HC : Hid (CfgW w c) := hc
  have HS : Hid (c.arr.size = 11) := c.size
  have HX : Hid (BoxAt w c (w.alloc (.cells c.arr 45))) := boxAt_mk w c
  have cK := refCheck_any c _ (HX.out.cfg hc) (hg.below HX.out.below)
  clear hc hg
  by_cases h0 : chkE c = 0
  · obtain ⟨hn, H⟩ := newOK_parts (chk_ok h0)
    have HR : Hid (RefOK c.arr c.labels.toNat c.L c.ea c.ecap) := H
    have HF0 : Hid (c.arr[0]? = some (.int .i64 (c.labels.toNat : Nat))) := by show _ = _; rw [hn]; rfl
    have cB := fun a W => label_any c.arr c.labels.toNat HF0.out a W
    rw [h0] at cK
    have hE : leqE c a b = if (hasB c.labels.toNat a && hasB c.labels.toNat b) = false then 7 else 0 := by unfold leqE; rw [if_neg (fun hh => hh h0)]
    have hT : leqT c a b = if (hasB c.labels.toNat a && hasB c.labels.toNat b) = false then false else leqF c.labels.toNat c.L a.toNat b.toNat := by unfold leqT; rw [if_neg (fun hh => hh h0)]
    clear h0 hn H
    cases h2 : hasB c.labels.toNat a
    · have HE : Hid (leqE c a b = 7) := by show _ = _; rw [hE, h2]; rfl
      have HT : Hid (leqT c a b = false) := by show _ = _; rw [hT, h2]; rfl
      clear hE hT
      go_enter Tryz.func100, Tryz.ntmps100
      go_wp2_with (first
        | (refine wpList_load_row rfl 45 _ rfl _ rfl _ _ _ _ HX.out.box Tryz.underlying45 rfl (infoCfg HS.out) ?_)
        | (go_at_call 47; refine cK.mono ?_; clear cK; rintro e w2 ⟨rfl, hB2⟩; have HX2 : Hid (BoxAt w c w2) := HX.out.step hB2; clear HX; have HX := HX2; clear HX2 hB2)
        | (go_at_call 76; refine (cB a _).mono ?_; rintro e w3 ⟨rfl, hB3⟩; rw [h2]; have HX2 : Hid (BoxAt w c w3) := HX.out.step hB3; clear HX; have HX := HX2; clear HX2 hB3))
      go_ret2
      exact ⟨by rw [HE.out, HT.out]; rfl, HX.out.below⟩
    · cases h3 : hasB c.labels.toNat b
      · have HE : Hid (leqE c a b = 7) := by show _ = _; rw [hE, h2, h3]; rfl
        have HT : Hid (leqT c a b = false) := by show _ = _; rw [hT, h2, h3]; rfl
        clear hE hT
        go_enter Tryz.func100, Tryz.ntmps100
        have T1 : True := trivial
        go_wp2_with (first
          | (refine wpList_load_row rfl 45 _ rfl _ rfl _ _ _ _ HX.out.box Tryz.underlying45 rfl (infoCfg HS.out) ?_)
          | (refine wpList_load_row_g 45 _ rfl ?hw _ rfl _ _ _ _ HX.out.box Tryz.underlying45 rfl (infoCfg HS.out) ?_; case hw => simp [go_sem]; done)
          | (go_at_call 47; refine cK.mono ?_; clear cK; rintro e w2 ⟨rfl, hB2⟩; have HX2 : Hid (BoxAt w c w2) := HX.out.step hB2; clear HX; have HX := HX2; clear HX2 hB2)
          | (go_at_call 76; clear T1; refine (cB a _).mono ?_; rintro e w3 ⟨rfl, hB3⟩; rw [h2]; have HX2 : Hid (BoxAt w c w3) := HX.out.step hB3; clear HX; have HX := HX2; clear HX2 hB3)
          | (go_at_call 76; refine (cB b _).mono ?_; rintro e w4 ⟨rfl, hB4⟩; rw [h3]; have HX2 : Hid (BoxAt w c w4) := HX.out.step hB4; clear HX; have HX := HX2; clear HX2 hB4))
        go_ret2
        exact ⟨by rw [HE.out, HT.out]; rfl, HX.out.below⟩
      · have HE : Hid (leqE c a b = 0) := by show _ = _; rw [hE, h2, h3]; rfl
        have HT : Hid (leqT c a b = leqF c.labels.toNat c.L a.toNat b.toNat) := by show _ = _; rw [hT, h2, h3]; rfl
        obtain ⟨ea, la⟩ := has_nat h2
        obtain ⟨eb, lb⟩ := has_nat h3
        have cQ := fun W hA => leq_any c.arr c.labels.toNat c.L c.ea c.ecap HR.out.cfg HR.out.hn HR.out.hL HR.out.hE a.toNat b.toNat la lb W hA
        rw [← ea, ← eb] at cQ
        have HQ : Hid (∀ W, EdgesAt W c.ea c.L → Calls Tryz.prog 126 #[.agg c.arr, .int .i64 a, .int .i64 b] W fun e w' => e = .returned (.bool (leqF c.labels.toNat c.L a.toNat b.toNat)) ∧ Below W.heap.size W w') := cQ
        clear hE hT ea la eb lb cQ
        go_enter Tryz.func100, Tryz.ntmps100
        have T1 : True := trivial
        go_wp2_with (first
          | (refine wpList_load_row rfl 45 _ rfl _ rfl _ _ _ _ HX.out.box Tryz.underlying45 rfl (infoCfg HS.out) ?_)
          | (refine wpList_load_row_g 45 _ rfl ?hw _ rfl _ _ _ _ HX.out.box Tryz.underlying45 rfl (infoCfg HS.out) ?_; case hw => simp [go_sem]; done)
          | (go_at_call 47; refine cK.mono ?_; clear cK; rintro e w2 ⟨rfl, hB2⟩; have HX2 : Hid (BoxAt w c w2) := HX.out.step hB2; clear HX; have HX := HX2; clear HX2 hB2)
          | (go_at_call 76; clear T1; refine (cB a _).mono ?_; rintro e w3 ⟨rfl, hB3⟩; rw [h2]; have HX2 : Hid (BoxAt w c w3) := HX.out.step hB3; clear HX; have HX := HX2; clear HX2 hB3)
          | (go_at_call 76; refine (cB b _).mono ?_; rintro e w4 ⟨rfl, hB4⟩; rw [h3]; have HX2 : Hid (BoxAt w c w4) := HX.out.step hB4; clear HX; have HX := HX2; clear HX2 hB4; have cQ := HQ.out w4 (HX.out.cfg HC.out).edges)
          | (go_at_call 126; refine cQ.mono ?_; clear cQ; rintro e w5 ⟨rfl, hB5⟩; have HX2 : Hid (BoxAt w c w5) := HX.out.step hB5; clear HX; have HX := HX2; clear HX2 hB5))
        go_ret2
        exact ⟨by rw [HE.out, HT.out]; rfl, HX.out.below⟩
  · have HE : Hid (leqE c a b = chkE c) := by show _ = _; unfold leqE; rw [if_pos h0]
    have HT : Hid (leqT c a b = false) := by show _ = _; unfold leqT; rw [if_pos h0]
    generalize chkE c = E at *
    generalize chkN c = N at *
    go_enter Tryz.func100, Tryz.ntmps100
    go_wp2_with (first
      | (refine wpList_load_row rfl 45 _ rfl _ rfl _ _ _ _ HX.out.box Tryz.underlying45 rfl (infoCfg HS.out) ?_)
      | (go_at_call 47; refine cK.mono ?_; clear cK; rintro e w2 ⟨rfl, hB2⟩; have HX2 : Hid (BoxAt w c w2) := HX.out.step hB2; clear HX; have HX := HX2; clear HX2 hB2))
    go_ret2
    exact ⟨by rw [HE.out, HT.out]; rfl, HX.out.below⟩
end Go.Proofs.YtllcbnfmihfaaaaGreatDoor
