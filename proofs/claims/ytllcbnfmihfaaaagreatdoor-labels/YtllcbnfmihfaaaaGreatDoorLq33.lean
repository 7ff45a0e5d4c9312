import Derived.Test.YtllcbnfmihfaaaaGreatDoorLq31
namespace Go.Proofs.YtllcbnfmihfaaaaGreatDoor
open Go.RowKit Go.Shelf

theorem lim_cases (i o d b : Int) :
    (limB i o d b = false ∧ fmtB i = false) ∨ (limB i o d b = false ∧ fmtB i = true ∧ fmtB o = false) ∨ (limB i o d b = false ∧ fmtB i = true ∧ fmtB o = true ∧ d < 1) ∨ (limB i o d b = false ∧ fmtB i = true ∧ fmtB o = true ∧ 1 ≤ d ∧ 16 < d) ∨
    (limB i o d b = false ∧ fmtB i = true ∧ fmtB o = true ∧ 1 ≤ d ∧ d ≤ 16 ∧ b < 1) ∨ (limB i o d b = false ∧ fmtB i = true ∧ fmtB o = true ∧ 1 ≤ d ∧ d ≤ 16 ∧ 1 ≤ b ∧ 4096 < b) ∨ (limB i o d b = true ∧ fmtB i = true ∧ fmtB o = true ∧ 1 ≤ d ∧ d ≤ 16 ∧ 1 ≤ b ∧ b ≤ 4096) := by
  unfold limB
  cases fmtB i <;> cases fmtB o <;> simp
  by_cases h1 : d < 1
  · simp [h1]; omega
  · by_cases h2 : 16 < d
    · simp [h2]; omega
    · by_cases h3 : b < 1
      · simp [h3]; omega
      · by_cases h4 : 4096 < b
        · simp [h4]; omega
        · omega

set_option maxRecDepth 100000 in
set_option maxHeartbeats 8000000 in
theorem refCheck_any : Says2 47 chkE chkN := by
  intro c w hc hg
  have HC : Hid (CfgW w c) := hc
  have HB8 : Hid (c.B.length ≤ maxLen) := by have := hc.bb; show _ ≤ _; unfold maxLen; omega
  have HS : Hid (c.arr.size = 11) := c.size
  have HX : Hid (BoxAt w c (w.alloc (.cells c.arr 45))) := boxAt_mk w c
  have cL := labels_c c _ (HX.out.cfg hc)
  clear hc hg
  cases h1 : newOK c.labels c.L
  · have hor : ordOK c = false := by unfold ordOK; rw [h1]; rfl
    have HE : Hid (chkE c = 1) := by show _ = _; unfold chkE; simp [hor]
    have HN : Hid (chkN c = 0) := by show _ = _; unfold chkN; rw [HE.out]; rfl
    rw [h1] at cL
    clear h1 hor
    go_enter Tryz.func47, Tryz.ntmps47
    have T1 : True := trivial
    have T2 : True := trivial
    have T3 : True := trivial
    have T4 : True := trivial
    go_wp2_with (first
      | (refine wpList_load_row rfl 45 _ rfl _ rfl _ _ _ _ HX.out.box Tryz.underlying45 rfl (infoCfg HS.out) ?_)
      | (refine wpList_load_row_g 45 _ rfl ?hw _ rfl _ _ _ _ HX.out.box Tryz.underlying45 rfl (infoCfg HS.out) ?_; case hw => simp [go_sem]; done)
      | (go_at_call 75; refine cL.mono ?_; clear cL; rintro e w2 ⟨rfl, hB2⟩; have HX2 : Hid (BoxAt w c w2) := HX.out.step hB2; clear HX; have HX := HX2; clear HX2 hB2; have k2 : w2.cell? ⟨w.heap.size, 2, none⟩ = some (.int .i64 c.dflt) := HX.out.cell 2)
      | (go_at_call 76; clear T1; refine (cB c.dflt _).mono ?_; clear k2; rintro e w3 ⟨rfl, hB3⟩; rw [h2]; have HX2 : Hid (BoxAt w c w3) := HX.out.step hB3; clear HX; have HX := HX2; clear HX2 hB3; have k4 : w3.cell? ⟨w.heap.size, 4, none⟩ = some (.int .i64 c.clr) := HX.out.cell 4)
      | (go_at_call 76; clear T2; refine (cB c.clr _).mono ?_; clear k4; rintro e w4 ⟨rfl, hB4⟩; rw [h3]; have HX2 : Hid (BoxAt w c w4) := HX.out.step hB4; clear HX; have HX := HX2; clear HX2 hB4; have cO := ordered_any c.arr c.labels.toNat c.L c.ea c.ecap HR.out w4 (HX.out.cfg HC.out).edges)
      | (go_at_call 77; refine cO.mono ?_; clear cO; rintro e w5 ⟨rfl, hB5⟩; rw [h4]; have HX2 : Hid (BoxAt w c w5) := HX.out.step hB5; clear HX; have HX := HX2; clear HX2 hB5; have cT := lattice_any c.arr c.labels.toNat c.L c.ea c.ecap HR.out w5 (HX.out.cfg HC.out).edges)
      | (go_at_call 78; refine cT.mono ?_; clear cT; rintro e w6 ⟨rfl, hB6⟩; rw [h5]; have HX2 : Hid (BoxAt w c w6) := HX.out.step hB6; clear HX; have HX := HX2; clear HX2 hB6; have k6 : w6.cell? ⟨w.heap.size, 6, none⟩ = some (.int .i64 c.inn) := HX.out.cell 6; have k7 : w6.cell? ⟨w.heap.size, 7, none⟩ = some (.int .i64 c.out) := HX.out.cell 7; have k8 : w6.cell? ⟨w.heap.size, 8, none⟩ = some (.int .i64 c.depth) := HX.out.cell 8; have k9 : w6.cell? ⟨w.heap.size, 9, none⟩ = some (.int .i64 c.bytes) := HX.out.cell 9; have k10 : w6.cell? ⟨w.heap.size, 10, none⟩ = some (.slice c.ba c.B.length c.bcap) := HX.out.cell 10; have cK := bucketsRef_any c.ba c.bcap c.B HB8.out w6 (HX.out.cfg HC.out).ints)
      | (go_at_call 44; clear T3; refine (format_any c.inn _).mono ?_; rintro e w7 ⟨rfl, rfl⟩; rw [h6])
      | (go_at_call 44; clear T4; refine (format_any c.out _).mono ?_; rintro e w8 ⟨rfl, rfl⟩; rw [h7])
      | (go_at_call 79; refine cK.mono ?_; clear cK k6 k7 k8 k9 k10; rintro e w9 ⟨rfl, hB9⟩; rw [h8]; have HX2 : Hid (BoxAt w c w9) := HX.out.step hB9; clear HX; have HX := HX2; clear HX2 hB9; have cU := rules_any c c.labels.toNat HLN.out w9)
      | (go_at_call 80; refine cU.mono ?_; clear cU; rintro e w10 ⟨ua, um, uc, rfl, hB10⟩; rw [HV.out]; have HX2 : Hid (BoxAt w c w10) := HX.out.step hB10; clear HX; have HX := HX2; clear HX2 hB10))
    go_ret2
    exact ⟨by rw [HE.out, HN.out]; rfl, HX.out.below⟩
  · rw [h1] at cL
    obtain ⟨hn, H⟩ := newOK_parts h1
    have HR : Hid (RefOK c.arr c.labels.toNat c.L c.ea c.ecap) := H
    have HLN : Hid (c.labels = (c.labels.toNat : Nat)) := hn.symm
    have HF0 : Hid (c.arr[0]? = some (.int .i64 (c.labels.toNat : Nat))) := by show _ = _; rw [hn]; rfl
    have cB := fun a W => label_any c.arr c.labels.toNat HF0.out a W
    have hor : ordOK c = (hasB c.labels.toNat c.dflt && hasB c.labels.toNat c.clr) := by unfold ordOK; rw [h1]; rfl
    clear h1 hn H
    cases h2 : hasB c.labels.toNat c.dflt
    · have HE : Hid (chkE c = 1) := by show _ = _; unfold chkE; simp [hor, h2]
      have HN : Hid (chkN c = 0) := by show _ = _; unfold chkN; rw [HE.out]; rfl
      clear hor
      go_enter Tryz.func47, Tryz.ntmps47
      have T1 : True := trivial
      have T2 : True := trivial
      have T3 : True := trivial
      have T4 : True := trivial
      go_wp2_with (first
        | (refine wpList_load_row rfl 45 _ rfl _ rfl _ _ _ _ HX.out.box Tryz.underlying45 rfl (infoCfg HS.out) ?_)
        | (refine wpList_load_row_g 45 _ rfl ?hw _ rfl _ _ _ _ HX.out.box Tryz.underlying45 rfl (infoCfg HS.out) ?_; case hw => simp [go_sem]; done)
        | (go_at_call 75; refine cL.mono ?_; clear cL; rintro e w2 ⟨rfl, hB2⟩; have HX2 : Hid (BoxAt w c w2) := HX.out.step hB2; clear HX; have HX := HX2; clear HX2 hB2; have k2 : w2.cell? ⟨w.heap.size, 2, none⟩ = some (.int .i64 c.dflt) := HX.out.cell 2)
        | (go_at_call 76; clear T1; refine (cB c.dflt _).mono ?_; clear k2; rintro e w3 ⟨rfl, hB3⟩; rw [h2]; have HX2 : Hid (BoxAt w c w3) := HX.out.step hB3; clear HX; have HX := HX2; clear HX2 hB3; have k4 : w3.cell? ⟨w.heap.size, 4, none⟩ = some (.int .i64 c.clr) := HX.out.cell 4)
        | (go_at_call 76; clear T2; refine (cB c.clr _).mono ?_; clear k4; rintro e w4 ⟨rfl, hB4⟩; rw [h3]; have HX2 : Hid (BoxAt w c w4) := HX.out.step hB4; clear HX; have HX := HX2; clear HX2 hB4; have cO := ordered_any c.arr c.labels.toNat c.L c.ea c.ecap HR.out w4 (HX.out.cfg HC.out).edges)
        | (go_at_call 77; refine cO.mono ?_; clear cO; rintro e w5 ⟨rfl, hB5⟩; rw [h4]; have HX2 : Hid (BoxAt w c w5) := HX.out.step hB5; clear HX; have HX := HX2; clear HX2 hB5; have cT := lattice_any c.arr c.labels.toNat c.L c.ea c.ecap HR.out w5 (HX.out.cfg HC.out).edges)
        | (go_at_call 78; refine cT.mono ?_; clear cT; rintro e w6 ⟨rfl, hB6⟩; rw [h5]; have HX2 : Hid (BoxAt w c w6) := HX.out.step hB6; clear HX; have HX := HX2; clear HX2 hB6; have k6 : w6.cell? ⟨w.heap.size, 6, none⟩ = some (.int .i64 c.inn) := HX.out.cell 6; have k7 : w6.cell? ⟨w.heap.size, 7, none⟩ = some (.int .i64 c.out) := HX.out.cell 7; have k8 : w6.cell? ⟨w.heap.size, 8, none⟩ = some (.int .i64 c.depth) := HX.out.cell 8; have k9 : w6.cell? ⟨w.heap.size, 9, none⟩ = some (.int .i64 c.bytes) := HX.out.cell 9; have k10 : w6.cell? ⟨w.heap.size, 10, none⟩ = some (.slice c.ba c.B.length c.bcap) := HX.out.cell 10; have cK := bucketsRef_any c.ba c.bcap c.B HB8.out w6 (HX.out.cfg HC.out).ints)
        | (go_at_call 44; clear T3; refine (format_any c.inn _).mono ?_; rintro e w7 ⟨rfl, rfl⟩; rw [h6])
        | (go_at_call 44; clear T4; refine (format_any c.out _).mono ?_; rintro e w8 ⟨rfl, rfl⟩; rw [h7])
        | (go_at_call 79; refine cK.mono ?_; clear cK k6 k7 k8 k9 k10; rintro e w9 ⟨rfl, hB9⟩; rw [h8]; have HX2 : Hid (BoxAt w c w9) := HX.out.step hB9; clear HX; have HX := HX2; clear HX2 hB9; have cU := rules_any c c.labels.toNat HLN.out w9)
        | (go_at_call 80; refine cU.mono ?_; clear cU; rintro e w10 ⟨ua, um, uc, rfl, hB10⟩; rw [HV.out]; have HX2 : Hid (BoxAt w c w10) := HX.out.step hB10; clear HX; have HX := HX2; clear HX2 hB10))
      go_ret2
      exact ⟨by rw [HE.out, HN.out]; rfl, HX.out.below⟩
    · cases h3 : hasB c.labels.toNat c.clr
      · have HE : Hid (chkE c = 1) := by show _ = _; unfold chkE; simp [hor, h2, h3]
        have HN : Hid (chkN c = 0) := by show _ = _; unfold chkN; rw [HE.out]; rfl
        clear hor
        go_enter Tryz.func47, Tryz.ntmps47
        have T1 : True := trivial
        have T2 : True := trivial
        have T3 : True := trivial
        have T4 : True := trivial
        go_wp2_with (first
          | (refine wpList_load_row rfl 45 _ rfl _ rfl _ _ _ _ HX.out.box Tryz.underlying45 rfl (infoCfg HS.out) ?_)
          | (refine wpList_load_row_g 45 _ rfl ?hw _ rfl _ _ _ _ HX.out.box Tryz.underlying45 rfl (infoCfg HS.out) ?_; case hw => simp [go_sem]; done)
          | (go_at_call 75; refine cL.mono ?_; clear cL; rintro e w2 ⟨rfl, hB2⟩; have HX2 : Hid (BoxAt w c w2) := HX.out.step hB2; clear HX; have HX := HX2; clear HX2 hB2; have k2 : w2.cell? ⟨w.heap.size, 2, none⟩ = some (.int .i64 c.dflt) := HX.out.cell 2)
          | (go_at_call 76; clear T1; refine (cB c.dflt _).mono ?_; clear k2; rintro e w3 ⟨rfl, hB3⟩; rw [h2]; have HX2 : Hid (BoxAt w c w3) := HX.out.step hB3; clear HX; have HX := HX2; clear HX2 hB3; have k4 : w3.cell? ⟨w.heap.size, 4, none⟩ = some (.int .i64 c.clr) := HX.out.cell 4)
          | (go_at_call 76; clear T2; refine (cB c.clr _).mono ?_; clear k4; rintro e w4 ⟨rfl, hB4⟩; rw [h3]; have HX2 : Hid (BoxAt w c w4) := HX.out.step hB4; clear HX; have HX := HX2; clear HX2 hB4; have cO := ordered_any c.arr c.labels.toNat c.L c.ea c.ecap HR.out w4 (HX.out.cfg HC.out).edges)
          | (go_at_call 77; refine cO.mono ?_; clear cO; rintro e w5 ⟨rfl, hB5⟩; rw [h4]; have HX2 : Hid (BoxAt w c w5) := HX.out.step hB5; clear HX; have HX := HX2; clear HX2 hB5; have cT := lattice_any c.arr c.labels.toNat c.L c.ea c.ecap HR.out w5 (HX.out.cfg HC.out).edges)
          | (go_at_call 78; refine cT.mono ?_; clear cT; rintro e w6 ⟨rfl, hB6⟩; rw [h5]; have HX2 : Hid (BoxAt w c w6) := HX.out.step hB6; clear HX; have HX := HX2; clear HX2 hB6; have k6 : w6.cell? ⟨w.heap.size, 6, none⟩ = some (.int .i64 c.inn) := HX.out.cell 6; have k7 : w6.cell? ⟨w.heap.size, 7, none⟩ = some (.int .i64 c.out) := HX.out.cell 7; have k8 : w6.cell? ⟨w.heap.size, 8, none⟩ = some (.int .i64 c.depth) := HX.out.cell 8; have k9 : w6.cell? ⟨w.heap.size, 9, none⟩ = some (.int .i64 c.bytes) := HX.out.cell 9; have k10 : w6.cell? ⟨w.heap.size, 10, none⟩ = some (.slice c.ba c.B.length c.bcap) := HX.out.cell 10; have cK := bucketsRef_any c.ba c.bcap c.B HB8.out w6 (HX.out.cfg HC.out).ints)
          | (go_at_call 44; clear T3; refine (format_any c.inn _).mono ?_; rintro e w7 ⟨rfl, rfl⟩; rw [h6])
          | (go_at_call 44; clear T4; refine (format_any c.out _).mono ?_; rintro e w8 ⟨rfl, rfl⟩; rw [h7])
          | (go_at_call 79; refine cK.mono ?_; clear cK k6 k7 k8 k9 k10; rintro e w9 ⟨rfl, hB9⟩; rw [h8]; have HX2 : Hid (BoxAt w c w9) := HX.out.step hB9; clear HX; have HX := HX2; clear HX2 hB9; have cU := rules_any c c.labels.toNat HLN.out w9)
          | (go_at_call 80; refine cU.mono ?_; clear cU; rintro e w10 ⟨ua, um, uc, rfl, hB10⟩; rw [HV.out]; have HX2 : Hid (BoxAt w c w10) := HX.out.step hB10; clear HX; have HX := HX2; clear HX2 hB10))
        go_ret2
        exact ⟨by rw [HE.out, HN.out]; rfl, HX.out.below⟩
      · cases h4 : orderedB c.labels.toNat (leqF c.labels.toNat c.L)
        · have HE : Hid (chkE c = 2) := by show _ = _; unfold chkE; simp [hor, h2, h3, h4]
          have HN : Hid (chkN c = 0) := by show _ = _; unfold chkN; rw [HE.out]; rfl
          clear hor
          go_enter Tryz.func47, Tryz.ntmps47
          have T1 : True := trivial
          have T2 : True := trivial
          have T3 : True := trivial
          have T4 : True := trivial
          go_wp2_with (first
            | (refine wpList_load_row rfl 45 _ rfl _ rfl _ _ _ _ HX.out.box Tryz.underlying45 rfl (infoCfg HS.out) ?_)
            | (refine wpList_load_row_g 45 _ rfl ?hw _ rfl _ _ _ _ HX.out.box Tryz.underlying45 rfl (infoCfg HS.out) ?_; case hw => simp [go_sem]; done)
            | (go_at_call 75; refine cL.mono ?_; clear cL; rintro e w2 ⟨rfl, hB2⟩; have HX2 : Hid (BoxAt w c w2) := HX.out.step hB2; clear HX; have HX := HX2; clear HX2 hB2; have k2 : w2.cell? ⟨w.heap.size, 2, none⟩ = some (.int .i64 c.dflt) := HX.out.cell 2)
            | (go_at_call 76; clear T1; refine (cB c.dflt _).mono ?_; clear k2; rintro e w3 ⟨rfl, hB3⟩; rw [h2]; have HX2 : Hid (BoxAt w c w3) := HX.out.step hB3; clear HX; have HX := HX2; clear HX2 hB3; have k4 : w3.cell? ⟨w.heap.size, 4, none⟩ = some (.int .i64 c.clr) := HX.out.cell 4)
            | (go_at_call 76; clear T2; refine (cB c.clr _).mono ?_; clear k4; rintro e w4 ⟨rfl, hB4⟩; rw [h3]; have HX2 : Hid (BoxAt w c w4) := HX.out.step hB4; clear HX; have HX := HX2; clear HX2 hB4; have cO := ordered_any c.arr c.labels.toNat c.L c.ea c.ecap HR.out w4 (HX.out.cfg HC.out).edges)
            | (go_at_call 77; refine cO.mono ?_; clear cO; rintro e w5 ⟨rfl, hB5⟩; rw [h4]; have HX2 : Hid (BoxAt w c w5) := HX.out.step hB5; clear HX; have HX := HX2; clear HX2 hB5; have cT := lattice_any c.arr c.labels.toNat c.L c.ea c.ecap HR.out w5 (HX.out.cfg HC.out).edges)
            | (go_at_call 78; refine cT.mono ?_; clear cT; rintro e w6 ⟨rfl, hB6⟩; rw [h5]; have HX2 : Hid (BoxAt w c w6) := HX.out.step hB6; clear HX; have HX := HX2; clear HX2 hB6; have k6 : w6.cell? ⟨w.heap.size, 6, none⟩ = some (.int .i64 c.inn) := HX.out.cell 6; have k7 : w6.cell? ⟨w.heap.size, 7, none⟩ = some (.int .i64 c.out) := HX.out.cell 7; have k8 : w6.cell? ⟨w.heap.size, 8, none⟩ = some (.int .i64 c.depth) := HX.out.cell 8; have k9 : w6.cell? ⟨w.heap.size, 9, none⟩ = some (.int .i64 c.bytes) := HX.out.cell 9; have k10 : w6.cell? ⟨w.heap.size, 10, none⟩ = some (.slice c.ba c.B.length c.bcap) := HX.out.cell 10; have cK := bucketsRef_any c.ba c.bcap c.B HB8.out w6 (HX.out.cfg HC.out).ints)
            | (go_at_call 44; clear T3; refine (format_any c.inn _).mono ?_; rintro e w7 ⟨rfl, rfl⟩; rw [h6])
            | (go_at_call 44; clear T4; refine (format_any c.out _).mono ?_; rintro e w8 ⟨rfl, rfl⟩; rw [h7])
            | (go_at_call 79; refine cK.mono ?_; clear cK k6 k7 k8 k9 k10; rintro e w9 ⟨rfl, hB9⟩; rw [h8]; have HX2 : Hid (BoxAt w c w9) := HX.out.step hB9; clear HX; have HX := HX2; clear HX2 hB9; have cU := rules_any c c.labels.toNat HLN.out w9)
            | (go_at_call 80; refine cU.mono ?_; clear cU; rintro e w10 ⟨ua, um, uc, rfl, hB10⟩; rw [HV.out]; have HX2 : Hid (BoxAt w c w10) := HX.out.step hB10; clear HX; have HX := HX2; clear HX2 hB10))
          go_ret2
          exact ⟨by rw [HE.out, HN.out]; rfl, HX.out.below⟩
        · cases h5 : latticeB c.labels.toNat (leqF c.labels.toNat c.L)
          · have HE : Hid (chkE c = 3) := by show _ = _; unfold chkE; simp [hor, h2, h3, h4, h5]
            have HN : Hid (chkN c = 0) := by show _ = _; unfold chkN; rw [HE.out]; rfl
            clear hor
            go_enter Tryz.func47, Tryz.ntmps47
            have T1 : True := trivial
            have T2 : True := trivial
            have T3 : True := trivial
            have T4 : True := trivial
            go_wp2_with (first
              | (refine wpList_load_row rfl 45 _ rfl _ rfl _ _ _ _ HX.out.box Tryz.underlying45 rfl (infoCfg HS.out) ?_)
              | (refine wpList_load_row_g 45 _ rfl ?hw _ rfl _ _ _ _ HX.out.box Tryz.underlying45 rfl (infoCfg HS.out) ?_; case hw => simp [go_sem]; done)
              | (go_at_call 75; refine cL.mono ?_; clear cL; rintro e w2 ⟨rfl, hB2⟩; have HX2 : Hid (BoxAt w c w2) := HX.out.step hB2; clear HX; have HX := HX2; clear HX2 hB2; have k2 : w2.cell? ⟨w.heap.size, 2, none⟩ = some (.int .i64 c.dflt) := HX.out.cell 2)
              | (go_at_call 76; clear T1; refine (cB c.dflt _).mono ?_; clear k2; rintro e w3 ⟨rfl, hB3⟩; rw [h2]; have HX2 : Hid (BoxAt w c w3) := HX.out.step hB3; clear HX; have HX := HX2; clear HX2 hB3; have k4 : w3.cell? ⟨w.heap.size, 4, none⟩ = some (.int .i64 c.clr) := HX.out.cell 4)
              | (go_at_call 76; clear T2; refine (cB c.clr _).mono ?_; clear k4; rintro e w4 ⟨rfl, hB4⟩; rw [h3]; have HX2 : Hid (BoxAt w c w4) := HX.out.step hB4; clear HX; have HX := HX2; clear HX2 hB4; have cO := ordered_any c.arr c.labels.toNat c.L c.ea c.ecap HR.out w4 (HX.out.cfg HC.out).edges)
              | (go_at_call 77; refine cO.mono ?_; clear cO; rintro e w5 ⟨rfl, hB5⟩; rw [h4]; have HX2 : Hid (BoxAt w c w5) := HX.out.step hB5; clear HX; have HX := HX2; clear HX2 hB5; have cT := lattice_any c.arr c.labels.toNat c.L c.ea c.ecap HR.out w5 (HX.out.cfg HC.out).edges)
              | (go_at_call 78; refine cT.mono ?_; clear cT; rintro e w6 ⟨rfl, hB6⟩; rw [h5]; have HX2 : Hid (BoxAt w c w6) := HX.out.step hB6; clear HX; have HX := HX2; clear HX2 hB6; have k6 : w6.cell? ⟨w.heap.size, 6, none⟩ = some (.int .i64 c.inn) := HX.out.cell 6; have k7 : w6.cell? ⟨w.heap.size, 7, none⟩ = some (.int .i64 c.out) := HX.out.cell 7; have k8 : w6.cell? ⟨w.heap.size, 8, none⟩ = some (.int .i64 c.depth) := HX.out.cell 8; have k9 : w6.cell? ⟨w.heap.size, 9, none⟩ = some (.int .i64 c.bytes) := HX.out.cell 9; have k10 : w6.cell? ⟨w.heap.size, 10, none⟩ = some (.slice c.ba c.B.length c.bcap) := HX.out.cell 10; have cK := bucketsRef_any c.ba c.bcap c.B HB8.out w6 (HX.out.cfg HC.out).ints)
              | (go_at_call 44; clear T3; refine (format_any c.inn _).mono ?_; rintro e w7 ⟨rfl, rfl⟩; rw [h6])
              | (go_at_call 44; clear T4; refine (format_any c.out _).mono ?_; rintro e w8 ⟨rfl, rfl⟩; rw [h7])
              | (go_at_call 79; refine cK.mono ?_; clear cK k6 k7 k8 k9 k10; rintro e w9 ⟨rfl, hB9⟩; rw [h8]; have HX2 : Hid (BoxAt w c w9) := HX.out.step hB9; clear HX; have HX := HX2; clear HX2 hB9; have cU := rules_any c c.labels.toNat HLN.out w9)
              | (go_at_call 80; refine cU.mono ?_; clear cU; rintro e w10 ⟨ua, um, uc, rfl, hB10⟩; rw [HV.out]; have HX2 : Hid (BoxAt w c w10) := HX.out.step hB10; clear HX; have HX := HX2; clear HX2 hB10))
            go_ret2
            exact ⟨by rw [HE.out, HN.out]; rfl, HX.out.below⟩
          · rcases lim_cases c.inn c.out c.depth c.bytes with ⟨hlim, h6⟩ | ⟨hlim, h6, h7⟩ | ⟨hlim, h6, h7, d1⟩ | ⟨hlim, h6, h7, d1, d2⟩ | ⟨hlim, h6, h7, d1, d2, b1⟩ | ⟨hlim, h6, h7, d1, d2, b1, b2⟩ | ⟨hlim, h6, h7, d1, d2, b1, b2⟩
            · have HE : Hid (chkE c = 4) := by show _ = _; unfold chkE; simp [hor, h2, h3, h4, h5, hlim]
              have HN : Hid (chkN c = 0) := by show _ = _; unfold chkN; rw [HE.out]; rfl
              clear hor hlim
              go_enter Tryz.func47, Tryz.ntmps47
              have T1 : True := trivial
              have T2 : True := trivial
              have T3 : True := trivial
              have T4 : True := trivial
              go_wp2_with (first
                | (refine wpList_load_row rfl 45 _ rfl _ rfl _ _ _ _ HX.out.box Tryz.underlying45 rfl (infoCfg HS.out) ?_)
                | (refine wpList_load_row_g 45 _ rfl ?hw _ rfl _ _ _ _ HX.out.box Tryz.underlying45 rfl (infoCfg HS.out) ?_; case hw => simp [go_sem]; done)
                | (go_at_call 75; refine cL.mono ?_; clear cL; rintro e w2 ⟨rfl, hB2⟩; have HX2 : Hid (BoxAt w c w2) := HX.out.step hB2; clear HX; have HX := HX2; clear HX2 hB2; have k2 : w2.cell? ⟨w.heap.size, 2, none⟩ = some (.int .i64 c.dflt) := HX.out.cell 2)
                | (go_at_call 76; clear T1; refine (cB c.dflt _).mono ?_; clear k2; rintro e w3 ⟨rfl, hB3⟩; rw [h2]; have HX2 : Hid (BoxAt w c w3) := HX.out.step hB3; clear HX; have HX := HX2; clear HX2 hB3; have k4 : w3.cell? ⟨w.heap.size, 4, none⟩ = some (.int .i64 c.clr) := HX.out.cell 4)
                | (go_at_call 76; clear T2; refine (cB c.clr _).mono ?_; clear k4; rintro e w4 ⟨rfl, hB4⟩; rw [h3]; have HX2 : Hid (BoxAt w c w4) := HX.out.step hB4; clear HX; have HX := HX2; clear HX2 hB4; have cO := ordered_any c.arr c.labels.toNat c.L c.ea c.ecap HR.out w4 (HX.out.cfg HC.out).edges)
                | (go_at_call 77; refine cO.mono ?_; clear cO; rintro e w5 ⟨rfl, hB5⟩; rw [h4]; have HX2 : Hid (BoxAt w c w5) := HX.out.step hB5; clear HX; have HX := HX2; clear HX2 hB5; have cT := lattice_any c.arr c.labels.toNat c.L c.ea c.ecap HR.out w5 (HX.out.cfg HC.out).edges)
                | (go_at_call 78; refine cT.mono ?_; clear cT; rintro e w6 ⟨rfl, hB6⟩; rw [h5]; have HX2 : Hid (BoxAt w c w6) := HX.out.step hB6; clear HX; have HX := HX2; clear HX2 hB6; have k6 : w6.cell? ⟨w.heap.size, 6, none⟩ = some (.int .i64 c.inn) := HX.out.cell 6; have k7 : w6.cell? ⟨w.heap.size, 7, none⟩ = some (.int .i64 c.out) := HX.out.cell 7; have k8 : w6.cell? ⟨w.heap.size, 8, none⟩ = some (.int .i64 c.depth) := HX.out.cell 8; have k9 : w6.cell? ⟨w.heap.size, 9, none⟩ = some (.int .i64 c.bytes) := HX.out.cell 9; have k10 : w6.cell? ⟨w.heap.size, 10, none⟩ = some (.slice c.ba c.B.length c.bcap) := HX.out.cell 10; have cK := bucketsRef_any c.ba c.bcap c.B HB8.out w6 (HX.out.cfg HC.out).ints)
                | (go_at_call 44; clear T3; refine (format_any c.inn _).mono ?_; rintro e w7 ⟨rfl, rfl⟩; rw [h6])
                | (go_at_call 44; clear T4; refine (format_any c.out _).mono ?_; rintro e w8 ⟨rfl, rfl⟩; rw [h7])
                | (go_at_call 79; refine cK.mono ?_; clear cK k6 k7 k8 k9 k10; rintro e w9 ⟨rfl, hB9⟩; rw [h8]; have HX2 : Hid (BoxAt w c w9) := HX.out.step hB9; clear HX; have HX := HX2; clear HX2 hB9; have cU := rules_any c c.labels.toNat HLN.out w9)
                | (go_at_call 80; refine cU.mono ?_; clear cU; rintro e w10 ⟨ua, um, uc, rfl, hB10⟩; rw [HV.out]; have HX2 : Hid (BoxAt w c w10) := HX.out.step hB10; clear HX; have HX := HX2; clear HX2 hB10))
              go_ret2
              exact ⟨by rw [HE.out, HN.out]; rfl, HX.out.below⟩
            · have HE : Hid (chkE c = 4) := by show _ = _; unfold chkE; simp [hor, h2, h3, h4, h5, hlim]
              have HN : Hid (chkN c = 0) := by show _ = _; unfold chkN; rw [HE.out]; rfl
              clear hor hlim
              go_enter Tryz.func47, Tryz.ntmps47
              have T1 : True := trivial
              have T2 : True := trivial
              have T3 : True := trivial
              have T4 : True := trivial
              go_wp2_with (first
                | (refine wpList_load_row rfl 45 _ rfl _ rfl _ _ _ _ HX.out.box Tryz.underlying45 rfl (infoCfg HS.out) ?_)
                | (refine wpList_load_row_g 45 _ rfl ?hw _ rfl _ _ _ _ HX.out.box Tryz.underlying45 rfl (infoCfg HS.out) ?_; case hw => simp [go_sem]; done)
                | (go_at_call 75; refine cL.mono ?_; clear cL; rintro e w2 ⟨rfl, hB2⟩; have HX2 : Hid (BoxAt w c w2) := HX.out.step hB2; clear HX; have HX := HX2; clear HX2 hB2; have k2 : w2.cell? ⟨w.heap.size, 2, none⟩ = some (.int .i64 c.dflt) := HX.out.cell 2)
                | (go_at_call 76; clear T1; refine (cB c.dflt _).mono ?_; clear k2; rintro e w3 ⟨rfl, hB3⟩; rw [h2]; have HX2 : Hid (BoxAt w c w3) := HX.out.step hB3; clear HX; have HX := HX2; clear HX2 hB3; have k4 : w3.cell? ⟨w.heap.size, 4, none⟩ = some (.int .i64 c.clr) := HX.out.cell 4)
                | (go_at_call 76; clear T2; refine (cB c.clr _).mono ?_; clear k4; rintro e w4 ⟨rfl, hB4⟩; rw [h3]; have HX2 : Hid (BoxAt w c w4) := HX.out.step hB4; clear HX; have HX := HX2; clear HX2 hB4; have cO := ordered_any c.arr c.labels.toNat c.L c.ea c.ecap HR.out w4 (HX.out.cfg HC.out).edges)
                | (go_at_call 77; refine cO.mono ?_; clear cO; rintro e w5 ⟨rfl, hB5⟩; rw [h4]; have HX2 : Hid (BoxAt w c w5) := HX.out.step hB5; clear HX; have HX := HX2; clear HX2 hB5; have cT := lattice_any c.arr c.labels.toNat c.L c.ea c.ecap HR.out w5 (HX.out.cfg HC.out).edges)
                | (go_at_call 78; refine cT.mono ?_; clear cT; rintro e w6 ⟨rfl, hB6⟩; rw [h5]; have HX2 : Hid (BoxAt w c w6) := HX.out.step hB6; clear HX; have HX := HX2; clear HX2 hB6; have k6 : w6.cell? ⟨w.heap.size, 6, none⟩ = some (.int .i64 c.inn) := HX.out.cell 6; have k7 : w6.cell? ⟨w.heap.size, 7, none⟩ = some (.int .i64 c.out) := HX.out.cell 7; have k8 : w6.cell? ⟨w.heap.size, 8, none⟩ = some (.int .i64 c.depth) := HX.out.cell 8; have k9 : w6.cell? ⟨w.heap.size, 9, none⟩ = some (.int .i64 c.bytes) := HX.out.cell 9; have k10 : w6.cell? ⟨w.heap.size, 10, none⟩ = some (.slice c.ba c.B.length c.bcap) := HX.out.cell 10; have cK := bucketsRef_any c.ba c.bcap c.B HB8.out w6 (HX.out.cfg HC.out).ints)
                | (go_at_call 44; clear T3; refine (format_any c.inn _).mono ?_; rintro e w7 ⟨rfl, rfl⟩; rw [h6])
                | (go_at_call 44; clear T4; refine (format_any c.out _).mono ?_; rintro e w8 ⟨rfl, rfl⟩; rw [h7])
                | (go_at_call 79; refine cK.mono ?_; clear cK k6 k7 k8 k9 k10; rintro e w9 ⟨rfl, hB9⟩; rw [h8]; have HX2 : Hid (BoxAt w c w9) := HX.out.step hB9; clear HX; have HX := HX2; clear HX2 hB9; have cU := rules_any c c.labels.toNat HLN.out w9)
                | (go_at_call 80; refine cU.mono ?_; clear cU; rintro e w10 ⟨ua, um, uc, rfl, hB10⟩; rw [HV.out]; have HX2 : Hid (BoxAt w c w10) := HX.out.step hB10; clear HX; have HX := HX2; clear HX2 hB10))
              go_ret2
              exact ⟨by rw [HE.out, HN.out]; rfl, HX.out.below⟩
            · have HE : Hid (chkE c = 4) := by show _ = _; unfold chkE; simp [hor, h2, h3, h4, h5, hlim]
              have HN : Hid (chkN c = 0) := by show _ = _; unfold chkN; rw [HE.out]; rfl
              clear hor hlim
              go_enter Tryz.func47, Tryz.ntmps47
              have T1 : True := trivial
              have T2 : True := trivial
              have T3 : True := trivial
              have T4 : True := trivial
              go_wp2_with (first
                | (refine wpList_load_row rfl 45 _ rfl _ rfl _ _ _ _ HX.out.box Tryz.underlying45 rfl (infoCfg HS.out) ?_)
                | (refine wpList_load_row_g 45 _ rfl ?hw _ rfl _ _ _ _ HX.out.box Tryz.underlying45 rfl (infoCfg HS.out) ?_; case hw => simp [go_sem]; done)
                | (go_at_call 75; refine cL.mono ?_; clear cL; rintro e w2 ⟨rfl, hB2⟩; have HX2 : Hid (BoxAt w c w2) := HX.out.step hB2; clear HX; have HX := HX2; clear HX2 hB2; have k2 : w2.cell? ⟨w.heap.size, 2, none⟩ = some (.int .i64 c.dflt) := HX.out.cell 2)
                | (go_at_call 76; clear T1; refine (cB c.dflt _).mono ?_; clear k2; rintro e w3 ⟨rfl, hB3⟩; rw [h2]; have HX2 : Hid (BoxAt w c w3) := HX.out.step hB3; clear HX; have HX := HX2; clear HX2 hB3; have k4 : w3.cell? ⟨w.heap.size, 4, none⟩ = some (.int .i64 c.clr) := HX.out.cell 4)
                | (go_at_call 76; clear T2; refine (cB c.clr _).mono ?_; clear k4; rintro e w4 ⟨rfl, hB4⟩; rw [h3]; have HX2 : Hid (BoxAt w c w4) := HX.out.step hB4; clear HX; have HX := HX2; clear HX2 hB4; have cO := ordered_any c.arr c.labels.toNat c.L c.ea c.ecap HR.out w4 (HX.out.cfg HC.out).edges)
                | (go_at_call 77; refine cO.mono ?_; clear cO; rintro e w5 ⟨rfl, hB5⟩; rw [h4]; have HX2 : Hid (BoxAt w c w5) := HX.out.step hB5; clear HX; have HX := HX2; clear HX2 hB5; have cT := lattice_any c.arr c.labels.toNat c.L c.ea c.ecap HR.out w5 (HX.out.cfg HC.out).edges)
                | (go_at_call 78; refine cT.mono ?_; clear cT; rintro e w6 ⟨rfl, hB6⟩; rw [h5]; have HX2 : Hid (BoxAt w c w6) := HX.out.step hB6; clear HX; have HX := HX2; clear HX2 hB6; have k6 : w6.cell? ⟨w.heap.size, 6, none⟩ = some (.int .i64 c.inn) := HX.out.cell 6; have k7 : w6.cell? ⟨w.heap.size, 7, none⟩ = some (.int .i64 c.out) := HX.out.cell 7; have k8 : w6.cell? ⟨w.heap.size, 8, none⟩ = some (.int .i64 c.depth) := HX.out.cell 8; have k9 : w6.cell? ⟨w.heap.size, 9, none⟩ = some (.int .i64 c.bytes) := HX.out.cell 9; have k10 : w6.cell? ⟨w.heap.size, 10, none⟩ = some (.slice c.ba c.B.length c.bcap) := HX.out.cell 10; have cK := bucketsRef_any c.ba c.bcap c.B HB8.out w6 (HX.out.cfg HC.out).ints)
                | (go_at_call 44; clear T3; refine (format_any c.inn _).mono ?_; rintro e w7 ⟨rfl, rfl⟩; rw [h6])
                | (go_at_call 44; clear T4; refine (format_any c.out _).mono ?_; rintro e w8 ⟨rfl, rfl⟩; rw [h7])
                | (go_at_call 79; refine cK.mono ?_; clear cK k6 k7 k8 k9 k10; rintro e w9 ⟨rfl, hB9⟩; rw [h8]; have HX2 : Hid (BoxAt w c w9) := HX.out.step hB9; clear HX; have HX := HX2; clear HX2 hB9; have cU := rules_any c c.labels.toNat HLN.out w9)
                | (go_at_call 80; refine cU.mono ?_; clear cU; rintro e w10 ⟨ua, um, uc, rfl, hB10⟩; rw [HV.out]; have HX2 : Hid (BoxAt w c w10) := HX.out.step hB10; clear HX; have HX := HX2; clear HX2 hB10))
              go_ret2
              exact ⟨by rw [HE.out, HN.out]; rfl, HX.out.below⟩
            · have HE : Hid (chkE c = 4) := by show _ = _; unfold chkE; simp [hor, h2, h3, h4, h5, hlim]
              have HN : Hid (chkN c = 0) := by show _ = _; unfold chkN; rw [HE.out]; rfl
              clear hor hlim
              go_enter Tryz.func47, Tryz.ntmps47
              have T1 : True := trivial
              have T2 : True := trivial
              have T3 : True := trivial
              have T4 : True := trivial
              go_wp2_with (first
                | (refine wpList_load_row rfl 45 _ rfl _ rfl _ _ _ _ HX.out.box Tryz.underlying45 rfl (infoCfg HS.out) ?_)
                | (refine wpList_load_row_g 45 _ rfl ?hw _ rfl _ _ _ _ HX.out.box Tryz.underlying45 rfl (infoCfg HS.out) ?_; case hw => simp [go_sem]; done)
                | (go_at_call 75; refine cL.mono ?_; clear cL; rintro e w2 ⟨rfl, hB2⟩; have HX2 : Hid (BoxAt w c w2) := HX.out.step hB2; clear HX; have HX := HX2; clear HX2 hB2; have k2 : w2.cell? ⟨w.heap.size, 2, none⟩ = some (.int .i64 c.dflt) := HX.out.cell 2)
                | (go_at_call 76; clear T1; refine (cB c.dflt _).mono ?_; clear k2; rintro e w3 ⟨rfl, hB3⟩; rw [h2]; have HX2 : Hid (BoxAt w c w3) := HX.out.step hB3; clear HX; have HX := HX2; clear HX2 hB3; have k4 : w3.cell? ⟨w.heap.size, 4, none⟩ = some (.int .i64 c.clr) := HX.out.cell 4)
                | (go_at_call 76; clear T2; refine (cB c.clr _).mono ?_; clear k4; rintro e w4 ⟨rfl, hB4⟩; rw [h3]; have HX2 : Hid (BoxAt w c w4) := HX.out.step hB4; clear HX; have HX := HX2; clear HX2 hB4; have cO := ordered_any c.arr c.labels.toNat c.L c.ea c.ecap HR.out w4 (HX.out.cfg HC.out).edges)
                | (go_at_call 77; refine cO.mono ?_; clear cO; rintro e w5 ⟨rfl, hB5⟩; rw [h4]; have HX2 : Hid (BoxAt w c w5) := HX.out.step hB5; clear HX; have HX := HX2; clear HX2 hB5; have cT := lattice_any c.arr c.labels.toNat c.L c.ea c.ecap HR.out w5 (HX.out.cfg HC.out).edges)
                | (go_at_call 78; refine cT.mono ?_; clear cT; rintro e w6 ⟨rfl, hB6⟩; rw [h5]; have HX2 : Hid (BoxAt w c w6) := HX.out.step hB6; clear HX; have HX := HX2; clear HX2 hB6; have k6 : w6.cell? ⟨w.heap.size, 6, none⟩ = some (.int .i64 c.inn) := HX.out.cell 6; have k7 : w6.cell? ⟨w.heap.size, 7, none⟩ = some (.int .i64 c.out) := HX.out.cell 7; have k8 : w6.cell? ⟨w.heap.size, 8, none⟩ = some (.int .i64 c.depth) := HX.out.cell 8; have k9 : w6.cell? ⟨w.heap.size, 9, none⟩ = some (.int .i64 c.bytes) := HX.out.cell 9; have k10 : w6.cell? ⟨w.heap.size, 10, none⟩ = some (.slice c.ba c.B.length c.bcap) := HX.out.cell 10; have cK := bucketsRef_any c.ba c.bcap c.B HB8.out w6 (HX.out.cfg HC.out).ints)
                | (go_at_call 44; clear T3; refine (format_any c.inn _).mono ?_; rintro e w7 ⟨rfl, rfl⟩; rw [h6])
                | (go_at_call 44; clear T4; refine (format_any c.out _).mono ?_; rintro e w8 ⟨rfl, rfl⟩; rw [h7])
                | (go_at_call 79; refine cK.mono ?_; clear cK k6 k7 k8 k9 k10; rintro e w9 ⟨rfl, hB9⟩; rw [h8]; have HX2 : Hid (BoxAt w c w9) := HX.out.step hB9; clear HX; have HX := HX2; clear HX2 hB9; have cU := rules_any c c.labels.toNat HLN.out w9)
                | (go_at_call 80; refine cU.mono ?_; clear cU; rintro e w10 ⟨ua, um, uc, rfl, hB10⟩; rw [HV.out]; have HX2 : Hid (BoxAt w c w10) := HX.out.step hB10; clear HX; have HX := HX2; clear HX2 hB10))
              go_ret2
              exact ⟨by rw [HE.out, HN.out]; rfl, HX.out.below⟩
            · have HE : Hid (chkE c = 4) := by show _ = _; unfold chkE; simp [hor, h2, h3, h4, h5, hlim]
              have HN : Hid (chkN c = 0) := by show _ = _; unfold chkN; rw [HE.out]; rfl
              clear hor hlim
              go_enter Tryz.func47, Tryz.ntmps47
              have T1 : True := trivial
              have T2 : True := trivial
              have T3 : True := trivial
              have T4 : True := trivial
              go_wp2_with (first
                | (refine wpList_load_row rfl 45 _ rfl _ rfl _ _ _ _ HX.out.box Tryz.underlying45 rfl (infoCfg HS.out) ?_)
                | (refine wpList_load_row_g 45 _ rfl ?hw _ rfl _ _ _ _ HX.out.box Tryz.underlying45 rfl (infoCfg HS.out) ?_; case hw => simp [go_sem]; done)
                | (go_at_call 75; refine cL.mono ?_; clear cL; rintro e w2 ⟨rfl, hB2⟩; have HX2 : Hid (BoxAt w c w2) := HX.out.step hB2; clear HX; have HX := HX2; clear HX2 hB2; have k2 : w2.cell? ⟨w.heap.size, 2, none⟩ = some (.int .i64 c.dflt) := HX.out.cell 2)
                | (go_at_call 76; clear T1; refine (cB c.dflt _).mono ?_; clear k2; rintro e w3 ⟨rfl, hB3⟩; rw [h2]; have HX2 : Hid (BoxAt w c w3) := HX.out.step hB3; clear HX; have HX := HX2; clear HX2 hB3; have k4 : w3.cell? ⟨w.heap.size, 4, none⟩ = some (.int .i64 c.clr) := HX.out.cell 4)
                | (go_at_call 76; clear T2; refine (cB c.clr _).mono ?_; clear k4; rintro e w4 ⟨rfl, hB4⟩; rw [h3]; have HX2 : Hid (BoxAt w c w4) := HX.out.step hB4; clear HX; have HX := HX2; clear HX2 hB4; have cO := ordered_any c.arr c.labels.toNat c.L c.ea c.ecap HR.out w4 (HX.out.cfg HC.out).edges)
                | (go_at_call 77; refine cO.mono ?_; clear cO; rintro e w5 ⟨rfl, hB5⟩; rw [h4]; have HX2 : Hid (BoxAt w c w5) := HX.out.step hB5; clear HX; have HX := HX2; clear HX2 hB5; have cT := lattice_any c.arr c.labels.toNat c.L c.ea c.ecap HR.out w5 (HX.out.cfg HC.out).edges)
                | (go_at_call 78; refine cT.mono ?_; clear cT; rintro e w6 ⟨rfl, hB6⟩; rw [h5]; have HX2 : Hid (BoxAt w c w6) := HX.out.step hB6; clear HX; have HX := HX2; clear HX2 hB6; have k6 : w6.cell? ⟨w.heap.size, 6, none⟩ = some (.int .i64 c.inn) := HX.out.cell 6; have k7 : w6.cell? ⟨w.heap.size, 7, none⟩ = some (.int .i64 c.out) := HX.out.cell 7; have k8 : w6.cell? ⟨w.heap.size, 8, none⟩ = some (.int .i64 c.depth) := HX.out.cell 8; have k9 : w6.cell? ⟨w.heap.size, 9, none⟩ = some (.int .i64 c.bytes) := HX.out.cell 9; have k10 : w6.cell? ⟨w.heap.size, 10, none⟩ = some (.slice c.ba c.B.length c.bcap) := HX.out.cell 10; have cK := bucketsRef_any c.ba c.bcap c.B HB8.out w6 (HX.out.cfg HC.out).ints)
                | (go_at_call 44; clear T3; refine (format_any c.inn _).mono ?_; rintro e w7 ⟨rfl, rfl⟩; rw [h6])
                | (go_at_call 44; clear T4; refine (format_any c.out _).mono ?_; rintro e w8 ⟨rfl, rfl⟩; rw [h7])
                | (go_at_call 79; refine cK.mono ?_; clear cK k6 k7 k8 k9 k10; rintro e w9 ⟨rfl, hB9⟩; rw [h8]; have HX2 : Hid (BoxAt w c w9) := HX.out.step hB9; clear HX; have HX := HX2; clear HX2 hB9; have cU := rules_any c c.labels.toNat HLN.out w9)
                | (go_at_call 80; refine cU.mono ?_; clear cU; rintro e w10 ⟨ua, um, uc, rfl, hB10⟩; rw [HV.out]; have HX2 : Hid (BoxAt w c w10) := HX.out.step hB10; clear HX; have HX := HX2; clear HX2 hB10))
              go_ret2
              exact ⟨by rw [HE.out, HN.out]; rfl, HX.out.below⟩
            · have HE : Hid (chkE c = 4) := by show _ = _; unfold chkE; simp [hor, h2, h3, h4, h5, hlim]
              have HN : Hid (chkN c = 0) := by show _ = _; unfold chkN; rw [HE.out]; rfl
              clear hor hlim
              go_enter Tryz.func47, Tryz.ntmps47
              have T1 : True := trivial
              have T2 : True := trivial
              have T3 : True := trivial
              have T4 : True := trivial
              go_wp2_with (first
                | (refine wpList_load_row rfl 45 _ rfl _ rfl _ _ _ _ HX.out.box Tryz.underlying45 rfl (infoCfg HS.out) ?_)
                | (refine wpList_load_row_g 45 _ rfl ?hw _ rfl _ _ _ _ HX.out.box Tryz.underlying45 rfl (infoCfg HS.out) ?_; case hw => simp [go_sem]; done)
                | (go_at_call 75; refine cL.mono ?_; clear cL; rintro e w2 ⟨rfl, hB2⟩; have HX2 : Hid (BoxAt w c w2) := HX.out.step hB2; clear HX; have HX := HX2; clear HX2 hB2; have k2 : w2.cell? ⟨w.heap.size, 2, none⟩ = some (.int .i64 c.dflt) := HX.out.cell 2)
                | (go_at_call 76; clear T1; refine (cB c.dflt _).mono ?_; clear k2; rintro e w3 ⟨rfl, hB3⟩; rw [h2]; have HX2 : Hid (BoxAt w c w3) := HX.out.step hB3; clear HX; have HX := HX2; clear HX2 hB3; have k4 : w3.cell? ⟨w.heap.size, 4, none⟩ = some (.int .i64 c.clr) := HX.out.cell 4)
                | (go_at_call 76; clear T2; refine (cB c.clr _).mono ?_; clear k4; rintro e w4 ⟨rfl, hB4⟩; rw [h3]; have HX2 : Hid (BoxAt w c w4) := HX.out.step hB4; clear HX; have HX := HX2; clear HX2 hB4; have cO := ordered_any c.arr c.labels.toNat c.L c.ea c.ecap HR.out w4 (HX.out.cfg HC.out).edges)
                | (go_at_call 77; refine cO.mono ?_; clear cO; rintro e w5 ⟨rfl, hB5⟩; rw [h4]; have HX2 : Hid (BoxAt w c w5) := HX.out.step hB5; clear HX; have HX := HX2; clear HX2 hB5; have cT := lattice_any c.arr c.labels.toNat c.L c.ea c.ecap HR.out w5 (HX.out.cfg HC.out).edges)
                | (go_at_call 78; refine cT.mono ?_; clear cT; rintro e w6 ⟨rfl, hB6⟩; rw [h5]; have HX2 : Hid (BoxAt w c w6) := HX.out.step hB6; clear HX; have HX := HX2; clear HX2 hB6; have k6 : w6.cell? ⟨w.heap.size, 6, none⟩ = some (.int .i64 c.inn) := HX.out.cell 6; have k7 : w6.cell? ⟨w.heap.size, 7, none⟩ = some (.int .i64 c.out) := HX.out.cell 7; have k8 : w6.cell? ⟨w.heap.size, 8, none⟩ = some (.int .i64 c.depth) := HX.out.cell 8; have k9 : w6.cell? ⟨w.heap.size, 9, none⟩ = some (.int .i64 c.bytes) := HX.out.cell 9; have k10 : w6.cell? ⟨w.heap.size, 10, none⟩ = some (.slice c.ba c.B.length c.bcap) := HX.out.cell 10; have cK := bucketsRef_any c.ba c.bcap c.B HB8.out w6 (HX.out.cfg HC.out).ints)
                | (go_at_call 44; clear T3; refine (format_any c.inn _).mono ?_; rintro e w7 ⟨rfl, rfl⟩; rw [h6])
                | (go_at_call 44; clear T4; refine (format_any c.out _).mono ?_; rintro e w8 ⟨rfl, rfl⟩; rw [h7])
                | (go_at_call 79; refine cK.mono ?_; clear cK k6 k7 k8 k9 k10; rintro e w9 ⟨rfl, hB9⟩; rw [h8]; have HX2 : Hid (BoxAt w c w9) := HX.out.step hB9; clear HX; have HX := HX2; clear HX2 hB9; have cU := rules_any c c.labels.toNat HLN.out w9)
                | (go_at_call 80; refine cU.mono ?_; clear cU; rintro e w10 ⟨ua, um, uc, rfl, hB10⟩; rw [HV.out]; have HX2 : Hid (BoxAt w c w10) := HX.out.step hB10; clear HX; have HX := HX2; clear HX2 hB10))
              go_ret2
              exact ⟨by rw [HE.out, HN.out]; rfl, HX.out.below⟩
            · cases h8 : bucketsR c.B
              · have HE : Hid (chkE c = 5) := by show _ = _; unfold chkE; simp [hor, h2, h3, h4, h5, hlim, h8]
                have HN : Hid (chkN c = 0) := by show _ = _; unfold chkN; rw [HE.out]; rfl
                clear hor
                go_enter Tryz.func47, Tryz.ntmps47
                have T1 : True := trivial
                have T2 : True := trivial
                have T3 : True := trivial
                have T4 : True := trivial
                go_wp2_with (first
                  | (refine wpList_load_row rfl 45 _ rfl _ rfl _ _ _ _ HX.out.box Tryz.underlying45 rfl (infoCfg HS.out) ?_)
                  | (refine wpList_load_row_g 45 _ rfl ?hw _ rfl _ _ _ _ HX.out.box Tryz.underlying45 rfl (infoCfg HS.out) ?_; case hw => simp [go_sem]; done)
                  | (go_at_call 75; refine cL.mono ?_; clear cL; rintro e w2 ⟨rfl, hB2⟩; have HX2 : Hid (BoxAt w c w2) := HX.out.step hB2; clear HX; have HX := HX2; clear HX2 hB2; have k2 : w2.cell? ⟨w.heap.size, 2, none⟩ = some (.int .i64 c.dflt) := HX.out.cell 2)
                  | (go_at_call 76; clear T1; refine (cB c.dflt _).mono ?_; clear k2; rintro e w3 ⟨rfl, hB3⟩; rw [h2]; have HX2 : Hid (BoxAt w c w3) := HX.out.step hB3; clear HX; have HX := HX2; clear HX2 hB3; have k4 : w3.cell? ⟨w.heap.size, 4, none⟩ = some (.int .i64 c.clr) := HX.out.cell 4)
                  | (go_at_call 76; clear T2; refine (cB c.clr _).mono ?_; clear k4; rintro e w4 ⟨rfl, hB4⟩; rw [h3]; have HX2 : Hid (BoxAt w c w4) := HX.out.step hB4; clear HX; have HX := HX2; clear HX2 hB4; have cO := ordered_any c.arr c.labels.toNat c.L c.ea c.ecap HR.out w4 (HX.out.cfg HC.out).edges)
                  | (go_at_call 77; refine cO.mono ?_; clear cO; rintro e w5 ⟨rfl, hB5⟩; rw [h4]; have HX2 : Hid (BoxAt w c w5) := HX.out.step hB5; clear HX; have HX := HX2; clear HX2 hB5; have cT := lattice_any c.arr c.labels.toNat c.L c.ea c.ecap HR.out w5 (HX.out.cfg HC.out).edges)
                  | (go_at_call 78; refine cT.mono ?_; clear cT; rintro e w6 ⟨rfl, hB6⟩; rw [h5]; have HX2 : Hid (BoxAt w c w6) := HX.out.step hB6; clear HX; have HX := HX2; clear HX2 hB6; have k6 : w6.cell? ⟨w.heap.size, 6, none⟩ = some (.int .i64 c.inn) := HX.out.cell 6; have k7 : w6.cell? ⟨w.heap.size, 7, none⟩ = some (.int .i64 c.out) := HX.out.cell 7; have k8 : w6.cell? ⟨w.heap.size, 8, none⟩ = some (.int .i64 c.depth) := HX.out.cell 8; have k9 : w6.cell? ⟨w.heap.size, 9, none⟩ = some (.int .i64 c.bytes) := HX.out.cell 9; have k10 : w6.cell? ⟨w.heap.size, 10, none⟩ = some (.slice c.ba c.B.length c.bcap) := HX.out.cell 10; have cK := bucketsRef_any c.ba c.bcap c.B HB8.out w6 (HX.out.cfg HC.out).ints)
                  | (go_at_call 44; clear T3; refine (format_any c.inn _).mono ?_; rintro e w7 ⟨rfl, rfl⟩; rw [h6])
                  | (go_at_call 44; clear T4; refine (format_any c.out _).mono ?_; rintro e w8 ⟨rfl, rfl⟩; rw [h7])
                  | (go_at_call 79; refine cK.mono ?_; clear cK k6 k7 k8 k9 k10; rintro e w9 ⟨rfl, hB9⟩; rw [h8]; have HX2 : Hid (BoxAt w c w9) := HX.out.step hB9; clear HX; have HX := HX2; clear HX2 hB9; have cU := rules_any c c.labels.toNat HLN.out w9)
                  | (go_at_call 80; refine cU.mono ?_; clear cU; rintro e w10 ⟨ua, um, uc, rfl, hB10⟩; rw [HV.out]; have HX2 : Hid (BoxAt w c w10) := HX.out.step hB10; clear HX; have HX := HX2; clear HX2 hB10))
                go_ret2
                exact ⟨by rw [HE.out, HN.out]; rfl, HX.out.below⟩
              · by_cases h9 : 0 ≤ rulesV c.labels.toNat c.pol.data.toList
                · have HE : Hid (chkE c = 6) := by show _ = _; unfold chkE; simp [hor, h2, h3, h4, h5, hlim, h8, h9]
                  obtain ⟨V, hV⟩ : ∃ V, rulesV c.labels.toNat c.pol.data.toList = V := ⟨_, rfl⟩
                  have HV : Hid (rulesV c.labels.toNat c.pol.data.toList = V) := hV
                  have HN : Hid (chkN c = V) := by show _ = _; unfold chkN; rw [HE.out, if_pos rfl]; exact hV
                  rw [hV] at h9
                  clear hor hlim hV
                  go_enter Tryz.func47, Tryz.ntmps47
                  have T1 : True := trivial
                  have T2 : True := trivial
                  have T3 : True := trivial
                  have T4 : True := trivial
                  go_wp2_with (first
                    | (refine wpList_load_row rfl 45 _ rfl _ rfl _ _ _ _ HX.out.box Tryz.underlying45 rfl (infoCfg HS.out) ?_)
                    | (refine wpList_load_row_g 45 _ rfl ?hw _ rfl _ _ _ _ HX.out.box Tryz.underlying45 rfl (infoCfg HS.out) ?_; case hw => simp [go_sem]; done)
                    | (go_at_call 75; refine cL.mono ?_; clear cL; rintro e w2 ⟨rfl, hB2⟩; have HX2 : Hid (BoxAt w c w2) := HX.out.step hB2; clear HX; have HX := HX2; clear HX2 hB2; have k2 : w2.cell? ⟨w.heap.size, 2, none⟩ = some (.int .i64 c.dflt) := HX.out.cell 2)
                    | (go_at_call 76; clear T1; refine (cB c.dflt _).mono ?_; clear k2; rintro e w3 ⟨rfl, hB3⟩; rw [h2]; have HX2 : Hid (BoxAt w c w3) := HX.out.step hB3; clear HX; have HX := HX2; clear HX2 hB3; have k4 : w3.cell? ⟨w.heap.size, 4, none⟩ = some (.int .i64 c.clr) := HX.out.cell 4)
                    | (go_at_call 76; clear T2; refine (cB c.clr _).mono ?_; clear k4; rintro e w4 ⟨rfl, hB4⟩; rw [h3]; have HX2 : Hid (BoxAt w c w4) := HX.out.step hB4; clear HX; have HX := HX2; clear HX2 hB4; have cO := ordered_any c.arr c.labels.toNat c.L c.ea c.ecap HR.out w4 (HX.out.cfg HC.out).edges)
                    | (go_at_call 77; refine cO.mono ?_; clear cO; rintro e w5 ⟨rfl, hB5⟩; rw [h4]; have HX2 : Hid (BoxAt w c w5) := HX.out.step hB5; clear HX; have HX := HX2; clear HX2 hB5; have cT := lattice_any c.arr c.labels.toNat c.L c.ea c.ecap HR.out w5 (HX.out.cfg HC.out).edges)
                    | (go_at_call 78; refine cT.mono ?_; clear cT; rintro e w6 ⟨rfl, hB6⟩; rw [h5]; have HX2 : Hid (BoxAt w c w6) := HX.out.step hB6; clear HX; have HX := HX2; clear HX2 hB6; have k6 : w6.cell? ⟨w.heap.size, 6, none⟩ = some (.int .i64 c.inn) := HX.out.cell 6; have k7 : w6.cell? ⟨w.heap.size, 7, none⟩ = some (.int .i64 c.out) := HX.out.cell 7; have k8 : w6.cell? ⟨w.heap.size, 8, none⟩ = some (.int .i64 c.depth) := HX.out.cell 8; have k9 : w6.cell? ⟨w.heap.size, 9, none⟩ = some (.int .i64 c.bytes) := HX.out.cell 9; have k10 : w6.cell? ⟨w.heap.size, 10, none⟩ = some (.slice c.ba c.B.length c.bcap) := HX.out.cell 10; have cK := bucketsRef_any c.ba c.bcap c.B HB8.out w6 (HX.out.cfg HC.out).ints)
                    | (go_at_call 44; clear T3; refine (format_any c.inn _).mono ?_; rintro e w7 ⟨rfl, rfl⟩; rw [h6])
                    | (go_at_call 44; clear T4; refine (format_any c.out _).mono ?_; rintro e w8 ⟨rfl, rfl⟩; rw [h7])
                    | (go_at_call 79; refine cK.mono ?_; clear cK k6 k7 k8 k9 k10; rintro e w9 ⟨rfl, hB9⟩; rw [h8]; have HX2 : Hid (BoxAt w c w9) := HX.out.step hB9; clear HX; have HX := HX2; clear HX2 hB9; have cU := rules_any c c.labels.toNat HLN.out w9)
                    | (go_at_call 80; refine cU.mono ?_; clear cU; rintro e w10 ⟨ua, um, uc, rfl, hB10⟩; rw [HV.out]; have HX2 : Hid (BoxAt w c w10) := HX.out.step hB10; clear HX; have HX := HX2; clear HX2 hB10))
                  go_ret2
                  exact ⟨by rw [HE.out, HN.out]; rfl, HX.out.below⟩
                · have HE : Hid (chkE c = 0) := by show _ = _; unfold chkE; simp [hor, h2, h3, h4, h5, hlim, h8, h9]
                  obtain ⟨V, hV⟩ : ∃ V, rulesV c.labels.toNat c.pol.data.toList = V := ⟨_, rfl⟩
                  have HV : Hid (rulesV c.labels.toNat c.pol.data.toList = V) := hV
                  have HN : Hid (chkN c = 0) := by show _ = _; unfold chkN; rw [HE.out]; rfl
                  rw [hV] at h9
                  clear hor hlim hV
                  go_enter Tryz.func47, Tryz.ntmps47
                  have T1 : True := trivial
                  have T2 : True := trivial
                  have T3 : True := trivial
                  have T4 : True := trivial
                  go_wp2_with (first
                    | (refine wpList_load_row rfl 45 _ rfl _ rfl _ _ _ _ HX.out.box Tryz.underlying45 rfl (infoCfg HS.out) ?_)
                    | (refine wpList_load_row_g 45 _ rfl ?hw _ rfl _ _ _ _ HX.out.box Tryz.underlying45 rfl (infoCfg HS.out) ?_; case hw => simp [go_sem]; done)
                    | (go_at_call 75; refine cL.mono ?_; clear cL; rintro e w2 ⟨rfl, hB2⟩; have HX2 : Hid (BoxAt w c w2) := HX.out.step hB2; clear HX; have HX := HX2; clear HX2 hB2; have k2 : w2.cell? ⟨w.heap.size, 2, none⟩ = some (.int .i64 c.dflt) := HX.out.cell 2)
                    | (go_at_call 76; clear T1; refine (cB c.dflt _).mono ?_; clear k2; rintro e w3 ⟨rfl, hB3⟩; rw [h2]; have HX2 : Hid (BoxAt w c w3) := HX.out.step hB3; clear HX; have HX := HX2; clear HX2 hB3; have k4 : w3.cell? ⟨w.heap.size, 4, none⟩ = some (.int .i64 c.clr) := HX.out.cell 4)
                    | (go_at_call 76; clear T2; refine (cB c.clr _).mono ?_; clear k4; rintro e w4 ⟨rfl, hB4⟩; rw [h3]; have HX2 : Hid (BoxAt w c w4) := HX.out.step hB4; clear HX; have HX := HX2; clear HX2 hB4; have cO := ordered_any c.arr c.labels.toNat c.L c.ea c.ecap HR.out w4 (HX.out.cfg HC.out).edges)
                    | (go_at_call 77; refine cO.mono ?_; clear cO; rintro e w5 ⟨rfl, hB5⟩; rw [h4]; have HX2 : Hid (BoxAt w c w5) := HX.out.step hB5; clear HX; have HX := HX2; clear HX2 hB5; have cT := lattice_any c.arr c.labels.toNat c.L c.ea c.ecap HR.out w5 (HX.out.cfg HC.out).edges)
                    | (go_at_call 78; refine cT.mono ?_; clear cT; rintro e w6 ⟨rfl, hB6⟩; rw [h5]; have HX2 : Hid (BoxAt w c w6) := HX.out.step hB6; clear HX; have HX := HX2; clear HX2 hB6; have k6 : w6.cell? ⟨w.heap.size, 6, none⟩ = some (.int .i64 c.inn) := HX.out.cell 6; have k7 : w6.cell? ⟨w.heap.size, 7, none⟩ = some (.int .i64 c.out) := HX.out.cell 7; have k8 : w6.cell? ⟨w.heap.size, 8, none⟩ = some (.int .i64 c.depth) := HX.out.cell 8; have k9 : w6.cell? ⟨w.heap.size, 9, none⟩ = some (.int .i64 c.bytes) := HX.out.cell 9; have k10 : w6.cell? ⟨w.heap.size, 10, none⟩ = some (.slice c.ba c.B.length c.bcap) := HX.out.cell 10; have cK := bucketsRef_any c.ba c.bcap c.B HB8.out w6 (HX.out.cfg HC.out).ints)
                    | (go_at_call 44; clear T3; refine (format_any c.inn _).mono ?_; rintro e w7 ⟨rfl, rfl⟩; rw [h6])
                    | (go_at_call 44; clear T4; refine (format_any c.out _).mono ?_; rintro e w8 ⟨rfl, rfl⟩; rw [h7])
                    | (go_at_call 79; refine cK.mono ?_; clear cK k6 k7 k8 k9 k10; rintro e w9 ⟨rfl, hB9⟩; rw [h8]; have HX2 : Hid (BoxAt w c w9) := HX.out.step hB9; clear HX; have HX := HX2; clear HX2 hB9; have cU := rules_any c c.labels.toNat HLN.out w9)
                    | (go_at_call 80; refine cU.mono ?_; clear cU; rintro e w10 ⟨ua, um, uc, rfl, hB10⟩; rw [HV.out]; have HX2 : Hid (BoxAt w c w10) := HX.out.step hB10; clear HX; have HX := HX2; clear HX2 hB10))
                  go_ret2
                  exact ⟨by rw [HE.out, HN.out]; rfl, HX.out.below⟩
end Go.Proofs.YtllcbnfmihfaaaaGreatDoor
