import Derived.Test.YtllcbnfmihfaaaaGreatDoorLq27
import Derived.Test.YtllcbnfmihfaaaaGreatDoorLq31
namespace Go.Proofs.YtllcbnfmihfaaaaGreatDoor
open Go.RowKit Go.Shelf

theorem results_row_tmp2 {P : Program} {fn : Func} {p u u2 : Tmp} {ty : TypeId} (h : fn.results = #[.cell p ty, .tmp u, .tmp u2]) (tmps : Array Value) (w : World) (g : Nat) (t : TypeId) (cs : Array Value) (fr : Nat × Nat) (d : TypeDesc)
    (hp : tmps.getD p undef = .pointer (some ⟨g, 0, none⟩)) (hg : w.heap[g]? = some (.cells cs t fr))
    (hu : P.underlying ty = some d) (hd : (match d with | .struct _ | .array _ _ => true | _ => false) = true) (hi : (P.info? ty).map (·.size) = some cs.size) (v v2 : Value) (hv : tmps.getD u undef = v) (hv2 : tmps.getD u2 undef = v2) :
    (results fn tmps).run P w = .ok (.tuple #[.agg cs, v, v2]) w := by
  have e : (results fn tmps).run P w = ((asAddr (tmps.getD p undef)).run P w).andThen fun a w₁ => ((loadVar ty a).run P w₁).andThen fun v w₂ => .ok (.tuple #[v, tmps.getD u undef, tmps.getD u2 undef]) w₂ := by
    simp only [results, h]
    simp [Sem.run_bind, Result.andThen]
  subst hv hv2
  rw [e, hp]
  simp only [asAddr, Sem.run_pure, Result.andThen_ok, run_loadVar_row w g t ty cs fr d hg hu hd hi]

def setArr (O : Array Value) (a : Option Addr) (k c : Nat) : Array Value := O.push (.slice a k c)
def zSet : Array Value := setArr zOrd none 0 0
theorem built_set0 : Tryz.prog.built 110 [] = some zSet := by kernel_rfl
theorem built_set (n : Nat) (m : Nat → Nat → Bool) (a : Option Addr) (k c : Nat) : Tryz.prog.built 110 [(0, .agg (ordArr n m)), (1, .slice a k c)] = some (setArr (ordArr n m) a k c) := by kernel_rfl
theorem infoSet : (Tryz.prog.info? 110).map (·.size) = some 38 := by kernel_rfl
theorem run_allocSet (ρ : Operand → Value) (o : Oper) (ho : o.op = .alloc 110) (w : World) : (execOp ρ o).run Tryz.prog w = .ok (.value (.pointer (some ⟨w.heap.size, 0, none⟩))) (w.alloc (.cells zSet 110)) := by
  unfold execOp
  rw [ho]
  kernel_rfl
theorem wpList_allocSet {ops : Array Oper} {rest : List Oper} {o : Oper} {a : Act} {w : World} {Q : Exit → Act → World → Prop} (hg : o.guard = none) (ho : o.op = .alloc 110) (d : Option Tmp) (hd : o.dst = d) (N : Nat) (hN : w.heap.size = N)
    (h : wpList Tryz.prog ops Q rest (a.put d (.pointer (some ⟨N, 0, none⟩))) (w.alloc (.cells zSet 110))) : wpList Tryz.prog ops Q (o :: rest) a w := by
  subst hN
  exact Great.wpList_allocTo hg d hd _ _ (run_allocSet _ _ ho _) h
theorem ordArr_one (n : Nat) (m : Nat → Nat → Bool) : (ordArr n m).all (·.oneCell') = true := by
  simp [ordArr, Value.oneCell']
theorem setArr_size {O : Array Value} (h : O.size = 37) (a : Option Addr) (k c : Nat) : (setArr O a k c).size = 38 := by unfold setArr; simp [h]
theorem setArr_one {O : Array Value} (h : O.all (·.oneCell') = true) (a : Option Addr) (k c : Nat) : (setArr O a k c).all (·.oneCell') = true := by
  unfold setArr
  rw [Array.all_push, h]
  rfl
theorem zSet_size : zSet.size = 38 := setArr_size (ordArr_size _ _) _ _ _
theorem zSet_one : zSet.all (·.oneCell') = true := setArr_one (ordArr_one _ _) _ _ _
theorem infoSet' {A : Array Value} (h : A.size = 38) : (Tryz.prog.info? 110).map (·.size) = some A.size := by rw [h]; exact infoSet

/-- The program's answer, as data. -/
def proE (c : Cfg) : Int := if ¬ roE c.labels c.L c.dflt c.clr = 0 then roE c.labels c.L c.dflt c.clr else if limB c.inn c.out c.depth c.bytes = false then 4 else if bucketsP c.B = false then 5 else polE c.labels.toNat c.pol.data.toList
def proN (c : Cfg) : Int := if ¬ roE c.labels c.L c.dflt c.clr = 0 then 0 else if limB c.inn c.out c.depth c.bytes = false then 0 else if bucketsP c.B = false then 0 else polN c.labels.toNat c.pol.data.toList

theorem roE_cases (c : Cfg) : (newOK c.labels c.L = true → roE c.labels c.L c.dflt c.clr = if ordOK c = false then 1 else if orderedB c.labels.toNat (leqF c.labels.toNat c.L) = false then 2 else if latticeB c.labels.toNat (leqF c.labels.toNat c.L) = false then 3 else 0) ∧ (newOK c.labels c.L = false → roE c.labels c.L c.dflt c.clr = 1 ∧ ordOK c = false) := by
  constructor
  · intro h
    obtain ⟨_, H⟩ := newOK_parts h
    have hm : ∀ i j, i < c.labels.toNat → j < c.labels.toNat → newM c.labels.toNat c.L i j = leqF c.labels.toNat c.L i j := fun i j hi hj => newM_leqF H.hE hi hj
    have e1 := cyc_ordered hm
    have e2 := lattice_eq hm (fun i hi => leqF_refl H.hE hi)
    unfold roE ordOK
    rw [h, e1, e2]
    cases hasB c.labels.toNat c.dflt <;> cases hasB c.labels.toNat c.clr <;> cases orderedB c.labels.toNat (leqF c.labels.toNat c.L) <;> cases latticeB c.labels.toNat (leqF c.labels.toNat c.L) <;> rfl
  · intro h
    unfold roE ordOK
    rw [h]
    exact ⟨rfl, rfl⟩
theorem pro_chk (c : Cfg) : proE c = chkE c ∧ proN c = chkN c := by
  have key : proE c = chkE c ∧ proN c = if chkE c = 6 then rulesV c.labels.toNat c.pol.data.toList else 0 := by
    unfold proE proN chkE polE polN
    rw [buckets_eq]
    cases hn : newOK c.labels c.L
    · obtain ⟨h1, h2⟩ := (roE_cases c).2 hn
      rw [h1, h2]
      simp
    · rw [(roE_cases c).1 hn]
      by_cases a1 : ordOK c = false
      · simp [a1]
      · by_cases a2 : orderedB c.labels.toNat (leqF c.labels.toNat c.L) = false
        · simp [a1, a2]
        · by_cases a3 : latticeB c.labels.toNat (leqF c.labels.toNat c.L) = false
          · simp [a1, a2, a3]
          · by_cases a4 : limB c.inn c.out c.depth c.bytes = false
            · simp [a1, a2, a3, a4]
            · by_cases a5 : bucketsR c.B = false
              · simp [a1, a2, a3, a4, a5]
              · by_cases a6 : 0 ≤ rulesV c.labels.toNat c.pol.data.toList
                · simp [a1, a2, a3, a4, a5, a6]
                · simp [a1, a2, a3, a4, a5, a6]
  exact ⟨key.1, key.2.trans rfl⟩
theorem roE_ok {c : Cfg} (h : roE c.labels c.L c.dflt c.clr = 0) : newOK c.labels c.L = true ∧ roA c.labels c.L c.dflt c.clr = ordArr c.labels.toNat (newM c.labels.toNat c.L) := by
  constructor
  · cases hn : newOK c.labels c.L
    · have := ((roE_cases c).2 hn).1
      rw [h] at this
      cases this
    · rfl
  · unfold roA
    rw [if_pos h]
structure CrAt (w : World) (c : Cfg) (W : World) : Prop where
  below : Below w.heap.size w W
  box : W.heap[w.heap.size]? = some (.cells c.arr 45)
  res : W.heap[w.heap.size + 1]? = some (.cells zSet 110)
theorem CrAt.step {w W W' : World} {c : Cfg} (h : CrAt w c W) (hb : Below W.heap.size W W') : CrAt w c W' :=
  ⟨h.below.trans (hb.mono h.below.size), (hb.block _ (Array.getElem?_eq_some_iff.1 h.box).1).trans h.box, (hb.block _ (Array.getElem?_eq_some_iff.1 h.res).1).trans h.res⟩
theorem crAt_mk (w : World) (c : Cfg) : CrAt w c ((w.alloc (.cells c.arr 45)).alloc (.cells zSet 110)) := by
  refine ⟨((Below.refl _ _).alloc (Nat.le_refl _) _).alloc (by simp) _, (Below.heap_alloc _ _ _ (by simp)).trans (heap_new _ _), ?_⟩
  have := heap_new (w.alloc (.cells c.arr 45)) (.cells zSet 110)
  rwa [World.size_alloc] at this
theorem CrAt.cell {w W : World} {c : Cfg} (h : CrAt w c W) (j : Nat) : W.cell? ⟨w.heap.size, j, none⟩ = c.arr[j]? := cellOfHeap h.box j
/-- What config.Read gives besides the error and the line. -/
def SetOK (c : Cfg) (A : Array Value) : Prop := A.size = 38 ∧ A.all (·.oneCell') = true ∧ (proE c = 0 → newOK c.labels c.L = true ∧ ∃ a k cap, A = setArr (ordArr c.labels.toNat (newM c.labels.toNat c.L)) a k cap)
theorem setOK_z (c : Cfg) (h : ¬ proE c = 0) : SetOK c zSet := ⟨zSet_size, zSet_one, fun e => absurd e h⟩
theorem ro_nz {c : Cfg} (h : ¬ roE c.labels c.L c.dflt c.clr = 0) : proE c = roE c.labels c.L c.dflt c.clr ∧ proN c = 0 := by unfold proE proN; rw [if_pos h, if_pos h]; exact ⟨rfl, rfl⟩

set_option maxRecDepth 100000 in
set_option maxHeartbeats 4000000 in
theorem cfgRead_any (c : Cfg) (w : World) (hc : CfgW w c) (hg : Glob w) :
    Calls Tryz.prog 48 #[.agg c.arr] w fun e w' => ∃ A, e = .returned (.tuple #[.agg A, .int .i64 (proE c), .int .i64 (proN c)]) ∧ SetOK c A ∧ Below w.heap.size w w' := by
  have HC : Hid (CfgW w c) := hc
  have HG : Hid (Glob w) := hg
  have HS : Hid (c.arr.size = 11) := c.size
  have HX : Hid (CrAt w c ((w.alloc (.cells c.arr 45)).alloc (.cells zSet 110))) := crAt_mk w c
  have hL : c.L.length ≤ maxLen := by have := hc.eb; unfold maxLen; omega
  have hB8 : c.B.length ≤ maxLen := by have := hc.bb; unfold maxLen; omega
  have cO : Calls Tryz.prog 81 #[.agg c.arr] ((w.alloc (.cells c.arr 45)).alloc (.cells zSet 110)) fun e w' => e = .returned (.tuple #[.agg (roA c.labels c.L c.dflt c.clr), .int .i64 (roE c.labels c.L c.dflt c.clr)]) ∧ Below ((w.alloc (.cells c.arr 45)).alloc (.cells zSet 110)).heap.size ((w.alloc (.cells c.arr 45)).alloc (.cells zSet 110)) w' :=
    readOrder_any c.arr c.labels c.L c.ea c.ecap c.dflt c.clr rfl rfl rfl rfl hL _ (hc.edges.below HX.out.below)
  have hO1 : (roA c.labels c.L c.dflt c.clr).size = 37 := by unfold roA; split <;> exact ordArr_size _ _
  have hO2 : (roA c.labels c.L c.dflt c.clr).all (·.oneCell') = true := by unfold roA; split <;> exact ordArr_all _ _
  have HO1 : Hid ((roA c.labels c.L c.dflt c.clr).size = 37) := hO1
  have HO2 : Hid ((roA c.labels c.L c.dflt c.clr).all (·.oneCell') = true) := hO2
  have HZO : Hid (zOrd.size = (roA c.labels c.L c.dflt c.clr).size) := by show _ = _; rw [hO1]; exact ordArr_size _ _
  have HRO : Hid (roE c.labels c.L c.dflt c.clr = 0 → newOK c.labels c.L = true ∧ roA c.labels c.L c.dflt c.clr = ordArr c.labels.toNat (newM c.labels.toNat c.L)) := roE_ok
  have HNZ : Hid (¬ roE c.labels c.L c.dflt c.clr = 0 → proE c = roE c.labels c.L c.dflt c.clr ∧ proN c = 0) := ro_nz
  have HPE : Hid (roE c.labels c.L c.dflt c.clr = 0 → proE c = (if limB c.inn c.out c.depth c.bytes = false then 4 else if bucketsP c.B = false then 5 else polE c.labels.toNat c.pol.data.toList) ∧ proN c = (if limB c.inn c.out c.depth c.bytes = false then 0 else if bucketsP c.B = false then 0 else polN c.labels.toNat c.pol.data.toList)) := fun h => by
    refine ⟨?_, ?_⟩
    · unfold proE; rw [if_neg (fun hh => hh h)]
    · unfold proN; rw [if_neg (fun hh => hh h)]
  clear hO1 hO2 hc hg
  generalize roA c.labels c.L c.dflt c.clr = O at *
  generalize roE c.labels c.L c.dflt c.clr = E0 at *
  go_enter Tryz.func48, Tryz.ntmps48
  go_wp2_with (first
    | (refine wpList_allocSet rfl rfl _ rfl (w.heap.size + 1) ?hN ?_; case hN => (simp only [World.size_alloc]; done))
    | (refine wpList_load_row rfl 45 _ rfl _ rfl _ _ _ _ HX.out.box Tryz.underlying45 rfl (infoCfg HS.out) ?_)
    | fail)
  refine cO.mono ?_
  clear cO
  rintro e w2 ⟨rfl, hB2⟩
  have HX2 : Hid (CrAt w c w2) := HX.out.step hB2
  clear hB2 HX
  have HX3 : Hid (CrAt w c (w2.alloc (.cells O 107))) := HX2.out.step ((Below.refl _ _).alloc (Nat.le_refl _) _)
  have HOR : Hid ((w2.alloc (.cells O 107)).heap[w2.heap.size]? = some (.cells O 107)) := heap_new _ _
  by_cases hE : E0 = 0
  · subst hE
    obtain ⟨hok, hOe⟩ := HRO.out rfl
    obtain ⟨hp1, hp2⟩ := HPE.out rfl
    have HOE : Hid (O = ordArr c.labels.toNat (newM c.labels.toNat c.L)) := hOe
    have HOK : Hid (newOK c.labels c.L = true) := hok
    have h6 : (w2.alloc (.cells O 107)).cell? ⟨w.heap.size, 6, none⟩ = some (.int .i64 c.inn) := HX3.out.cell 6
    have h7 : (w2.alloc (.cells O 107)).cell? ⟨w.heap.size, 7, none⟩ = some (.int .i64 c.out) := HX3.out.cell 7
    have h8 : (w2.alloc (.cells O 107)).cell? ⟨w.heap.size, 8, none⟩ = some (.int .i64 c.depth) := HX3.out.cell 8
    have h9 : (w2.alloc (.cells O 107)).cell? ⟨w.heap.size, 9, none⟩ = some (.int .i64 c.bytes) := HX3.out.cell 9
    have h10 : (w2.alloc (.cells O 107)).cell? ⟨w.heap.size, 10, none⟩ = some (.slice c.ba c.B.length c.bcap) := HX3.out.cell 10
    have h3 : (w2.alloc (.cells O 107)).cell? ⟨w.heap.size, 3, none⟩ = some (.string c.pol) := HX3.out.cell 3
    have h0 : (w2.alloc (.cells O 107)).cell? ⟨w.heap.size, 0, none⟩ = some (.int .i64 c.labels) := HX3.out.cell 0
    have cLm := fun W => limitsOK_any c.inn c.out c.depth c.bytes W
    clear HRO HPE HNZ hOe hok
    cases e1 : limB c.inn c.out c.depth c.bytes
    · have HP1 : Hid (proE c = 4) := by show _ = _; rw [hp1, e1]; rfl
      have HP2 : Hid (proN c = 0) := by show _ = _; rw [hp2, e1]; rfl
      have HNE : Hid (¬ proE c = 0) := by show ¬ _; rw [HP1.out]; decide
      rw [e1] at cLm
      clear hp1 hp2 e1
      go_wp2_with (first
        | (go_at_call 38; refine (cLm _).mono ?_; rintro e w3 ⟨rfl, rfl⟩)
        | (refine wpList_allocOrd rfl rfl _ rfl w2.heap.size rfl ?_)
        | (refine wpList_store_row rfl 107 _ _ rfl w2.heap.size O rfl rfl 107 zOrd (heap_new w2 _) (infoOrd HO1.out) HZO.out HO2.out ?_; rw [World.setRow_alloc_new])
        | (refine wpList_buildAt rfl 110 _ rfl _ rfl _ [] ?hl built_set0 ?_; case hl => simp)
        | (refine wpList_store_row rfl 110 _ _ rfl (w.heap.size + 1) zSet rfl rfl 110 zSet HX3.out.res (infoSet' zSet_size) rfl zSet_one ?_))
      refine bodyPost_ret (results_row_tmp2 Tryz.results48 _ _ (w.heap.size + 1) 110 zSet (0, 0) _ rfl (setRow_heap _ _ zSet _ _ _ HX3.out.res) Tryz.underlying110 rfl (infoSet' zSet_size) (.int .i64 4) (.int .i64 0) rfl rfl) rfl ⟨zSet, by rw [HP1.out, HP2.out], setOK_z c HNE.out, below_setRow HX3.out.below (by omega) _⟩
    · rw [e1] at cLm
      have hBk := bucketsOK_any c.ba c.bcap c.B hB8 (w2.alloc (.cells O 107)) (HC.out.ints.below HX3.out.below)
      cases e2 : bucketsP c.B
      · have HP1 : Hid (proE c = 5) := by show _ = _; rw [hp1, e1, e2]; rfl
        have HP2 : Hid (proN c = 0) := by show _ = _; rw [hp2, e1, e2]; rfl
        have HNE : Hid (¬ proE c = 0) := by show ¬ _; rw [HP1.out]; decide
        rw [e2] at hBk
        clear hp1 hp2 e1 e2
        go_wp2_with (first
          | (go_at_call 38; refine (cLm _).mono ?_; rintro e w3 ⟨rfl, rfl⟩)
          | (go_at_call 82; refine hBk.mono ?_; rintro e w3 ⟨rfl, rfl⟩)
          | (refine wpList_allocOrd rfl rfl _ rfl w2.heap.size rfl ?_)
          | (refine wpList_store_row rfl 107 _ _ rfl w2.heap.size O rfl rfl 107 zOrd (heap_new w2 _) (infoOrd HO1.out) HZO.out HO2.out ?_; rw [World.setRow_alloc_new])
          | (refine wpList_buildAt rfl 110 _ rfl _ rfl _ [] ?hl built_set0 ?_; case hl => simp)
          | (refine wpList_store_row rfl 110 _ _ rfl (w.heap.size + 1) zSet rfl rfl 110 zSet HX3.out.res (infoSet' zSet_size) rfl zSet_one ?_))
        refine bodyPost_ret (results_row_tmp2 Tryz.results48 _ _ (w.heap.size + 1) 110 zSet (0, 0) _ rfl (setRow_heap _ _ zSet _ _ _ HX3.out.res) Tryz.underlying110 rfl (infoSet' zSet_size) (.int .i64 5) (.int .i64 0) rfl rfl) rfl ⟨zSet, by rw [HP1.out, HP2.out], setOK_z c HNE.out, below_setRow HX3.out.below (by omega) _⟩
      · rw [e2] at hBk
        have cR := polRead_any c.pol c.labels.toNat (w2.alloc (.cells O 107)) (HG.out.below HX3.out.below)
        rw [(newOK_parts HOK.out).1] at cR
        have HP1 : Hid (proE c = polE c.labels.toNat c.pol.data.toList) := by show _ = _; rw [hp1, e1, e2]; rfl
        have HP2 : Hid (proN c = polN c.labels.toNat c.pol.data.toList) := by show _ = _; rw [hp2, e1, e2]; rfl
        clear hp1 hp2 e1 e2
        have HN0 : Hid (polE c.labels.toNat c.pol.data.toList = 0 → polN c.labels.toNat c.pol.data.toList = 0) := fun h => by
          unfold polE at h
          unfold polN
          split at h
          · cases h
          · next hh => rw [if_neg hh]
        generalize polE c.labels.toNat c.pol.data.toList = E1 at *
        generalize polN c.labels.toNat c.pol.data.toList = N1 at *
        by_cases hE1 : E1 = 0
        · subst hE1
          have hN0 := HN0.out rfl
          subst hN0
          have HBS : Hid (∀ pa pm pc, Tryz.prog.built 110 [(0, .agg O), (1, .slice pa pm pc)] = some (setArr O pa pm pc)) := fun pa pm pc => by rw [HOE.out]; exact built_set _ _ _ _ _
          have HSO : Hid (∀ pa pm pc, SetOK c (setArr O pa pm pc)) := fun pa pm pc => ⟨setArr_size HO1.out _ _ _, setArr_one HO2.out _ _ _, fun _ => ⟨HOK.out, pa, pm, pc, by rw [HOE.out]⟩⟩
          have HZS : Hid (∀ pa pm pc, zSet.size = (setArr O pa pm pc).size) := fun pa pm pc => by rw [setArr_size HO1.out]; exact zSet_size
          have hlt2 : w2.heap.size < (w2.alloc (.cells O 107)).heap.size := by simp
          go_wp2_with (first
            | (go_at_call 38; refine (cLm _).mono ?_; rintro e w3 ⟨rfl, rfl⟩)
            | (go_at_call 82; refine hBk.mono ?_; rintro e w3 ⟨rfl, rfl⟩)
            | (go_at_call 83; refine cR.mono ?_; clear cR; rintro e w4 ⟨pa, pm, pc, rfl, hB4⟩; have HX4 : Hid (CrAt w c w4) := HX3.out.step hB4; have HOR4 : Hid (w4.heap[w2.heap.size]? = some (.cells O 107)) := (hB4.block _ hlt2).trans HOR.out)
            | (refine wpList_load_row rfl 107 _ rfl _ rfl _ _ _ _ HOR4.out Tryz.underlying107 rfl (infoOrd HO1.out) ?_)
            | (refine wpList_buildAt rfl 110 _ rfl _ rfl _ [(0, .agg O), (1, .slice pa pm pc)] ?hl (HBS.out pa pm pc) ?_; case hl => simp [go_sem])
            | (refine wpList_store_row rfl 110 _ _ rfl (w.heap.size + 1) (setArr O pa pm pc) rfl rfl 110 zSet HX4.out.res (infoSet' (setArr_size HO1.out _ _ _)) (HZS.out _ _ _) (setArr_one HO2.out _ _ _) ?_)
            | (refine wpList_allocOrd rfl rfl _ rfl w2.heap.size rfl ?_)
            | (refine wpList_store_row rfl 107 _ _ rfl w2.heap.size O rfl rfl 107 zOrd (heap_new w2 _) (infoOrd HO1.out) HZO.out HO2.out ?_; rw [World.setRow_alloc_new]))
          refine bodyPost_ret (results_row_tmp2 Tryz.results48 _ _ (w.heap.size + 1) 110 (setArr O pa pm pc) (0, 0) _ rfl (setRow_heap _ _ zSet _ _ _ HX4.out.res) Tryz.underlying110 rfl (infoSet' (setArr_size HO1.out _ _ _)) (.int .i64 0) (.int .i64 0) rfl rfl) rfl ⟨setArr O pa pm pc, by rw [HP1.out, HP2.out], HSO.out _ _ _, below_setRow HX4.out.below (by omega) _⟩
        · have HNE : Hid (¬ proE c = 0) := by show ¬ _; rw [HP1.out]; exact hE1
          go_wp2_with (first
            | (go_at_call 38; refine (cLm _).mono ?_; rintro e w3 ⟨rfl, rfl⟩)
            | (go_at_call 82; refine hBk.mono ?_; rintro e w3 ⟨rfl, rfl⟩)
            | (go_at_call 83; refine cR.mono ?_; clear cR; rintro e w4 ⟨pa, pm, pc, rfl, hB4⟩; have HX4 : Hid (CrAt w c w4) := HX3.out.step hB4)
            | (refine wpList_store_row rfl 110 _ _ rfl (w.heap.size + 1) zSet rfl rfl 110 zSet HX4.out.res (infoSet' zSet_size) rfl zSet_one ?_)
            | (refine wpList_allocOrd rfl rfl _ rfl w2.heap.size rfl ?_)
            | (refine wpList_store_row rfl 107 _ _ rfl w2.heap.size O rfl rfl 107 zOrd (heap_new w2 _) (infoOrd HO1.out) HZO.out HO2.out ?_; rw [World.setRow_alloc_new])
            | (refine wpList_buildAt rfl 110 _ rfl _ rfl _ [] ?hl built_set0 ?_; case hl => simp)
            | (refine wpList_store_row rfl 110 _ _ rfl (w.heap.size + 1) zSet rfl rfl 110 zSet HX3.out.res (infoSet' zSet_size) rfl zSet_one ?_))
          refine bodyPost_ret (results_row_tmp2 Tryz.results48 _ _ (w.heap.size + 1) 110 zSet (0, 0) _ rfl (setRow_heap _ _ zSet _ _ _ HX4.out.res) Tryz.underlying110 rfl (infoSet' zSet_size) (.int .i64 E1) (.int .i64 N1) rfl rfl) rfl ⟨zSet, by rw [HP1.out, HP2.out], setOK_z c HNE.out, below_setRow HX4.out.below (by omega) _⟩
  · obtain ⟨hp1, hp2⟩ := HNZ.out hE
    have HP1 : Hid (proE c = E0) := hp1
    have HP2 : Hid (proN c = 0) := hp2
    have HNE : Hid (¬ proE c = 0) := by show ¬ _; rw [hp1]; exact hE
    clear hp1 hp2 HNZ HRO HPE
    go_wp2_with (first
      | (refine wpList_allocOrd rfl rfl _ rfl w2.heap.size rfl ?_)
      | (refine wpList_store_row rfl 107 _ _ rfl w2.heap.size O rfl rfl 107 zOrd (heap_new w2 _) (infoOrd HO1.out) HZO.out HO2.out ?_; rw [World.setRow_alloc_new])
      | (refine wpList_buildAt rfl 110 _ rfl _ rfl _ [] ?hl built_set0 ?_; case hl => simp)
      | (refine wpList_store_row rfl 110 _ _ rfl (w.heap.size + 1) zSet rfl rfl 110 zSet HX3.out.res (infoSet' zSet_size) rfl zSet_one ?_))
    refine bodyPost_ret (results_row_tmp2 Tryz.results48 _ _ (w.heap.size + 1) 110 zSet (0, 0) _ rfl (setRow_heap _ _ zSet _ _ _ HX3.out.res) Tryz.underlying110 rfl (infoSet' zSet_size) (.int .i64 E0) (.int .i64 0) rfl rfl) rfl ⟨zSet, by rw [HP1.out, HP2.out], setOK_z c HNE.out, below_setRow HX3.out.below (by omega) _⟩
end Go.Proofs.YtllcbnfmihfaaaaGreatDoor
