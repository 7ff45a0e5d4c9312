import Derived.Test.YtllcbnfmihfaaaaGreatDoorLq32
import Derived.Test.YtllcbnfmihfaaaaGreatDoorLq45
namespace Go.Proofs.YtllcbnfmihfaaaaGreatDoor
open Go.RowKit Go.Shelf

/-- What the setup's row is, and the rules that it leads to. -/
def SeOK (c : Cfg) (A : Array Value) (w' : World) : Prop := A.size = 38 ∧ A.all (·.oneCell') = true ∧ (proE c = 0 → newOK c.labels c.L = true ∧ ∃ a k cap, A = setArr (ordArr c.labels.toNat (newM c.labels.toNat c.L)) a k cap ∧ ∃ lo', PrB w' lo' (.slice a k cap) ((polR c.pol.data.toList).map enS))
theorem seOK_z (c : Cfg) (w' : World) (h : ¬ proE c = 0) : SeOK c zSet w' := ⟨zSet_size, zSet_one, fun e => absurd e h⟩
def CgSays (c : Cfg) (w : World) (e : Ending) (w' : World) : Prop := ∃ A, e = .returned (.tuple #[.agg A, .int .i64 (proE c), .int .i64 (proN c)]) ∧ SeOK c A w' ∧ Below w.heap.size w w'
def polQ (n : Nat) (s : ByteArray) : Int := polE n s.data.toList
def PoK (n : Nat) (s : ByteArray) (w : World) (a : Option Addr) (m cap : Nat) (w' : World) : Prop := polQ n s = 0 → PrB w' w.heap.size (.slice a m cap) ((polR s.data.toList).map enS)
theorem polRead_po (s : ByteArray) (n : Nat) (w : World) (hgl : Glob w) :
    Calls Tryz.prog 83 #[.string s, .int .i64 n] w fun e w' => ∃ a m cap, e = .returned (.tuple #[.slice a m cap, .int .i64 (polE n s.data.toList), .int .i64 (polN n s.data.toList)]) ∧ Below w.heap.size w w' ∧ PoK n s w a m cap w' := by
  refine (polRead_seg s n w hgl).mono ?_
  rintro e w' ⟨a, m, cap, h1, h2, h3⟩
  exact ⟨a, m, cap, h1, h2, h3⟩
set_option maxRecDepth 100000 in
set_option maxHeartbeats 4000000 in
theorem cfgRead_seg (c : Cfg) (w : World) (hc : CfgW w c) (hg : Glob w) :
    Calls Tryz.prog 48 #[.agg c.arr] w (CgSays c w) := by
  have HC : Hid (CfgW w c) := hc
  have HG : Hid (Glob w) := hg
  have HS : Hid (c.arr.size = 11) := c.size
  have HX : Hid (CrAt w c ((w.alloc (.cells c.arr 45)).alloc (.cells zSet 110))) := crAt_mk w c
  have hL : c.L.length ≤ maxLen := by have := hc.eb; unfold maxLen; omega
  have hB8 : c.B.length ≤ maxLen := by have := hc.bb; unfold maxLen; omega
  have cO : Calls Tryz.prog 81 #[.agg c.arr] ((w.alloc (.cells c.arr 45)).alloc (.cells zSet 110)) fun e w' => e = .returned (.tuple #[.agg (roA c.labels c.L c.dflt c.clr), .int .i64 (roE c.labels c.L c.dflt c.clr)]) ∧ Below ((w.alloc (.cells c.arr 45)).alloc (.cells zSet 110)).heap.size ((w.alloc (.cells c.arr 45)).alloc (.cells zSet 110)) w' :=
    readOrder_any c.arr c.labels c.L c.ea c.ecap c.dflt c.clr rfl rfl rfl rfl hL _ (hc.edges.below HX.out.below)
  have hO1 : (roA c.labels c.L c.dflt c.clr).size = 37 := by unfold roA; split <;> exact ordArr_size _ _
  have hO2 : (roA c.labels c.L c.dflt c.clr).all (·.oneCell') = true := by unfold roA; split <;> exact ordArr_all _ _
  have HO1 : Hid ((roA c.labels c.L c.dflt c.clr).size = 37) := hO1
  have HO2 : Hid ((roA c.labels c.L c.dflt c.clr).all (·.oneCell') = true) := hO2
  have HZO : Hid (zOrd.size = (roA c.labels c.L c.dflt c.clr).size) := by show _ = _; rw [hO1]; exact ordArr_size _ _
  have HRO : Hid (roE c.labels c.L c.dflt c.clr = 0 → newOK c.labels c.L = true ∧ roA c.labels c.L c.dflt c.clr = ordArr c.labels.toNat (newM c.labels.toNat c.L)) := roE_ok
  have HNZ : Hid (¬ roE c.labels c.L c.dflt c.clr = 0 → proE c = roE c.labels c.L c.dflt c.clr ∧ proN c = 0) := ro_nz
  have HPE : Hid (roE c.labels c.L c.dflt c.clr = 0 → proE c = (if limB c.inn c.out c.depth c.bytes = false then 4 else if bucketsP c.B = false then 5 else polE c.labels.toNat c.pol.data.toList) ∧ proN c = (if limB c.inn c.out c.depth c.bytes = false then 0 else if bucketsP c.B = false then 0 else polN c.labels.toNat c.pol.data.toList)) := fun h => by
    refine ⟨?_, ?_⟩
    · unfold proE; rw [if_neg (fun hh => hh h)]
    · unfold proN; rw [if_neg (fun hh => hh h)]
  clear hO1 hO2 hc hg
  generalize roA c.labels c.L c.dflt c.clr = O at *
  generalize roE c.labels c.L c.dflt c.clr = E0 at *
  go_enter Tryz.func48, Tryz.ntmps48
  go_wp2_with (first
    | (refine wpList_allocSet rfl rfl _ rfl (w.heap.size + 1) ?hN ?_; case hN => (simp only [World.size_alloc]; done))
    | (refine wpList_load_row rfl 45 _ rfl _ rfl _ _ _ _ HX.out.box Tryz.underlying45 rfl (infoCfg HS.out) ?_)
    | fail)
  refine cO.mono ?_
  clear cO
  rintro e w2 ⟨rfl, hB2⟩
  have HX2 : Hid (CrAt w c w2) := HX.out.step hB2
  clear hB2 HX
  have HX3 : Hid (CrAt w c (w2.alloc (.cells O 107))) := HX2.out.step ((Below.refl _ _).alloc (Nat.le_refl _) _)
  have HOR : Hid ((w2.alloc (.cells O 107)).heap[w2.heap.size]? = some (.cells O 107)) := heap_new _ _
  by_cases hE : E0 = 0
  · subst hE
    obtain ⟨hok, hOe⟩ := HRO.out rfl
    obtain ⟨hp1, hp2⟩ := HPE.out rfl
    have HOE : Hid (O = ordArr c.labels.toNat (newM c.labels.toNat c.L)) := hOe
    have HOK : Hid (newOK c.labels c.L = true) := hok
    have h6 : (w2.alloc (.cells O 107)).cell? ⟨w.heap.size, 6, none⟩ = some (.int .i64 c.inn) := HX3.out.cell 6
    have h7 : (w2.alloc (.cells O 107)).cell? ⟨w.heap.size, 7, none⟩ = some (.int .i64 c.out) := HX3.out.cell 7
    have h8 : (w2.alloc (.cells O 107)).cell? ⟨w.heap.size, 8, none⟩ = some (.int .i64 c.depth) := HX3.out.cell 8
    have h9 : (w2.alloc (.cells O 107)).cell? ⟨w.heap.size, 9, none⟩ = some (.int .i64 c.bytes) := HX3.out.cell 9
    have h10 : (w2.alloc (.cells O 107)).cell? ⟨w.heap.size, 10, none⟩ = some (.slice c.ba c.B.length c.bcap) := HX3.out.cell 10
    have h3 : (w2.alloc (.cells O 107)).cell? ⟨w.heap.size, 3, none⟩ = some (.string c.pol) := HX3.out.cell 3
    have h0 : (w2.alloc (.cells O 107)).cell? ⟨w.heap.size, 0, none⟩ = some (.int .i64 c.labels) := HX3.out.cell 0
    have cLm := fun W => limitsOK_any c.inn c.out c.depth c.bytes W
    clear HRO HPE HNZ hOe hok
    cases e1 : limB c.inn c.out c.depth c.bytes
    · have HP1 : Hid (proE c = 4) := by show _ = _; rw [hp1, e1]; rfl
      have HP2 : Hid (proN c = 0) := by show _ = _; rw [hp2, e1]; rfl
      have HNE : Hid (¬ proE c = 0) := by show ¬ _; rw [HP1.out]; decide
      rw [e1] at cLm
      clear hp1 hp2 e1
      go_wp2_with (first
        | (go_at_call 38; refine (cLm _).mono ?_; rintro e w3 ⟨rfl, rfl⟩)
        | (refine wpList_allocOrd rfl rfl _ rfl w2.heap.size rfl ?_)
        | (refine wpList_store_row rfl 107 _ _ rfl w2.heap.size O rfl rfl 107 zOrd (heap_new w2 _) (infoOrd HO1.out) HZO.out HO2.out ?_; rw [World.setRow_alloc_new])
        | (refine wpList_buildAt rfl 110 _ rfl _ rfl _ [] ?hl built_set0 ?_; case hl => simp)
        | (refine wpList_store_row rfl 110 _ _ rfl (w.heap.size + 1) zSet rfl rfl 110 zSet HX3.out.res (infoSet' zSet_size) rfl zSet_one ?_))
      refine bodyPost_ret (results_row_tmp2 Tryz.results48 _ _ (w.heap.size + 1) 110 zSet (0, 0) _ rfl (setRow_heap _ _ zSet _ _ _ HX3.out.res) Tryz.underlying110 rfl (infoSet' zSet_size) (.int .i64 4) (.int .i64 0) rfl rfl) rfl ⟨zSet, by rw [HP1.out, HP2.out], seOK_z c _ HNE.out, below_setRow HX3.out.below (by omega) _⟩
    · rw [e1] at cLm
      have hBk := bucketsOK_any c.ba c.bcap c.B hB8 (w2.alloc (.cells O 107)) (HC.out.ints.below HX3.out.below)
      cases e2 : bucketsP c.B
      · have HP1 : Hid (proE c = 5) := by show _ = _; rw [hp1, e1, e2]; rfl
        have HP2 : Hid (proN c = 0) := by show _ = _; rw [hp2, e1, e2]; rfl
        have HNE : Hid (¬ proE c = 0) := by show ¬ _; rw [HP1.out]; decide
        rw [e2] at hBk
        clear hp1 hp2 e1 e2
        go_wp2_with (first
          | (go_at_call 38; refine (cLm _).mono ?_; rintro e w3 ⟨rfl, rfl⟩)
          | (go_at_call 82; refine hBk.mono ?_; rintro e w3 ⟨rfl, rfl⟩)
          | (refine wpList_allocOrd rfl rfl _ rfl w2.heap.size rfl ?_)
          | (refine wpList_store_row rfl 107 _ _ rfl w2.heap.size O rfl rfl 107 zOrd (heap_new w2 _) (infoOrd HO1.out) HZO.out HO2.out ?_; rw [World.setRow_alloc_new])
          | (refine wpList_buildAt rfl 110 _ rfl _ rfl _ [] ?hl built_set0 ?_; case hl => simp)
          | (refine wpList_store_row rfl 110 _ _ rfl (w.heap.size + 1) zSet rfl rfl 110 zSet HX3.out.res (infoSet' zSet_size) rfl zSet_one ?_))
        refine bodyPost_ret (results_row_tmp2 Tryz.results48 _ _ (w.heap.size + 1) 110 zSet (0, 0) _ rfl (setRow_heap _ _ zSet _ _ _ HX3.out.res) Tryz.underlying110 rfl (infoSet' zSet_size) (.int .i64 5) (.int .i64 0) rfl rfl) rfl ⟨zSet, by rw [HP1.out, HP2.out], seOK_z c _ HNE.out, below_setRow HX3.out.below (by omega) _⟩
      · rw [e2] at hBk
        have cR := polRead_po c.pol c.labels.toNat (w2.alloc (.cells O 107)) (HG.out.below HX3.out.below)
        rw [(newOK_parts HOK.out).1] at cR
        have HP1 : Hid (proE c = polE c.labels.toNat c.pol.data.toList) := by show _ = _; rw [hp1, e1, e2]; rfl
        have HP2 : Hid (proN c = polN c.labels.toNat c.pol.data.toList) := by show _ = _; rw [hp2, e1, e2]; rfl
        clear hp1 hp2 e1 e2
        have HN0 : Hid (polE c.labels.toNat c.pol.data.toList = 0 → polN c.labels.toNat c.pol.data.toList = 0) := fun h => by
          unfold polE at h
          unfold polN
          split at h
          · cases h
          · next hh => rw [if_neg hh]
        have HEQ : Hid (polQ c.labels.toNat c.pol = polE c.labels.toNat c.pol.data.toList) := rfl
        generalize polE c.labels.toNat c.pol.data.toList = E1 at *
        generalize polN c.labels.toNat c.pol.data.toList = N1 at *
        by_cases hE1 : E1 = 0
        · subst hE1
          have hN0 := HN0.out rfl
          subst hN0
          have HBS : Hid (∀ pa pm pc, Tryz.prog.built 110 [(0, .agg O), (1, .slice pa pm pc)] = some (setArr O pa pm pc)) := fun pa pm pc => by rw [HOE.out]; exact built_set _ _ _ _ _
          have HZS : Hid (∀ pa pm pc, zSet.size = (setArr O pa pm pc).size) := fun pa pm pc => by rw [setArr_size HO1.out]; exact zSet_size
          have hlt2 : w2.heap.size < (w2.alloc (.cells O 107)).heap.size := by simp
          go_wp2_with (first
            | (go_at_call 38; refine (cLm _).mono ?_; rintro e w3 ⟨rfl, rfl⟩)
            | (go_at_call 82; refine hBk.mono ?_; rintro e w3 ⟨rfl, rfl⟩)
            | (go_at_call 83; refine cR.mono ?_; clear cR; rintro e w4 ⟨pa, pm, pc, rfl, hB4, hP4⟩; have HP4 : Hid (PoK c.labels.toNat c.pol (w2.alloc (.cells O 107)) pa pm pc w4) := hP4; clear hP4; have HX4 : Hid (CrAt w c w4) := HX3.out.step hB4; have HOR4 : Hid (w4.heap[w2.heap.size]? = some (.cells O 107)) := (hB4.block _ hlt2).trans HOR.out)
            | (refine wpList_load_row rfl 107 _ rfl _ rfl _ _ _ _ HOR4.out Tryz.underlying107 rfl (infoOrd HO1.out) ?_)
            | (refine wpList_buildAt rfl 110 _ rfl _ rfl _ [(0, .agg O), (1, .slice pa pm pc)] ?hl (HBS.out pa pm pc) ?_; case hl => simp [go_sem])
            | (refine wpList_store_row rfl 110 _ _ rfl (w.heap.size + 1) (setArr O pa pm pc) rfl rfl 110 zSet HX4.out.res (infoSet' (setArr_size HO1.out _ _ _)) (HZS.out _ _ _) (setArr_one HO2.out _ _ _) ?_)
            | (refine wpList_allocOrd rfl rfl _ rfl w2.heap.size rfl ?_)
            | (refine wpList_store_row rfl 107 _ _ rfl w2.heap.size O rfl rfl 107 zOrd (heap_new w2 _) (infoOrd HO1.out) HZO.out HO2.out ?_; rw [World.setRow_alloc_new]))
          refine bodyPost_ret (results_row_tmp2 Tryz.results48 _ _ (w.heap.size + 1) 110 (setArr O pa pm pc) (0, 0) _ rfl (setRow_heap _ _ zSet _ _ _ HX4.out.res) Tryz.underlying110 rfl (infoSet' (setArr_size HO1.out _ _ _)) (.int .i64 0) (.int .i64 0) rfl rfl) rfl ⟨setArr O pa pm pc, by rw [HP1.out, HP2.out], ?_, below_setRow HX4.out.below (by omega) _⟩
          refine ⟨setArr_size HO1.out _ _ _, setArr_one HO2.out _ _ _, fun _ => ⟨HOK.out, pa, pm, pc, by rw [HOE.out], ?_⟩⟩
          have hq := HP4.out HEQ.out
          have hlo : w.heap.size + 1 < w2.heap.size := (Array.getElem?_eq_some_iff.1 HX2.out.res).1
          exact ⟨_, hq.kept fun b h1 _ => setRow_other _ (w.heap.size + 1) b _ (by rw [World.size_alloc] at h1; omega)⟩
        · have HNE : Hid (¬ proE c = 0) := by show ¬ _; rw [HP1.out]; exact hE1
          go_wp2_with (first
            | (go_at_call 38; refine (cLm _).mono ?_; rintro e w3 ⟨rfl, rfl⟩)
            | (go_at_call 82; refine hBk.mono ?_; rintro e w3 ⟨rfl, rfl⟩)
            | (go_at_call 83; refine cR.mono ?_; clear cR; rintro e w4 ⟨pa, pm, pc, rfl, hB4, hP4⟩; clear hP4; have HX4 : Hid (CrAt w c w4) := HX3.out.step hB4)
            | (refine wpList_store_row rfl 110 _ _ rfl (w.heap.size + 1) zSet rfl rfl 110 zSet HX4.out.res (infoSet' zSet_size) rfl zSet_one ?_)
            | (refine wpList_allocOrd rfl rfl _ rfl w2.heap.size rfl ?_)
            | (refine wpList_store_row rfl 107 _ _ rfl w2.heap.size O rfl rfl 107 zOrd (heap_new w2 _) (infoOrd HO1.out) HZO.out HO2.out ?_; rw [World.setRow_alloc_new])
            | (refine wpList_buildAt rfl 110 _ rfl _ rfl _ [] ?hl built_set0 ?_; case hl => simp)
            | (refine wpList_store_row rfl 110 _ _ rfl (w.heap.size + 1) zSet rfl rfl 110 zSet HX3.out.res (infoSet' zSet_size) rfl zSet_one ?_))
          refine bodyPost_ret (results_row_tmp2 Tryz.results48 _ _ (w.heap.size + 1) 110 zSet (0, 0) _ rfl (setRow_heap _ _ zSet _ _ _ HX4.out.res) Tryz.underlying110 rfl (infoSet' zSet_size) (.int .i64 E1) (.int .i64 N1) rfl rfl) rfl ⟨zSet, by rw [HP1.out, HP2.out], seOK_z c _ HNE.out, below_setRow HX4.out.below (by omega) _⟩
  · obtain ⟨hp1, hp2⟩ := HNZ.out hE
    have HP1 : Hid (proE c = E0) := hp1
    have HP2 : Hid (proN c = 0) := hp2
    have HNE : Hid (¬ proE c = 0) := by show ¬ _; rw [hp1]; exact hE
    clear hp1 hp2 HNZ HRO HPE
    go_wp2_with (first
      | (refine wpList_allocOrd rfl rfl _ rfl w2.heap.size rfl ?_)
      | (refine wpList_store_row rfl 107 _ _ rfl w2.heap.size O rfl rfl 107 zOrd (heap_new w2 _) (infoOrd HO1.out) HZO.out HO2.out ?_; rw [World.setRow_alloc_new])
      | (refine wpList_buildAt rfl 110 _ rfl _ rfl _ [] ?hl built_set0 ?_; case hl => simp)
      | (refine wpList_store_row rfl 110 _ _ rfl (w.heap.size + 1) zSet rfl rfl 110 zSet HX3.out.res (infoSet' zSet_size) rfl zSet_one ?_))
    refine bodyPost_ret (results_row_tmp2 Tryz.results48 _ _ (w.heap.size + 1) 110 zSet (0, 0) _ rfl (setRow_heap _ _ zSet _ _ _ HX3.out.res) Tryz.underlying110 rfl (infoSet' zSet_size) (.int .i64 E0) (.int .i64 0) rfl rfl) rfl ⟨zSet, by rw [HP1.out, HP2.out], seOK_z c _ HNE.out, below_setRow HX3.out.below (by omega) _⟩
end Go.Proofs.YtllcbnfmihfaaaaGreatDoor
