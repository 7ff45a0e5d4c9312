import Derived.Test.YtllcbnfmihfaaaaGreatDoorLq19
import Derived.Test.YtllcbnfmihfaaaaGreatDoorLq41
import Derived.Test.YtllcbnfmihfaaaaGreatDoorLq44
import Derived.Test.YtllcbnfmihfaaaaGreatDoorLq49
namespace Go.Proofs.YtllcbnfmihfaaaaGreatDoor
open Go.RowKit Go.Shelf

theorem cel_txs {W : World} {lo : Nat} {t : TypeId} {pa : Option Addr} {ss : List (List UInt8)} (h : CelB W lo t pa (ss.map strV)) : TxsAt W pa ss := by
  refine ⟨fun i hi => ?_⟩
  rcases h with h | ⟨b, off, cur, fr, h1, h2, h4, h5⟩
  · have := congrArg List.length h
    simp at this
    subst this
    simp at hi
  · have b1 := h5 i (by simpa using hi)
    refine ⟨b, off, h1, (Array.getElem?_eq_some_iff.1 h4).1, ?_⟩
    rw [cell_of_row W b _ cur _ fr h4, b1, List.getElem_map]
    rfl
theorem RrB.at_ {W : World} {lo : Nat} {v : Value} {rs : List (List (List UInt8) × Int × Int)} (h : RrB W lo v rs) : ∃ a cap, v = .slice a rs.length cap ∧ RruAt W a rs := by
  obtain ⟨xs, h, hr⟩ := h
  obtain ⟨h1, ⟨h2, h3⟩ | ⟨g, cap, cur, h2, h3, h4, _, _, _, h8⟩⟩ := h
  · exact ⟨none, 0, by rw [h2, h3], ⟨fun i hi => by omega⟩⟩
  · refine ⟨_, _, h2, ⟨fun i hi => ?_⟩⟩
    obtain ⟨pa, pc, k1, k2, k3, k4⟩ := hr.2 i (by simpa using hi)
    have key : ∀ j u, xs[j]? = some u → W.cell? ⟨g, 0 + j, none⟩ = some u := by
      intro j u hj
      have hjl : j < xs.length := (List.getElem?_eq_some_iff.1 hj).1
      have e1 := congrArg (·[j]?) h8
      simp only [List.getElem?_take] at e1
      rw [if_pos (by omega), hj] at e1
      rw [Nat.zero_add, cell_of_row W g j cur _ _ h4]
      simpa using e1
    have e2 : (rs.map enR)[i]'(by simpa using hi) = enR rs[i] := by simp
    rw [e2] at k1 k2 k3 k4
    exact ⟨g, 0, pa, pc, rfl, (Array.getElem?_eq_some_iff.1 h4).1, key _ _ k1, by have := key _ _ k2; rwa [Nat.zero_add] at this ⊢, by have := key _ _ k3; rwa [Nat.zero_add] at this ⊢, cel_txs k4⟩
theorem chk_rules {c : Cfg} (h : chkE c = 0) : rulesV c.labels.toNat c.pol.data.toList < 0 := by
  have h1 := chk_pol h
  unfold polE at h1
  split at h1
  · cases h1
  · omega
set_option maxRecDepth 100000 in
set_option maxHeartbeats 4000000 in
theorem label_ref (c : Cfg) (pa : Option Addr) (pc : Nat) (ps : List (List UInt8 × Bool)) (w : World) (hc : CfgW w c) (hg : Glob w) (hp : PthAt w pa ps) :
    Calls Tryz.prog 103 #[.agg c.arr, .slice pa ps.length pc] w fun e w' => e = .returned (.tuple #[.int .i64 (lblV c ps).1, .int .i64 (lblV c ps).2, .int .i64 (lblE c ps)]) ∧ Below w.heap.size w w' := by
  have HS : Hid (c.arr.size = 11) := c.size
  have HP : Hid (PthAt w pa ps) := hp
  have HX : Hid (BoxAt w c (w.alloc (.cells c.arr 45))) := boxAt_mk w c
  have cK := refCheck_any c _ (HX.out.cfg hc) (hg.below HX.out.below)
  clear hc hg hp
  by_cases h0 : chkE c = 0
  · have H0 : Hid (chkE c = 0) := h0
    rw [h0] at cK
    clear h0
    by_cases hbig : (4096 : Int) < ps.length
    · have HE : Hid (lblE c ps = 7 ∧ lblV c ps = (0, 0)) := lb_bad H0.out (by unfold pthB; rw [decide_eq_false (by omega)]; rfl)
      go_enter Tryz.func103, Tryz.ntmps103
      go_wp2_with (first
        | (refine wpList_load_row rfl 45 _ rfl _ rfl _ _ _ _ HX.out.box Tryz.underlying45 rfl (infoCfg HS.out) ?_)
        | (go_at_call 47; refine cK.mono ?_; clear cK; rintro e w2 ⟨rfl, hB2⟩; have HX2 : Hid (BoxAt w c w2) := HX.out.step hB2; clear HX; have HX := HX2; clear HX2 hB2))
      go_ret3
      rw [HE.out.1, HE.out.2]
      exact ⟨rfl, HX.out.below⟩
    · have hps : ps.length ≤ 4096 := by omega
      have HEQ : Hid (pthB ps = ps.all stpB) := by show _ = _; unfold pthB; rw [decide_eq_true hps]; rfl
      go_enter Tryz.func103, Tryz.ntmps103
      go_wp2_with (first
        | (refine wpList_load_row rfl 45 _ rfl _ rfl _ _ _ _ HX.out.box Tryz.underlying45 rfl (infoCfg HS.out) ?_)
        | (go_at_call 47; refine cK.mono ?_; clear cK; rintro e w2 ⟨rfl, hB2⟩; have HX2 : Hid (BoxAt w c w2) := HX.out.step hB2; clear HX; have HX := HX2; clear HX2 hB2))
      go_loopg [9] ps.length (fun g z V => ∃ k : Nat, z = .int .i64 k ∧ Hid (k + g = ps.length) ∧ Hid (BoxAt w c V) ∧ Hid (ps.all stpB = (ps.drop k).all stpB))
      case atStart => exact ⟨0, rfl, by show _ = _; omega, HX, rfl⟩
      case round =>
        clear HX
        obtain ⟨k, rfl, hg, HB, HK⟩ := hrel
        cases gk with
        | zero =>
          have hlt : ¬ (k : Int) < (ps.length : Int) := by have := hg.out; omega
          have HE : Hid (lblE c ps = 0 ∧ lblV c ps = lbF c.dflt ((polR c.pol.data.toList).map enS) ps) := lb_ok H0.out (by
            rw [HEQ.out, HK.out, List.drop_eq_nil_of_le (by have := hg.out; omega)]
            rfl)
          have hnl : c.labels = (c.labels.toNat : Nat) := (newOK_parts (chk_ok H0.out)).1.symm
          have cR := rules_seg c c.labels.toNat hnl wr
          have HRV : Hid (rulesV c.labels.toNat c.pol.data.toList < 0) := chk_rules H0.out
          have HPS := pol_small (chk_pol H0.out)
          have HP1 : Hid ((polR c.pol.data.toList).length ≤ 16) := HPS.1
          have HP2 : Hid (∀ i (h : i < (polR c.pol.data.toList).length), (polR c.pol.data.toList)[i].1.length ≤ 1000) := fun i h => by have := (HPS.2 _ (List.getElem_mem h)).1; omega
          clear HPS HEQ HK hnl
          go_wp2_with (first
            | (refine wpList_load_row rfl 45 _ rfl _ rfl _ _ _ _ HB.out.box Tryz.underlying45 rfl (infoCfg HS.out) ?_)
            | fail)
          refine cR.mono ?_
          clear cR
          rintro e w3 ⟨ra, rm, rc, rfl, hB3, hR3⟩
          obtain ⟨a', cap', he, hRR⟩ := (hR3 HRV.out).at_
          injection he with he1 he2 he3
          subst he1
          subst he2
          subst he3
          have HB3 : Hid (BoxAt w c w3) := HB.out.step hB3
          have cO := labelOf_any w3 c.arr c.dflt rfl ra pa rc pc (polR c.pol.data.toList) ps hRR (HP.out.below HB3.out.below) hps (by have := HP1.out; omega) HP2.out
          have HE1 : Hid (lblE c ps = 0) := HE.out.1
          have HE2 : Hid (lblV c ps = lbF c.dflt ((polR c.pol.data.toList).map enS) ps) := HE.out.2
          clear HE hR3 hRR hB3 HB HP1 HP2 HRV
          generalize lbF c.dflt ((polR c.pol.data.toList).map enS) ps = z at *
          generalize rulesV c.labels.toNat c.pol.data.toList = rv at *
          go_wp2_with (first
            | (refine wpList_load_row rfl 45 _ rfl _ rfl _ _ _ _ HB3.out.box Tryz.underlying45 rfl (infoCfg HS.out) ?_)
            | (go_at_call 155; refine cO.mono ?_; clear cO; rintro e w4 ⟨rfl, hB4⟩; have HB4 : Hid (BoxAt w c w4) := HB3.out.step hB4; clear hB4))
          go_ret3
          rw [HE1.out, HE2.out]
          exact ⟨rfl, HB4.out.below⟩
        | succ g =>
          have hkl : k < ps.length := by have := hg.out; omega
          have hlt : (k : Int) < (ps.length : Int) := by omega
          obtain ⟨b, off, rfl, hb, e0, e1⟩ := (HP.out.below HB.out.below).at_ k hkl
          have HK1 : Hid (ps.all stpB = (stpB ps[k] && (ps.drop (k + 1)).all stpB)) := by
            have h := HK.out
            rw [List.drop_eq_getElem_cons hkl, List.all_cons] at h
            exact h
          clear HK
          generalize ps[k] = t at *
          obtain ⟨key, ix⟩ := t
          cases ix with
          | false =>
            go_wp2
            go_roundg g
            case measure => omega
            case rel => exact ⟨k + 1, by go_num, by show _ = _; have := hg.out; omega, HB, by have h := HK1.out; exact h⟩
          | true =>
            cases hk : key.isEmpty with
            | true =>
              have HK2 : Hid (ps.all stpB = (ps.drop (k + 1)).all stpB) := by
                have h := HK1.out
                unfold stpB at h
                simp only [hk] at h
                exact h
              clear HK1
              go_wp2
              go_roundg g
              case measure => omega
              case rel => exact ⟨k + 1, by go_num, by show _ = _; have := hg.out; omega, HB, HK2⟩
            | false =>
              have HE : Hid (lblE c ps = 7 ∧ lblV c ps = (0, 0)) := lb_bad H0.out (by
                rw [HEQ.out, HK1.out]
                unfold stpB
                simp only [hk]
                rfl)
              clear HK1 HEQ
              go_wp2
              go_ret3
              rw [HE.out.1, HE.out.2]
              exact ⟨rfl, HB.out.below⟩
  · have HE : Hid (lblE c ps = chkE c ∧ lblV c ps = (0, 0)) := lb_err h0 ps
    generalize chkE c = E at *
    generalize chkN c = N at *
    go_enter Tryz.func103, Tryz.ntmps103
    go_wp2_with (first
      | (refine wpList_load_row rfl 45 _ rfl _ rfl _ _ _ _ HX.out.box Tryz.underlying45 rfl (infoCfg HS.out) ?_)
      | (go_at_call 47; refine cK.mono ?_; clear cK; rintro e w2 ⟨rfl, hB2⟩; have HX2 : Hid (BoxAt w c w2) := HX.out.step hB2; clear HX; have HX := HX2; clear HX2 hB2))
    go_ret3
    rw [HE.out.1, HE.out.2]
    exact ⟨rfl, HX.out.below⟩
end Go.Proofs.YtllcbnfmihfaaaaGreatDoor
namespace Go.Proofs.YtllcbnfmihfaaaaGreatDoor
open Go.RowKit

theorem lblE_blind (c : Cfg) (w : World) (ps : List (List UInt8 × Bool)) : lblE (c.lent w) ps = lblE c ps := rfl
theorem lblV_blind (c : Cfg) (w : World) (ps : List (List UInt8 × Bool)) : lblV (c.lent w) ps = lblV c ps := rfl
theorem pth_nil {w : World} {a : Option Addr} : PthAt w a [] := ⟨fun i h => absurd h (Nat.not_lt_zero i)⟩
theorem lp_path {W : World} {N : Nat} {ps R : List (List UInt8 × Bool)} (h : W.heap[N]? = some (.cells (stpArr (ps ++ R)) 259)) : PthAt W (some ⟨N, 0, none⟩) ps := by
  refine ⟨fun i hi => ?_⟩
  have hl : i < (ps ++ R).length := by rw [List.length_append]; omega
  have g := stpArr_at (ps ++ R) i hl
  rw [List.getElem_append_left hi] at g
  refine ⟨N, 0, rfl, (Array.getElem?_eq_some_iff.1 h).1, ?_, ?_⟩
  · rw [Nat.zero_add]; exact (cellOfHeap h _).trans g.1
  · rw [Nat.zero_add]; exact (cellOfHeap h _).trans g.2
set_option maxRecDepth 100000 in
set_option maxHeartbeats 4000000 in
theorem asked_label_none (c : Cfg) (o : OpD) (hk : o.kind = 3) (hpp : o.pp = none) (hpl : o.pl = 0) (hpc : o.pc = 0) (w : World) (hc : CfgW w c) (hg : Glob w) :
    Calls Tryz.prog 58 #[.agg c.arr, .agg o.arr] w fun e w' => e = .returned (.bool true) ∧ Below w.heap.size w w' := by
  have HC : Hid (CfgW w c) := hc
  have HG : Hid (Glob w) := hg
  have ok : o.arr[0]? = some (.int .i64 3) := by rw [← hk]; rfl
  have o6 : o.arr[6]? = some (.slice none 0 0) := by show some (Value.slice o.pp o.pl o.pc) = _; rw [hpp, hpl, hpc]
  have HS : Hid (c.arr.size = 11) := c.size
  have HW0 : Hid (CfgW ((w.alloc (.cells c.arr 45)).alloc (.cells o.arr 74)) c) := cfgW_two hc _ _
  have X0 : Hid (((w.alloc (.cells c.arr 45)).alloc (.cells o.arr 74)).heap[w.heap.size]? = some (.cells c.arr 45)) := (Below.heap_alloc _ _ _ (by simp)).trans (heap_new _ _)
  have cL := lent_c c _ HW0.out
  clear hc hg hk hpp hpl hpc
  obtain ⟨W0, hW0⟩ : ∃ W0, W0 = (w.alloc (.cells c.arr 45)).alloc (.cells o.arr 74) := ⟨_, rfl⟩
  have HD : Hid (W0 = (w.alloc (.cells c.arr 45)).alloc (.cells o.arr 74)) := hW0
  rw [← hW0] at cL
  have HX0 : Hid (W0.heap[w.heap.size]? = some (.cells c.arr 45)) := by rw [HD.out]; exact X0.out
  have HMK : Hid (∀ w2, LentOut W0 w2 (c.L ++ roomE 8) (c.B ++ roomI 8) → AskAt w (w2.alloc (.cells (c.lent W0).arr 45)) c o.arr w2.heap.size W0) := by
    intro w2 h
    rw [HD.out] at h ⊢
    exact askAt_mk w c o.arr w2 h
  have HCW : Hid (CfgW W0 c) := by rw [HD.out]; exact HW0.out
  have HGW : Hid (Glob W0) := by rw [HD.out]; exact HG.out.below (((Below.refl _ _).alloc (Nat.le_refl _) _).alloc (by simp) _)
  have HZL : Hid ((c.lent W0).arr.size = 11) := (c.lent W0).size
  have HOL : Hid ((c.lent W0).arr.all (·.oneCell') = true) := (c.lent W0).one
  clear hW0 HW0 X0
  go_enter Tryz.func58, Tryz.ntmps58
  go_wp2_with (first
    | (refine wpList_load_row rfl 45 _ rfl _ rfl _ _ _ _ HX0.out Tryz.underlying45 rfl (infoCfg HS.out) ?_)
    | (refine wpList_load_row rfl 45 _ rfl _ rfl _ _ _ _ HX.out.box Tryz.underlying45 rfl (infoCfg HS.out) ?_)
    | (refine wpList_load_row rfl 45 _ rfl _ rfl _ _ _ _ HX.out.lent Tryz.underlying45 rfl (infoCfg HZL.out) ?_)
    | (refine wpList_frameW HD.out ?_)
    | fail)
  refine cL.mono ?_
  clear cL
  rintro e w2 ⟨rfl, hL2⟩
  have HX : Hid (AskAt w (w2.alloc (.cells (c.lent W0).arr 45)) c o.arr w2.heap.size W0) := HMK.out w2 hL2
  have hkc := (cellOfHeap HX.out.op 0).trans ok
  have HCL : Hid (CfgW w2 (c.lent W0)) := lent_w HCW.out hL2
  have HGL : Hid (Glob w2) := HGW.out.below hL2.below
  have HB1 : Hid (Below w2.heap.size w2 (w2.alloc (.cells (c.lent W0).arr 45))) := (Below.refl _ _).alloc (Nat.le_refl _) _
  clear hL2
  have hk6 := (cellOfHeap HX.out.op 6).trans o6
  have cQ := lentPath_none (w2.alloc (.cells (c.lent W0).arr 45))
  go_wp2_with (first
    | (refine wpList_allocCfg rfl rfl _ rfl w2.heap.size rfl ?_)
    | (refine wpList_store_row rfl 45 _ _ rfl w2.heap.size (c.lent W0).arr rfl rfl 45 zCfg (heap_new w2 _) (infoCfg HZL.out) (zCfg_size HZL.out) HOL.out ?_; rw [World.setRow_alloc_new])
    | (refine wpList_load_row rfl 45 _ rfl _ rfl _ _ _ _ HX.out.box Tryz.underlying45 rfl (infoCfg HS.out) ?_)
    | (refine wpList_load_row rfl 45 _ rfl _ rfl _ _ _ _ HX.out.lent Tryz.underlying45 rfl (infoCfg HZL.out) ?_)
    | (go_at_call 101; refine cQ.mono ?_; clear cQ hkc hk6; rintro e w3 ⟨rfl, hw3⟩; have HX3 : Hid (AskAt w w3 c o.arr w2.heap.size W0) := (by rw [hw3]; exact HX.out); have HCL3 : Hid (CfgW w3 (c.lent W0)) := (by rw [hw3]; exact HCL.out.below HB1.out); have HGL3 : Hid (Glob w3) := (by rw [hw3]; exact HGL.out.below HB1.out); clear HX hw3; have HX := HX3; clear HX3; have cP := label_prog (c.lent W0) none 0 [] w3 HCL3.out HGL3.out pth_nil (fun i h => absurd h (Nat.not_lt_zero i)); rw [lblV_blind, lblE_blind] at cP)
    | (go_at_call 102; refine cP.mono ?_; clear cP; rintro e w4 ⟨rfl, hB4⟩; have HX4 : Hid (AskAt w w4 c o.arr w2.heap.size W0) := HX.out.step hB4; clear HX; have HX := HX4; clear HX4; have hk6 := (cellOfHeap HX.out.op 6).trans o6; have cR := label_ref c none 0 [] w4 (HCW.out.below HX.out.from_) (HGW.out.below HX.out.from_) pth_nil)
    | (go_at_call 103; refine cR.mono ?_; clear cR hk6; rintro e w5 ⟨rfl, hB5⟩; have HX5 : Hid (AskAt w w5 c o.arr w2.heap.size W0) := HX.out.step hB5; clear HX; have HX := HX5; clear HX5; have hk6 := (cellOfHeap HX.out.op 6).trans o6; have cH := wholePath_nil (.slice none 0 0) 0 0 w5)
    | (go_at_call 104; refine cH.mono ?_; clear cH hk6; rintro e w6 ⟨rfl, hw6⟩; have HX6 : Hid (AskAt w w6 c o.arr w2.heap.size W0) := (by rw [hw6]; exact HX.out); clear HX hw6; have HX := HX6; clear HX6; have cW := whole_c c W0 w6 HCW.out HX.out.from_ HX.out.e HX.out.b)
    | (go_at_call 97; refine cW.mono ?_; clear cW; rintro e w7 ⟨rfl, hB7⟩))
  go_ret
  exact ⟨rfl, HX.out.below.trans (hB7.mono (by have := HX.out.lo; omega))⟩
set_option maxRecDepth 100000 in
set_option maxHeartbeats 4000000 in
theorem asked_label_some (c : Cfg) (o : OpD) (ps : List (List UInt8 × Bool)) (ad : Addr) (hk : o.kind = 3) (hpp : o.pp = some ad) (hpl : o.pl = ps.length) (w : World) (hc : CfgW w c) (hg : Glob w) (hp : PthAt w (some ad) ps) (hkey : ∀ i (h : i < ps.length), ps[i].1.length ≤ maxLen) (hby : (ps.length + 8) * 24 ≤ 281474976710656) :
    Calls Tryz.prog 58 #[.agg c.arr, .agg o.arr] w fun e w' => e = .returned (.bool true) ∧ Below w.heap.size w w' := by
  have HC : Hid (CfgW w c) := hc
  have HG : Hid (Glob w) := hg
  have HPT : Hid (PthAt w (some ad) ps) := hp
  have HKY : Hid (∀ i (h : i < ps.length), ps[i].1.length ≤ maxLen) := hkey
  have HBY : Hid ((ps.length + 8) * 24 ≤ 281474976710656) := hby
  have ok : o.arr[0]? = some (.int .i64 3) := by rw [← hk]; rfl
  have o6 : o.arr[6]? = some (.slice (some ad) ps.length o.pc) := by rw [← hpp, ← hpl]; rfl
  have HS : Hid (c.arr.size = 11) := c.size
  have HW0 : Hid (CfgW ((w.alloc (.cells c.arr 45)).alloc (.cells o.arr 74)) c) := cfgW_two hc _ _
  have X0 : Hid (((w.alloc (.cells c.arr 45)).alloc (.cells o.arr 74)).heap[w.heap.size]? = some (.cells c.arr 45)) := (Below.heap_alloc _ _ _ (by simp)).trans (heap_new _ _)
  have cL := lent_c c _ HW0.out
  clear hc hg hk hpp hpl hp hkey hby
  obtain ⟨W0, hW0⟩ : ∃ W0, W0 = (w.alloc (.cells c.arr 45)).alloc (.cells o.arr 74) := ⟨_, rfl⟩
  have HD : Hid (W0 = (w.alloc (.cells c.arr 45)).alloc (.cells o.arr 74)) := hW0
  rw [← hW0] at cL
  have HX0 : Hid (W0.heap[w.heap.size]? = some (.cells c.arr 45)) := by rw [HD.out]; exact X0.out
  have HMK : Hid (∀ w2, LentOut W0 w2 (c.L ++ roomE 8) (c.B ++ roomI 8) → AskAt w (w2.alloc (.cells (c.lent W0).arr 45)) c o.arr w2.heap.size W0) := by
    intro w2 h
    rw [HD.out] at h ⊢
    exact askAt_mk w c o.arr w2 h
  have HCW : Hid (CfgW W0 c) := by rw [HD.out]; exact HW0.out
  have HGW : Hid (Glob W0) := by rw [HD.out]; exact HG.out.below (((Below.refl _ _).alloc (Nat.le_refl _) _).alloc (by simp) _)
  have HZL : Hid ((c.lent W0).arr.size = 11) := (c.lent W0).size
  have HOL : Hid ((c.lent W0).arr.all (·.oneCell') = true) := (c.lent W0).one
  clear hW0 HW0 X0
  go_enter Tryz.func58, Tryz.ntmps58
  go_wp2_with (first
    | (refine wpList_load_row rfl 45 _ rfl _ rfl _ _ _ _ HX0.out Tryz.underlying45 rfl (infoCfg HS.out) ?_)
    | (refine wpList_load_row rfl 45 _ rfl _ rfl _ _ _ _ HX.out.box Tryz.underlying45 rfl (infoCfg HS.out) ?_)
    | (refine wpList_load_row rfl 45 _ rfl _ rfl _ _ _ _ HX.out.lent Tryz.underlying45 rfl (infoCfg HZL.out) ?_)
    | (refine wpList_frameW HD.out ?_)
    | fail)
  refine cL.mono ?_
  clear cL
  rintro e w2 ⟨rfl, hL2⟩
  have HX : Hid (AskAt w (w2.alloc (.cells (c.lent W0).arr 45)) c o.arr w2.heap.size W0) := HMK.out w2 hL2
  have hkc := (cellOfHeap HX.out.op 0).trans ok
  have HCL : Hid (CfgW w2 (c.lent W0)) := lent_w HCW.out hL2
  have HGL : Hid (Glob w2) := HGW.out.below hL2.below
  have HB1 : Hid (Below w2.heap.size w2 (w2.alloc (.cells (c.lent W0).arr 45))) := (Below.refl _ _).alloc (Nat.le_refl _) _
  clear hL2
  have hk6 := (cellOfHeap HX.out.op 6).trans o6
  have HB0 : Hid (Below w.heap.size w W0) := by rw [HD.out]; exact ((Below.refl _ _).alloc (Nat.le_refl _) _).alloc (by simp) _
  have HL1 : Hid (w.heap.size + 1 < W0.heap.size) := HX.out.lo
  have cQ := lentPath_some (w2.alloc (.cells (c.lent W0).arr 45)) ad o.pc ps (HPT.out.below HX.out.below) HBY.out
  rw [World.size_alloc] at cQ
  go_wp2_with (first
    | (refine wpList_allocCfg rfl rfl _ rfl w2.heap.size rfl ?_)
    | (refine wpList_store_row rfl 45 _ _ rfl w2.heap.size (c.lent W0).arr rfl rfl 45 zCfg (heap_new w2 _) (infoCfg HZL.out) (zCfg_size HZL.out) HOL.out ?_; rw [World.setRow_alloc_new])
    | (refine wpList_load_row rfl 45 _ rfl _ rfl _ _ _ _ HX.out.box Tryz.underlying45 rfl (infoCfg HS.out) ?_)
    | (refine wpList_load_row rfl 45 _ rfl _ rfl _ _ _ _ HX.out.lent Tryz.underlying45 rfl (infoCfg HZL.out) ?_)
    | (go_at_call 101; refine cQ.mono ?_; clear cQ hkc hk6; rintro e w3 ⟨rfl, hLP⟩; have HX3 : Hid (AskAt w w3 c o.arr w2.heap.size W0) := HX.out.step hLP.below; have HLR : Hid (w3.heap[w2.heap.size + 1]? = some (.cells (stpArr (ps ++ roomS 8)) 259)) := (by have h := hLP.e; rw [World.size_alloc] at h; exact h); have HCL3 : Hid (CfgW w3 (c.lent W0)) := (HCL.out.below HB1.out).below hLP.below; have HGL3 : Hid (Glob w3) := (HGL.out.below HB1.out).below hLP.below; clear HX hLP; have HX := HX3; clear HX3; have cP := label_prog (c.lent W0) (some ⟨w2.heap.size + 1, 0, none⟩) (ps.length + 8) ps w3 HCL3.out HGL3.out (lp_path HLR.out) HKY.out; rw [lblV_blind, lblE_blind] at cP)
    | (go_at_call 102; refine cP.mono ?_; clear cP; rintro e w4 ⟨rfl, hB4⟩; have HX4 : Hid (AskAt w w4 c o.arr w2.heap.size W0) := HX.out.step hB4; have HLR4 : Hid (w4.heap[w2.heap.size + 1]? = some (.cells (stpArr (ps ++ roomS 8)) 259)) := (hB4.block _ (Array.getElem?_eq_some_iff.1 HLR.out).1).trans HLR.out; clear HX HLR; have HX := HX4; clear HX4; have hk6 := (cellOfHeap HX.out.op 6).trans o6; have cR := label_ref c (some ad) o.pc ps w4 (HCW.out.below HX.out.from_) (HGW.out.below HX.out.from_) (HPT.out.below HX.out.below))
    | (go_at_call 103; refine cR.mono ?_; clear cR hk6; rintro e w5 ⟨rfl, hB5⟩; have HX5 : Hid (AskAt w w5 c o.arr w2.heap.size W0) := HX.out.step hB5; have HLR5 : Hid (w5.heap[w2.heap.size + 1]? = some (.cells (stpArr (ps ++ roomS 8)) 259)) := (hB5.block _ (Array.getElem?_eq_some_iff.1 HLR4.out).1).trans HLR4.out; clear HX HLR4; have HX := HX5; clear HX5; have hk6 := (cellOfHeap HX.out.op 6).trans o6; have cH := wholePath_some ps ad o.pc (w2.heap.size + 1) (by have := HBY.out; omega) w5 (HPT.out.below HX.out.below) HLR5.out)
    | (go_at_call 104; refine cH.mono ?_; clear cH hk6; rintro e w6 ⟨rfl, hB6⟩; have HX6 : Hid (AskAt w w6 c o.arr w2.heap.size W0) := HX.out.step hB6; clear HX; have HX := HX6; clear HX6; have cW := whole_c c W0 w6 HCW.out HX.out.from_ HX.out.e HX.out.b)
    | (go_at_call 97; refine cW.mono ?_; clear cW; rintro e w7 ⟨rfl, hB7⟩))
  go_ret
  exact ⟨rfl, HX.out.below.trans (hB7.mono (by have := HX.out.lo; omega))⟩
end Go.Proofs.YtllcbnfmihfaaaaGreatDoor
