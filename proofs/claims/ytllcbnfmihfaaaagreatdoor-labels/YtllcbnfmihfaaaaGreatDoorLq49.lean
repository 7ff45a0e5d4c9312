import Derived.Test.YtllcbnfmihfaaaaGreatDoorLq17
import Derived.Test.YtllcbnfmihfaaaaGreatDoorLq32
import Derived.Test.YtllcbnfmihfaaaaGreatDoorLq33
import Derived.Test.YtllcbnfmihfaaaaGreatDoorLq40
import Derived.Test.YtllcbnfmihfaaaaGreatDoorLq46
import Derived.Test.YtllcbnfmihfaaaaGreatDoorLq48
namespace Go.Proofs.YtllcbnfmihfaaaaGreatDoor
open Go.RowKit Go.Shelf

/-- The answer to a path: the error, the label and the action. -/
def lblE (c : Cfg) (ps : List (List UInt8 × Bool)) : Int := if ¬ chkE c = 0 then chkE c else if pthB ps = false then 7 else 0
def lblV (c : Cfg) (ps : List (List UInt8 × Bool)) : Int × Int := if ¬ chkE c = 0 then (0, 0) else if pthB ps = false then (0, 0) else lbF c.dflt ((polR c.pol.data.toList).map enS) ps
/-- Where the walk along a path stands. -/
structure LwAt (W : World) (A : Nat) (q : Aut) (rs : List (List (Nat × List UInt8) × Int × Int)) (dflt : Int) (ps : List (List UInt8 × Bool)) (i f : Nat) (V : World) : Prop where
  ers : q.rs = rs
  edf : q.dflt = dflt
  elf : q.lf = fnL (keysR rs)
  eL : q.L = 2 + (keysR rs).length
  ly : LyD rs (keysR rs) q.st q.tk
  here : ∃ sts sa sc nf mn mf s, AuAt W A q sts (.slice sa sts.length sc) nf mn mf V ∧ MvOK q sts mf ∧ mn ≤ i ∧ sts.length ≤ i + 1 ∧ sts[f]? = some s ∧ PlP rs (ps.take i).reverse s.1
theorem lw_start {W : World} {rs : List (List (Nat × List UInt8) × Int × Int)} {dflt : Int} {A : Nat} {q : Aut} {sts : List ((Nat → Nat) × Int × Int)} {sa : Option Addr} {sc : Nat} {nf mf : Lit → Option Nat} {V : World} (h : CpAt W rs dflt A q sts sa sc nf mf V) (hn : rs.length ≤ 16) (ps : List (List UInt8 × Bool)) : LwAt W A q rs dflt ps 0 0 V := by
  obtain ⟨t, Y, h1, h2, h3⟩ := h.first
  exact ⟨h.ers, h.edf, h.elf, h.eL, h.ly, sts, sa, sc, nf, 0, mf, t, h.au, h.mv, Nat.le_refl _, h.few, h1, plP_at (plP_start h.ly h2) hn h3⟩
theorem lw_next {W : World} {A : Nat} {q : Aut} {rs : List (List (Nat × List UInt8) × Int × Int)} {dflt : Int} {ps : List (List UInt8 × Bool)} {i f : Nat} {V : World} (h : LwAt W A q rs dflt ps i f V) (hn : rs.length ≤ 16) (h8 : ∀ i (h : i < rs.length), rs[i].1.length ≤ 8) (hk : ∀ i (h : i < rs.length) j (h2 : j < rs[i].1.length), rs[i].1[j].1 ≤ 3 ∧ rs[i].1[j].2.length ≤ 1000000000) (hi : i < ps.length) (hps : ps.length ≤ 4096) (hb : ps[i].1.length ≤ maxLen) :
    Calls Tryz.prog 153 #[.pointer (some ⟨A, 0, none⟩), .int .i64 f, .agg #[.string ⟨ps[i].1.toArray⟩, .bool ps[i].2]] V fun e V' => ∃ f', e = .returned (.int .i64 (f' : Nat)) ∧ LwAt W A q rs dflt ps (i + 1) f' V' := by
  obtain ⟨sts, sa, sc, nf, mn, mf, s, h1, h2, h3, h4, h5, h6⟩ := h.here
  have hkl := keysR_le hn h8
  have hx : ltrF q.lf ps[i].1 ps[i].2 < q.L := by rw [h.elf, h.eL]; exact ltrF_lt _ _
  refine (next_any W A q sts sa sc nf mn mf V h1 h2 (by omega) (by omega) f s h5 ps[i].1 ps[i].2 hb _ rfl hx (by rw [h.eL]; omega)).mono ?_
  rintro e V' ⟨f', sts', sa', sc', nf', mn', mf', rfl, k1, k2, k3, k4, k5, t, Y, k6, k7, k8⟩
  refine ⟨f', rfl, h.ers, h.edf, h.elf, h.eL, h.ly, sts', sa', sc', nf', mn', mf', t, k1, k2, by omega, by omega, k6, ?_⟩
  have e1 : (ps.take (i + 1)).reverse = (ps[i].1, ps[i].2) :: (ps.take i).reverse := by rw [List.take_succ_eq_append_getElem hi, List.reverse_append]; rfl
  rw [e1]
  rw [h.elf, h.ers] at k7
  refine plP_at (plP_next h.ly (fun r hr s hs => ?_) h6 _ _ k7) hn k8
  obtain ⟨j, hj, rfl⟩ := List.getElem_of_mem hs
  exact ⟨(hk r hr j hj).1, fun h3 => keysR_has hr hj h3⟩
theorem lw_end {W : World} {A : Nat} {q : Aut} {rs : List (List (Nat × List UInt8) × Int × Int)} {dflt : Int} {ps : List (List UInt8 × Bool)} {f : Nat} {V : World} (h : LwAt W A q rs dflt ps ps.length f V) :
    Calls Tryz.prog 154 #[.pointer (some ⟨A, 0, none⟩), .int .i64 f] V fun e V' => e = .returned (.tuple #[.int .i64 (lbF dflt rs ps).1, .int .i64 (lbF dflt rs ps).2]) ∧ Below W.heap.size W V' := by
  obtain ⟨sts, sa, sc, nf, mn, mf, s, h1, h2, h3, h4, h5, h6⟩ := h.here
  have hh := (h1.here f s h5).1
  rw [List.take_length] at h6
  rw [h.edf, h.ers, plP_jdg h6] at hh
  refine (verdict_any W A q sts _ nf mn mf V h1 f s h5).mono ?_
  rintro e V' ⟨rfl, hB⟩
  rw [hh]
  exact ⟨rfl, h1.below.trans (hB.mono h1.below.size)⟩
theorem LwAt.step {W : World} {A : Nat} {q : Aut} {rs : List (List (Nat × List UInt8) × Int × Int)} {dflt : Int} {ps : List (List UInt8 × Bool)} {i f : Nat} {V V' : World} (h : LwAt W A q rs dflt ps i f V) (hb : Below V.heap.size V V') : LwAt W A q rs dflt ps i f V' := by
  obtain ⟨sts, sa, sc, nf, mn, mf, s, h1, h2⟩ := h.here
  exact ⟨h.ers, h.edf, h.elf, h.eL, h.ly, sts, sa, sc, nf, mn, mf, s, h1.next hb, h2⟩
theorem LwAt.below {W : World} {A : Nat} {q : Aut} {rs : List (List (Nat × List UInt8) × Int × Int)} {dflt : Int} {ps : List (List UInt8 × Bool)} {i f : Nat} {V : World} (h : LwAt W A q rs dflt ps i f V) : Below W.heap.size W V := by
  obtain ⟨sts, sa, sc, nf, mn, mf, s, h1, h2⟩ := h.here
  exact h1.below
end Go.Proofs.YtllcbnfmihfaaaaGreatDoor
namespace Go.Proofs.YtllcbnfmihfaaaaGreatDoor
open Go.RowKit Go.Shelf

/-- Where Label stands behind the reading: the configuration in its box, the setup in its. -/
structure LjAt (w : World) (c : Cfg) (N : Nat) (A : Array Value) (W : World) : Prop where
  below : Below w.heap.size w W
  box : W.heap[w.heap.size]? = some (.cells c.arr 45)
  row : W.heap[N]? = some (.cells A 110)
theorem LjAt.step {w : World} {c : Cfg} {N : Nat} {A : Array Value} {W W' : World} (h : LjAt w c N A W) (hb : Below W.heap.size W W') : LjAt w c N A W' :=
  ⟨h.below.trans (hb.mono h.below.size), (hb.block _ (Array.getElem?_eq_some_iff.1 h.box).1).trans h.box, (hb.block _ (Array.getElem?_eq_some_iff.1 h.row).1).trans h.row⟩
theorem lb_err {c : Cfg} (h : ¬ chkE c = 0) (ps : List (List UInt8 × Bool)) : lblE c ps = chkE c ∧ lblV c ps = (0, 0) := by unfold lblE lblV; rw [if_pos h, if_pos h]; exact ⟨rfl, rfl⟩
theorem lb_bad {c : Cfg} (h : chkE c = 0) {ps : List (List UInt8 × Bool)} (hp : pthB ps = false) : lblE c ps = 7 ∧ lblV c ps = (0, 0) := by simp [lblE, lblV, h, hp]
theorem lb_ok {c : Cfg} (h : chkE c = 0) {ps : List (List UInt8 × Bool)} (hp : pthB ps = true) : lblE c ps = 0 ∧ lblV c ps = lbF c.dflt ((polR c.pol.data.toList).map enS) ps := by simp [lblE, lblV, h, hp]
theorem chk_pol {c : Cfg} (h : chkE c = 0) : polE c.labels.toNat c.pol.data.toList = 0 := by
  rw [← (pro_chk c).1] at h
  unfold proE at h
  split at h
  · next hh => exact absurd h hh
  · split at h
    · cases h
    · split at h
      · cases h
      · exact h
set_option maxRecDepth 100000 in
set_option maxHeartbeats 4000000 in
theorem label_prog (c : Cfg) (pa : Option Addr) (pc : Nat) (ps : List (List UInt8 × Bool)) (w : World) (hc : CfgW w c) (hg : Glob w) (hp : PthAt w pa ps) (hk : ∀ i (h : i < ps.length), ps[i].1.length ≤ maxLen) :
    Calls Tryz.prog 102 #[.agg c.arr, .slice pa ps.length pc] w fun e w' => e = .returned (.tuple #[.int .i64 (lblV c ps).1, .int .i64 (lblV c ps).2, .int .i64 (lblE c ps)]) ∧ Below w.heap.size w w' := by
  have HS : Hid (c.arr.size = 11) := c.size
  have HP : Hid (PthAt w pa ps) := hp
  have HK : Hid (∀ i (h : i < ps.length), ps[i].1.length ≤ maxLen) := hk
  have HX : Hid (BoxAt w c (w.alloc (.cells c.arr 45))) := boxAt_mk w c
  have cR := cfgRead_seg c _ (HX.out.cfg hc) (hg.below HX.out.below)
  have HPC : Hid (proE c = chkE c ∧ proN c = chkN c) := pro_chk c
  clear hc hg hp hk
  go_enter Tryz.func102, Tryz.ntmps102
  go_wp2_with (first
    | (refine wpList_load_row rfl 45 _ rfl _ rfl _ _ _ _ HX.out.box Tryz.underlying45 rfl (infoCfg HS.out) ?_)
    | fail)
  refine cR.mono ?_
  clear cR
  rintro e w2 ⟨A, rfl, hA, hB2⟩
  rw [HPC.out.1, HPC.out.2]
  have HA1 : Hid (A.size = 38) := hA.1
  have HA2 : Hid (A.all (·.oneCell') = true) := hA.2.1
  have HZ : Hid (zSet.size = A.size) := by show _ = _; rw [hA.1]; exact zSet_size
  have HX2 : Hid (BoxAt w c w2) := HX.out.step hB2
  have HB3 : Hid (LjAt w c w2.heap.size A (w2.alloc (.cells A 110))) := ⟨HX2.out.below.alloc HX2.out.below.size _, (Below.heap_alloc _ _ _ (Array.getElem?_eq_some_iff.1 HX2.out.box).1).trans HX2.out.box, heap_new _ _⟩
  have hA3 := hA.2.2
  rw [HPC.out.1] at hA3
  clear hA hB2 HX HX2
  by_cases h0 : chkE c = 0
  · obtain ⟨_, sa, sk, sc, hAe, lo, hPB⟩ := hA3 h0
    obtain ⟨ra, rc, hre, hPR⟩ := hPB.pru
    injection hre with e1 e2 e3
    subst e1
    subst e2
    subst e3
    have h37 : A[37]? = some (.slice sa ((polR c.pol.data.toList).map enS).length sc) := by
      rw [hAe]
      unfold setArr
      rw [Array.getElem?_push, ordArr_size]
      rfl
    have HPR : Hid (PruAt (w2.alloc (.cells A 110)) sa ((polR c.pol.data.toList).map enS)) := hPR.below ((Below.refl _ _).alloc (Nat.le_refl _) _)
    have HRS := pol_rs (chk_pol h0)
    clear hAe hA3 hPB hPR
    cases hpb : pthB ps with
    | false =>
      have HE : Hid (lblE c ps = 7 ∧ lblV c ps = (0, 0)) := lb_bad h0 hpb
      rw [h0]
      have cI := isPath_any (w2.alloc (.cells A 110)) pa pc ps (HP.out.below HB3.out.below)
      rw [hpb] at cI
      clear h0 hpb HRS h37
      go_wp2_with (first
        | (refine wpList_allocSet rfl rfl _ rfl w2.heap.size rfl ?_)
        | (refine wpList_store_row rfl 110 _ _ rfl w2.heap.size A rfl rfl 110 zSet (heap_new w2 _) (infoSet' HA1.out) HZ.out HA2.out ?_; rw [World.setRow_alloc_new])
        | (go_at_call 152; refine cI.mono ?_; clear cI; rintro e w3 ⟨rfl, hB3⟩; have HB4 : Hid (LjAt w c w2.heap.size A w3) := HB3.out.step hB3; clear hB3))
      go_ret3
      rw [HE.out.1, HE.out.2]
      exact ⟨rfl, HB4.out.below⟩
    | true =>
      have HE : Hid (lblE c ps = 0 ∧ lblV c ps = lbF c.dflt ((polR c.pol.data.toList).map enS) ps) := lb_ok h0 hpb
      have hps : ps.length ≤ 4096 := by
        unfold pthB at hpb
        rw [Bool.and_eq_true] at hpb
        exact of_decide_eq_true hpb.1
      rw [h0]
      have cI := isPath_any (w2.alloc (.cells A 110)) pa pc ps (HP.out.below HB3.out.below)
      rw [hpb] at cI
      clear h0 hpb
      obtain ⟨hn, h8, hk3⟩ := HRS
      have H8 : Hid (∀ i (h : i < ((polR c.pol.data.toList).map enS).length), ((polR c.pol.data.toList).map enS)[i].1.length ≤ 8) := h8
      have HK3 : Hid (∀ i (h : i < ((polR c.pol.data.toList).map enS).length) j (h2 : j < ((polR c.pol.data.toList).map enS)[i].1.length), ((polR c.pol.data.toList).map enS)[i].1[j].1 ≤ 3 ∧ ((polR c.pol.data.toList).map enS)[i].1[j].2.length ≤ 1000000000) := hk3
      clear h8 hk3
      generalize (polR c.pol.data.toList).map enS = rs at *
      go_wp2_with (first
        | (refine wpList_allocSet rfl rfl _ rfl w2.heap.size rfl ?_)
        | (refine wpList_store_row rfl 110 _ _ rfl w2.heap.size A rfl rfl 110 zSet (heap_new w2 _) (infoSet' HA1.out) HZ.out HA2.out ?_; rw [World.setRow_alloc_new])
        | (go_at_call 152; refine cI.mono ?_; clear cI; rintro e w3 ⟨rfl, hB3⟩; have HB4 : Hid (LjAt w c w2.heap.size A w3) := HB3.out.step hB3; have HPR3 : Hid (PruAt w3 sa rs) := HPR.out.below hB3; clear hB3 HPR HB3; have d37 := (cellOfHeap HB4.out.row 37).trans h37; have d2 : w3.cell? ⟨w.heap.size, 2, none⟩ = some (.int .i64 c.dflt) := cellOfHeap HB4.out.box 2; have cC := compile_any w3 sa sc rs c.dflt HPR3.out hn H8.out HK3.out)
        | (go_at_call 49; refine cC.mono ?_; clear cC; rintro e w4 ⟨B, q, sts, ta, tc, nf, mf, rfl, hCP⟩; have HL0 : Hid (LwAt w3 B q rs c.dflt ps 0 0 w4) := lw_start hCP hn ps; clear hCP))
      have HB3 : Hid (Below w.heap.size w w3) := HB4.out.below
      clear d37 d2 h37 HPR3 HB4 HA1 HA2 HZ
      go_loopg [11, 35] ps.length (fun g y x V => ∃ i f : Nat, y = .int .i64 f ∧ x = .int .i64 i ∧ Hid (i + g = ps.length) ∧ Hid (LwAt w3 B q rs c.dflt ps i f V))
      case atStart => exact ⟨0, 0, rfl, rfl, by show _ = _; omega, HL0⟩
      case round =>
        clear HL0
        obtain ⟨i, f, rfl, rfl, hg, HL⟩ := hrel
        cases gk with
        | zero =>
          have hlt : ¬ (i : Int) < (ps.length : Int) := by have := hg.out; omega
          have hi : i = ps.length := by have := hg.out; omega
          subst hi
          have cV := lw_end HL.out
          have HE1 : Hid (lblE c ps = 0) := HE.out.1
          have HE2 : Hid (lblV c ps = lbF c.dflt rs ps) := HE.out.2
          clear HE HL
          generalize lbF c.dflt rs ps = z at *
          go_wp2_with (first
            | (go_at_call 154; refine cV.mono ?_; clear cV; rintro e w5 ⟨rfl, hB5⟩; have HB5 : Hid (Below w3.heap.size w3 w5) := hB5; clear hB5))
          go_ret3
          rw [HE1.out, HE2.out]
          exact ⟨rfl, HB3.out.trans (HB5.out.mono HB3.out.size)⟩
        | succ g =>
          have hil : i < ps.length := by have := hg.out; omega
          have hlt : (i : Int) < (ps.length : Int) := by omega
          obtain ⟨b2, off2, rfl, hb2, p0, p1⟩ := (HP.out.below (HB3.out.trans (HL.out.below.mono HB3.out.size))).at_ i hil
          have HL1 : Hid (LwAt w3 B q rs c.dflt ps i f (wr.alloc (.cells #[.string ⟨ps[i].1.toArray⟩, .bool ps[i].2] 259))) := HL.out.step ((Below.refl _ _).alloc (Nat.le_refl _) _)
          have cN := lw_next HL1.out hn H8.out HK3.out hil hps (HK.out i hil)
          clear HL HL1
          generalize ps[i] = st at *
          obtain ⟨key, ix⟩ := st
          dsimp only at cN p0 p1
          go_wp2_with (first
            | (go_at_call 153; refine cN.mono ?_; clear cN; rintro e w5 ⟨f', rfl, hL5⟩; have HL5 : Hid (LwAt w3 B q rs c.dflt ps (i + 1) f' w5) := hL5; clear hL5))
          go_roundg g
          case measure => omega
          case rel => exact ⟨i + 1, f', rfl, by go_num, by show _ = _; have := hg.out; omega, HL5⟩
  · have HE : Hid (lblE c ps = chkE c ∧ lblV c ps = (0, 0)) := lb_err h0 ps
    clear hA3
    generalize chkE c = E at *
    generalize chkN c = N at *
    go_wp2_with (first
      | (refine wpList_allocSet rfl rfl _ rfl w2.heap.size rfl ?_)
      | (refine wpList_store_row rfl 110 _ _ rfl w2.heap.size A rfl rfl 110 zSet (heap_new w2 _) (infoSet' HA1.out) HZ.out HA2.out ?_; rw [World.setRow_alloc_new]))
    go_ret3
    rw [HE.out.1, HE.out.2]
    exact ⟨rfl, HB3.out.below⟩
end Go.Proofs.YtllcbnfmihfaaaaGreatDoor
namespace Go.Proofs.YtllcbnfmihfaaaaGreatDoor
open Go.RowKit Go.Shelf

/-- The answer of Leq, as data. -/
def leqE (c : Cfg) (a b : Int) : Int := if ¬ chkE c = 0 then chkE c else if (hasB c.labels.toNat a && hasB c.labels.toNat b) = false then 7 else 0
def leqT (c : Cfg) (a b : Int) : Bool := if ¬ chkE c = 0 then false else if (hasB c.labels.toNat a && hasB c.labels.toNat b) = false then false else leqF c.labels.toNat c.L a.toNat b.toNat
theorem leqE_blind : Blind3 leqE := fun _ _ _ _ => rfl
theorem leqT_blind : Blind3 leqT := fun _ _ _ _ => rfl
theorem chk_ok {c : Cfg} (h : chkE c = 0) : newOK c.labels c.L = true := by
  cases hn : newOK c.labels c.L
  · have : ordOK c = false := by unfold ordOK; rw [hn]; rfl
    unfold chkE at h
    rw [if_pos this] at h
    cases h
  · rfl
theorem has_nat {n : Nat} {a : Int} (h : hasB n a = true) : a = (a.toNat : Nat) ∧ a.toNat < n := by
  unfold hasB at h
  have := of_decide_eq_true h
  omega

set_option maxRecDepth 100000 in
set_option maxHeartbeats 4000000 in
theorem refLeq_any : Says3 100 leqT leqE := by
  intro c a b w hc hg
  have HC : Hid (CfgW w c) := hc
  have HS : Hid (c.arr.size = 11) := c.size
  have HX : Hid (BoxAt w c (w.alloc (.cells c.arr 45))) := boxAt_mk w c
  have cK := refCheck_any c _ (HX.out.cfg hc) (hg.below HX.out.below)
  clear hc hg
  by_cases h0 : chkE c = 0
  · obtain ⟨hn, H⟩ := newOK_parts (chk_ok h0)
    have HR : Hid (RefOK c.arr c.labels.toNat c.L c.ea c.ecap) := H
    have HF0 : Hid (c.arr[0]? = some (.int .i64 (c.labels.toNat : Nat))) := by show _ = _; rw [hn]; rfl
    have cB := fun a W => label_any c.arr c.labels.toNat HF0.out a W
    rw [h0] at cK
    have hE : leqE c a b = if (hasB c.labels.toNat a && hasB c.labels.toNat b) = false then 7 else 0 := by unfold leqE; rw [if_neg (fun hh => hh h0)]
    have hT : leqT c a b = if (hasB c.labels.toNat a && hasB c.labels.toNat b) = false then false else leqF c.labels.toNat c.L a.toNat b.toNat := by unfold leqT; rw [if_neg (fun hh => hh h0)]
    clear h0 hn H
    cases h2 : hasB c.labels.toNat a
    · have HE : Hid (leqE c a b = 7) := by show _ = _; rw [hE, h2]; rfl
      have HT : Hid (leqT c a b = false) := by show _ = _; rw [hT, h2]; rfl
      clear hE hT
      go_enter Tryz.func100, Tryz.ntmps100
      go_wp2_with (first
        | (refine wpList_load_row rfl 45 _ rfl _ rfl _ _ _ _ HX.out.box Tryz.underlying45 rfl (infoCfg HS.out) ?_)
        | (go_at_call 47; refine cK.mono ?_; clear cK; rintro e w2 ⟨rfl, hB2⟩; have HX2 : Hid (BoxAt w c w2) := HX.out.step hB2; clear HX; have HX := HX2; clear HX2 hB2)
        | (go_at_call 76; refine (cB a _).mono ?_; rintro e w3 ⟨rfl, hB3⟩; rw [h2]; have HX2 : Hid (BoxAt w c w3) := HX.out.step hB3; clear HX; have HX := HX2; clear HX2 hB3))
      go_ret2
      exact ⟨by rw [HE.out, HT.out]; rfl, HX.out.below⟩
    · cases h3 : hasB c.labels.toNat b
      · have HE : Hid (leqE c a b = 7) := by show _ = _; rw [hE, h2, h3]; rfl
        have HT : Hid (leqT c a b = false) := by show _ = _; rw [hT, h2, h3]; rfl
        clear hE hT
        go_enter Tryz.func100, Tryz.ntmps100
        have T1 : True := trivial
        go_wp2_with (first
          | (refine wpList_load_row rfl 45 _ rfl _ rfl _ _ _ _ HX.out.box Tryz.underlying45 rfl (infoCfg HS.out) ?_)
          | (refine wpList_load_row_g 45 _ rfl ?hw _ rfl _ _ _ _ HX.out.box Tryz.underlying45 rfl (infoCfg HS.out) ?_; case hw => simp [go_sem]; done)
          | (go_at_call 47; refine cK.mono ?_; clear cK; rintro e w2 ⟨rfl, hB2⟩; have HX2 : Hid (BoxAt w c w2) := HX.out.step hB2; clear HX; have HX := HX2; clear HX2 hB2)
          | (go_at_call 76; clear T1; refine (cB a _).mono ?_; rintro e w3 ⟨rfl, hB3⟩; rw [h2]; have HX2 : Hid (BoxAt w c w3) := HX.out.step hB3; clear HX; have HX := HX2; clear HX2 hB3)
          | (go_at_call 76; refine (cB b _).mono ?_; rintro e w4 ⟨rfl, hB4⟩; rw [h3]; have HX2 : Hid (BoxAt w c w4) := HX.out.step hB4; clear HX; have HX := HX2; clear HX2 hB4))
        go_ret2
        exact ⟨by rw [HE.out, HT.out]; rfl, HX.out.below⟩
      · have HE : Hid (leqE c a b = 0) := by show _ = _; rw [hE, h2, h3]; rfl
        have HT : Hid (leqT c a b = leqF c.labels.toNat c.L a.toNat b.toNat) := by show _ = _; rw [hT, h2, h3]; rfl
        obtain ⟨ea, la⟩ := has_nat h2
        obtain ⟨eb, lb⟩ := has_nat h3
        have cQ := fun W hA => leq_any c.arr c.labels.toNat c.L c.ea c.ecap HR.out.cfg HR.out.hn HR.out.hL HR.out.hE a.toNat b.toNat la lb W hA
        rw [← ea, ← eb] at cQ
        have HQ : Hid (∀ W, EdgesAt W c.ea c.L → Calls Tryz.prog 126 #[.agg c.arr, .int .i64 a, .int .i64 b] W fun e w' => e = .returned (.bool (leqF c.labels.toNat c.L a.toNat b.toNat)) ∧ Below W.heap.size W w') := cQ
        clear hE hT ea la eb lb cQ
        go_enter Tryz.func100, Tryz.ntmps100
        have T1 : True := trivial
        go_wp2_with (first
          | (refine wpList_load_row rfl 45 _ rfl _ rfl _ _ _ _ HX.out.box Tryz.underlying45 rfl (infoCfg HS.out) ?_)
          | (refine wpList_load_row_g 45 _ rfl ?hw _ rfl _ _ _ _ HX.out.box Tryz.underlying45 rfl (infoCfg HS.out) ?_; case hw => simp [go_sem]; done)
          | (go_at_call 47; refine cK.mono ?_; clear cK; rintro e w2 ⟨rfl, hB2⟩; have HX2 : Hid (BoxAt w c w2) := HX.out.step hB2; clear HX; have HX := HX2; clear HX2 hB2)
          | (go_at_call 76; clear T1; refine (cB a _).mono ?_; rintro e w3 ⟨rfl, hB3⟩; rw [h2]; have HX2 : Hid (BoxAt w c w3) := HX.out.step hB3; clear HX; have HX := HX2; clear HX2 hB3)
          | (go_at_call 76; refine (cB b _).mono ?_; rintro e w4 ⟨rfl, hB4⟩; rw [h3]; have HX2 : Hid (BoxAt w c w4) := HX.out.step hB4; clear HX; have HX := HX2; clear HX2 hB4; have cQ := HQ.out w4 (HX.out.cfg HC.out).edges)
          | (go_at_call 126; refine cQ.mono ?_; clear cQ; rintro e w5 ⟨rfl, hB5⟩; have HX2 : Hid (BoxAt w c w5) := HX.out.step hB5; clear HX; have HX := HX2; clear HX2 hB5))
        go_ret2
        exact ⟨by rw [HE.out, HT.out]; rfl, HX.out.below⟩
  · have HE : Hid (leqE c a b = chkE c) := by show _ = _; unfold leqE; rw [if_pos h0]
    have HT : Hid (leqT c a b = false) := by show _ = _; unfold leqT; rw [if_pos h0]
    generalize chkE c = E at *
    generalize chkN c = N at *
    go_enter Tryz.func100, Tryz.ntmps100
    go_wp2_with (first
      | (refine wpList_load_row rfl 45 _ rfl _ rfl _ _ _ _ HX.out.box Tryz.underlying45 rfl (infoCfg HS.out) ?_)
      | (go_at_call 47; refine cK.mono ?_; clear cK; rintro e w2 ⟨rfl, hB2⟩; have HX2 : Hid (BoxAt w c w2) := HX.out.step hB2; clear HX; have HX := HX2; clear HX2 hB2))
    go_ret2
    exact ⟨by rw [HE.out, HT.out]; rfl, HX.out.below⟩
end Go.Proofs.YtllcbnfmihfaaaaGreatDoor
