import Derived.Test.YtllcbnfmihfaaaaGreatDoorLq17
import Derived.Test.YtllcbnfmihfaaaaGreatDoorLq43
import Derived.Test.YtllcbnfmihfaaaaGreatDoorLq47
namespace Go.Proofs.YtllcbnfmihfaaaaGreatDoor
open Go.RowKit

/-- What an automaton that was just made is. -/
structure CpAt (W : World) (rs : List (List (Nat × List UInt8) × Int × Int)) (dflt : Int) (A : Nat) (q : Aut) (sts : List ((Nat → Nat) × Int × Int)) (sa : Option Addr) (sc : Nat) (nf : Lit → Option Nat) (mf : Lit → Option Nat) (W' : World) : Prop where
  au : AuAt W A q sts (.slice sa sts.length sc) nf 0 mf W'
  ers : q.rs = rs
  edf : q.dflt = dflt
  elf : q.lf = fnL (keysR rs)
  eL : q.L = 2 + (keysR rs).length
  ly : LyD rs (keysR rs) q.st q.tk
  mv : MvOK q sts mf
  few : sts.length ≤ 1
  first : ∃ t Y, sts[0]? = some t ∧ WdY rs.length q.st (one rs.length) Y ∧ ∀ r, r < 16 → t.1 r = Y r
def CpSays (W : World) (rs : List (List (Nat × List UInt8) × Int × Int)) (dflt : Int) (e : Ending) (W' : World) : Prop :=
  ∃ A q sts sa sc nf mf, e = .returned (.pointer (some ⟨A, 0, none⟩)) ∧ CpAt W rs dflt A q sts sa sc nf mf W'
/-- Three maps that were made, and the row behind them. -/
def w3M (W : World) : World := ((W.alloc (.map #[] 0)).alloc (.map #[] 0)).alloc (.map #[] 0)
theorem w3M_size (W : World) : (w3M W).heap.size = W.heap.size + 3 := by simp [w3M]
theorem im_3 (W : World) (kt : TypeId) (b : Nat) (h1 : W.heap.size ≤ b) (h2 : b < W.heap.size + 3) : ImAt (w3M W) kt b 0 (fun _ => none) := by
  have s1 : (W.alloc (.map #[] 0)).heap.size = W.heap.size + 1 := by simp
  have s2 : ((W.alloc (.map #[] 0)).alloc (.map #[] 0)).heap.size = W.heap.size + 2 := by simp
  rcases (by omega : b = W.heap.size ∨ b = W.heap.size + 1 ∨ b = W.heap.size + 2) with rfl | rfl | rfl
  · exact ((im_made W kt).kept (World.grownBy_alloc _ _ none) (by simp)).kept (World.grownBy_alloc _ _ none) (by simp)
  · have h := (im_made (W.alloc (.map #[] 0)) kt).kept (World.grownBy_alloc _ (.map #[] 0) none) (by simp)
    rw [s1] at h
    exact h
  · have h := im_made ((W.alloc (.map #[] 0)).alloc (.map #[] 0)) kt
    rw [s2] at h
    exact h
theorem imK_3 (W : World) (b : Nat) (h1 : W.heap.size ≤ b) (h2 : b < W.heap.size + 3) : ImK (w3M W) b [] := by
  have s1 : (W.alloc (.map #[] 0)).heap.size = W.heap.size + 1 := by simp
  have s2 : ((W.alloc (.map #[] 0)).alloc (.map #[] 0)).heap.size = W.heap.size + 2 := by simp
  rcases (by omega : b = W.heap.size ∨ b = W.heap.size + 1 ∨ b = W.heap.size + 2) with rfl | rfl | rfl
  · exact ((imK_made W).kept (World.grownBy_alloc _ _ none) (by simp)).kept (World.grownBy_alloc _ _ none) (by simp)
  · have h := (imK_made (W.alloc (.map #[] 0))).kept (World.grownBy_alloc _ (.map #[] 0) none) (by simp)
    rw [s1] at h
    exact h
  · have h := imK_made ((W.alloc (.map #[] 0)).alloc (.map #[] 0))
    rw [s2] at h
    exact h
/-- The automaton's row, before anything is laid. -/
def q0 (ra : Option Addr) (rc : Nat) (rs : List (List (Nat × List UInt8) × Int × Int)) (dflt : Int) (lm nb mb : Nat) : Aut :=
  { ra := ra, rc := rc, rs := rs, dflt := dflt, lm := lm, ln := 0, lf := fun _ => none, st := fun _ => 0, tb := 0, L := 0, tc := 0, tk := fun _ _ => 0, nb := nb, mb := mb }
def q1 (ra : Option Addr) (rc : Nat) (rs : List (List (Nat × List UInt8) × Int × Int)) (dflt : Int) (lm nb mb : Nat) (st : Nat → Nat) (tb : Nat) (tk : Nat → Nat → Nat) : Aut :=
  { ra := ra, rc := rc, rs := rs, dflt := dflt, lm := lm, ln := (keysR rs).length, lf := fnL (keysR rs), st := st, tb := tb, L := 2 + (keysR rs).length, tc := 2 + (keysR rs).length, tk := tk, nb := nb, mb := mb }
theorem LyD.lt {rs : List (List (Nat × List UInt8) × Int × Int)} {ks : List (List UInt8)} {st : Nat → Nat} {tk : Nat → Nat → Nat} (h : LyD rs ks st tk) (h8 : ∀ i (h : i < rs.length), rs[i].1.length ≤ 8) : (∀ r, st r < 256) ∧ ∀ x r, tk x r < 256 :=
  ⟨fun r => lt256 fun p hp => by rw [h.s, gB_far h8 r p hp], fun x r => lt256 fun p hp => by rw [h.t, gB_far h8 r p hp]⟩
/-- All is laid: an automaton without states. -/
theorem au_laid {W V0 V1 V2 V3 : World} {ra : Option Addr} {rc : Nat} {rs : List (List (Nat × List UInt8) × Int × Int)} {dflt : Int} {lm nb mb A tb : Nat} {st : Nat → Nat} {tk : Nat → Nat → Nat} (hr : PruAt W ra rs) (hn : rs.length ≤ 16) (h8 : ∀ i (h : i < rs.length), rs[i].1.length ≤ 8)
    (hA : A = W.heap.size + 3) (h1 : W.heap.size ≤ lm ∧ lm < W.heap.size + 3) (h2 : W.heap.size ≤ nb ∧ nb < W.heap.size + 3) (h3 : W.heap.size ≤ mb ∧ mb < W.heap.size + 3) (d1 : lm ≠ nb) (d2 : lm ≠ mb) (d3 : nb ≠ mb)
    (hV0 : V0 = (w3M W).alloc (.cells (autD (q0 ra rc rs dflt lm nb mb) (fun _ => 0) (.slice none 0 0) (.slice none 0 0)) 168))
    (hN : NlAt V0 lm (keysR rs) V1) (htb : V1.heap.size ≤ tb) (hL : LyAt V1 A tb (2 + (keysR rs).length) (q0 ra rc rs dflt lm nb mb) (.slice none 0 0) st tk V2) (hD : LyD rs (keysR rs) st tk) (hB : Below V2.heap.size V2 V3) :
    AuAt W A (q1 ra rc rs dflt lm nb mb st tb tk) [] (.slice none 0 0) (fun _ => none) 0 (fun _ => none) V3 := by
  have hs0 : V0.heap.size = W.heap.size + 4 := by rw [hV0, World.size_alloc, w3M_size]
  have hs1 := hN.but.size
  have hL3 := hL.next hB
  have b0 : Below W.heap.size W V0 := by
    rw [hV0]
    exact ((((Below.refl _ _).alloc (Nat.le_refl _) _).alloc (by simp) _).alloc (by simp; omega) _).alloc (by simp; omega) _
  have b1 : Below W.heap.size W V1 := hN.but.low b0 h1.1
  have b3 : Below W.heap.size W V3 := hL3.low b1 (by omega)
  have hg0 : (w3M W).grownBy V0 none := by rw [hV0]; exact World.grownBy_alloc _ _ none
  have hg1 : V0.grownBy V1 (some lm) := ⟨hN.but.os, hN.but.tape, hN.but.output, hN.but.size, fun i hi hne => hN.but.block i hi (by simpa using hne)⟩
  have hg3 : V1.grownBy V3 (some A) := ⟨hL3.os, hL3.tape, hL3.output, hL3.size, fun i hi hne => hL3.block i hi (by simpa using hne)⟩
  have key : ∀ kt b, W.heap.size ≤ b → b < W.heap.size + 3 → b ≠ lm → ImAt V3 kt b 0 (fun _ => none) := fun kt b k1 k2 k3 =>
    (((im_3 W kt b k1 k2).kept hg0 (by simp)).kept hg1 (by simpa using k3)).kept hg3 (by simp; omega)
  obtain ⟨cur, t1, t2⟩ := hL3.tks
  refine ⟨?_, hr, ⟨hn, h8⟩, b3, ?_, ⟨cur, t1, t2.at_⟩, World.ownsRow_nil _ _ _ _, key _ nb h2.1 h2.2 d1.symm, key _ mb h3.1 h3.2 d2.symm, ?_, ?_, ?_, hD.lt h8, ?_, ?_, fun l i h => by cases h⟩
  · rw [autD_all]
    exact hL3.row
  · exact (hN.names.kept hg3 (by simp; omega)).im
  · exact ⟨by omega, h1.1, show W.heap.size ≤ tb by omega, h2.1, h3.1⟩
  · refine ⟨show A ≠ lm by omega, show A ≠ tb by omega, show A ≠ nb by omega, show A ≠ mb by omega, show lm ≠ tb by omega, d1, d2, show tb ≠ nb by omega, show tb ≠ mb by omega, d3⟩
  · intro g hg
    cases hg
  · intro i x hx
    simp at hx
  · intro i x hx
    simp at hx
end Go.Proofs.YtllcbnfmihfaaaaGreatDoor
namespace Go.Proofs.YtllcbnfmihfaaaaGreatDoor
open Go.RowKit

theorem AuR_of {W V : World} {A tb L : Nat} {q : Aut} {sv : Value} {st : Nat → Nat} {tk : Nat → Nat → Nat} (h : LyAt W A tb L q sv st tk V) : AuR V A q.ra q.rc q.rs.length st :=
  ⟨(Array.getElem?_eq_some_iff.1 h.row).1, (cell_of_row V A 0 _ _ _ h.row).trans (autD_0 _ _ _ _), fun r hr => (h.cs r hr).1⟩
theorem built_aut (ra : Option Addr) (rc : Nat) (rs : List (List (Nat × List UInt8) × Int × Int)) (dflt : Int) (lm nb mb : Nat) : Tryz.prog.built 168 [(0, .slice ra rs.length rc), (1, .int .i64 dflt), (2, .map (some lm)), (6, .map (some nb)), (7, .map (some mb))] = some (autD (q0 ra rc rs dflt lm nb mb) (fun _ => 0) (.slice none 0 0) (.slice none 0 0)) := by kernel_rfl
theorem aut_lit (ra : Option Addr) (rc : Nat) (rs : List (List (Nat × List UInt8) × Int × Int)) (dflt : Int) (lm nb mb : Nat) : autD (q0 ra rc rs dflt lm nb mb) (fun _ => 0) (.slice none 0 0) (.slice none 0 0) = #[.slice ra rs.length rc, .int .i64 dflt, .map (some lm), .int .u16 0, .int .u16 0, .int .u16 0, .int .u16 0, .int .u16 0, .int .u16 0, .int .u16 0, .int .u16 0, .int .u16 0, .int .u16 0, .int .u16 0, .int .u16 0, .int .u16 0, .int .u16 0, .int .u16 0, .int .u16 0, .slice none 0 0, .slice none 0 0, .map (some nb), .map (some mb)] := by kernel_rfl
theorem mk_m1 (V : World) : (Instr.makeMap 159 none).run Tryz.prog V = .ok (.map (some V.heap.size)) (V.alloc (.map #[] 0)) := by kernel_rfl
theorem mk_m2 (V : World) : (Instr.makeMap 160 none).run Tryz.prog V = .ok (.map (some V.heap.size)) (V.alloc (.map #[] 0)) := by kernel_rfl
theorem mk_m3 (V : World) : (Instr.makeMap 161 none).run Tryz.prog V = .ok (.map (some V.heap.size)) (V.alloc (.map #[] 0)) := by kernel_rfl
set_option maxRecDepth 100000 in
set_option maxHeartbeats 4000000 in
theorem compile_any (W : World) (ra : Option Addr) (rc : Nat) (rs : List (List (Nat × List UInt8) × Int × Int)) (dflt : Int) (hr : PruAt W ra rs) (hn : rs.length ≤ 16) (h8 : ∀ i (h : i < rs.length), rs[i].1.length ≤ 8) (hk3 : ∀ i (h : i < rs.length) j (h2 : j < rs[i].1.length), rs[i].1[j].1 ≤ 3 ∧ rs[i].1[j].2.length ≤ 1000000000) :
    Calls Tryz.prog 49 #[.slice ra rs.length rc, .int .i64 dflt] W (CpSays W rs dflt) := by
  have HR : Hid (PruAt W ra rs) := hr
  have H8 : Hid (∀ i (h : i < rs.length), rs[i].1.length ≤ 8) := h8
  have HK3 : Hid (∀ i (h : i < rs.length) j (h2 : j < rs[i].1.length), rs[i].1[j].1 ≤ 3 ∧ rs[i].1[j].2.length ≤ 1000000000) := hk3
  clear hr h8 hk3
  have m1 := mk_m1
  have m2 := mk_m2
  have m3 := mk_m3
  have HV0 : Hid (∃ V0, V0 = ((((W.alloc (.map #[] 0)).alloc (.map #[] 0)).alloc (.map #[] 0)).alloc (.cells #[.slice ra rs.length rc, .int .i64 dflt, .map (some W.heap.size), .int .u16 0, .int .u16 0, .int .u16 0, .int .u16 0, .int .u16 0, .int .u16 0, .int .u16 0, .int .u16 0, .int .u16 0, .int .u16 0, .int .u16 0, .int .u16 0, .int .u16 0, .int .u16 0, .int .u16 0, .int .u16 0, .slice none 0 0, .slice none 0 0, .map (some (W.heap.size + 1)), .map (some (W.heap.size + 1 + 1))] 168)) ∧ V0 = (w3M W).alloc (.cells (autD (q0 ra rc rs dflt W.heap.size (W.heap.size + 1) (W.heap.size + 1 + 1)) (fun _ => 0) (.slice none 0 0) (.slice none 0 0)) 168)) := ⟨_, rfl, by rw [aut_lit]; rfl⟩
  obtain ⟨V0, hV0, hV1⟩ := HV0.out
  have HV1 : Hid (V0 = (w3M W).alloc (.cells (autD (q0 ra rc rs dflt W.heap.size (W.heap.size + 1) (W.heap.size + 1 + 1)) (fun _ => 0) (.slice none 0 0) (.slice none 0 0)) 168)) := hV1
  clear HV0 hV1
  have HSZ : Hid (V0.heap.size = W.heap.size + 4) := by show _ = _; rw [HV1.out, World.size_alloc, w3M_size]
  have HB0 : Hid (Below W.heap.size W V0) := by
    show Below _ _ _
    rw [HV1.out]
    exact ((((Below.refl _ _).alloc (Nat.le_refl _) _).alloc (by simp) _).alloc (by simp; omega) _).alloc (by simp; omega) _
  have HROW : Hid (V0.heap[W.heap.size + 3]? = some (.cells (autD (q0 ra rc rs dflt W.heap.size (W.heap.size + 1) (W.heap.size + 1 + 1)) (fun _ => 0) (.slice none 0 0) (.slice none 0 0)) 168)) := by
    show _ = _
    rw [HV1.out]
    have := heap_new (w3M W) (.cells (autD (q0 ra rc rs dflt W.heap.size (W.heap.size + 1) (W.heap.size + 1 + 1)) (fun _ => 0) (.slice none 0 0) (.slice none 0 0)) 168)
    rw [w3M_size] at this
    exact this
  have HNM : Hid (ImK V0 W.heap.size []) := by
    show ImK _ _ _
    rw [HV1.out]
    exact (imK_3 W W.heap.size (Nat.le_refl _) (by omega)).kept (World.grownBy_alloc _ _ none) (by simp)
  have cN := nameLetters_any W V0 (W.heap.size + 1 + 1 + 1) W.heap.size ra rc rs HB0.out (by have := HSZ.out; omega) (by omega) (Nat.le_refl _) hn H8.out (fun i h j h2 => (HK3.out i h j h2).2) ((cell_of_row V0 _ 0 _ _ _ HROW.out).trans (autD_0 _ _ _ _)) ((cell_of_row V0 _ 2 _ _ _ HROW.out).trans (autD_2 _ _ _ _)) HR.out HNM.out
  go_enter Tryz.func49, Tryz.ntmps49
  go_wp2_with (fail)
  rw [← hV0]
  refine cN.mono ?_
  clear cN hV0 m1 m2 m3
  rintro e V1 ⟨rfl, hN⟩
  have HN : Hid (NlAt V0 W.heap.size (keysR rs) V1) := hN
  have hB1 := hN.but.low HB0.out (Nat.le_refl _)
  have hrow1 := (hN.but.block (W.heap.size + 3) (by have := HSZ.out; omega) (by omega)).trans HROW.out
  have cL := layPatterns_any W V1 (W.heap.size + 1 + 1 + 1) (q0 ra rc rs dflt W.heap.size (W.heap.size + 1) (W.heap.size + 1 + 1)) (.slice none 0 0) (keysR rs) hB1 hrow1 (by omega) hn H8.out HK3.out HR.out hN.names (keysR_le hn H8.out) (fun i h j h2 h3 => keysR_has h h2 h3) (by show W.heap.size + 1 + 1 + 1 ≠ W.heap.size; omega)
  clear hN hB1 hrow1
  go_wp2_with (fail)
  refine cL.mono ?_
  clear cL
  rintro e V2 ⟨rfl, tb, st, tk, htb, hL, hD⟩
  have HL : Hid (LyAt V1 (W.heap.size + 1 + 1 + 1) tb (2 + (keysR rs).length) (q0 ra rc rs dflt W.heap.size (W.heap.size + 1) (W.heap.size + 1 + 1)) (.slice none 0 0) st tk V2) := hL
  have HTB : Hid (V1.heap.size ≤ tb) := htb
  have HD : Hid (LyD rs (keysR rs) st tk) := hD
  have cS := start_any V2 (W.heap.size + 1 + 1 + 1) ra rc rs.length st (hD.lt H8.out).1 hn (AuR_of hL)
  clear htb hL hD
  go_wp2_with (fail)
  refine cS.mono ?_
  clear cS
  rintro e V3 ⟨⟨Y, rfl, hY⟩, hB3⟩
  have HY : Hid (WdY rs.length st (one rs.length) Y) := hY
  have hau := au_laid HR.out hn H8.out (A := W.heap.size + 1 + 1 + 1) rfl ⟨Nat.le_refl _, by omega⟩ ⟨by omega, by omega⟩ ⟨by omega, by omega⟩ (by omega) (by omega) (by omega) HV1.out HN.out HTB.out HL.out HD.out hB3
  have cU := number_any W _ _ [] none 0 _ 0 _ V3 hau Y hY.2.2 (by simp)
  clear hY hB3 hau
  go_wp2_with (fail)
  refine cU.mono ?_
  clear cU
  rintro e V4 ⟨i, sts, sa, sc, nf, rfl, _, hA4, _, hlen, x, hx, hxY⟩
  have HE : Hid (CpSays W rs dflt (.returned (.pointer (some ⟨W.heap.size + 1 + 1 + 1, 0, none⟩))) V4) := by
    refine ⟨_, _, _, _, _, _, _, rfl, ⟨hA4, rfl, rfl, rfl, rfl, HD.out, ?_, by simpa using hlen, x, Y, ?_, HY.out, hxY⟩⟩
    · intro f x l k _ h
      cases h
    · have : i < sts.length := (List.getElem?_eq_some_iff.1 hx).1
      have h0 : i = 0 := by simp at hlen; omega
      rw [← h0]
      exact hx
  clear hA4 hlen hx hxY HL HN HD HY
  go_wp2
  go_ret
  exact HE.out
end Go.Proofs.YtllcbnfmihfaaaaGreatDoor
