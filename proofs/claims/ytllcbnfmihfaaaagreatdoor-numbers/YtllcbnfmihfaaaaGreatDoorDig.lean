import Derived.Test.YtllcbnfmihfaaaaGreatDoorSrcB
namespace Go.Proofs.YtllcbnfmihfaaaaGreatDoor
open Go.RowKit

def isDig (c : UInt8) : Bool := decide (48 ≤ (c.toNat : Int) ∧ (c.toNat : Int) ≤ 57)
/-- The digits of a number, from place p on: the number and where it ends, or the error and its place. -/
def digF (bs : List UInt8) (lim : Int) (most : Nat) (z : Bool) : Nat → Nat → Nat → Except (Int × Int) (Nat × Nat)
  | 0, p, num => .ok (num, p)
  | g + 1, p, num => match bs[p]? with
    | none => .ok (num, p)
    | some c => if (p : Int) = lim then .error (8, p) else
      if isDig c = true then (if z = true then .error (9, p) else if (most - (c.toNat - 48)) / 10 < num then .error (10, p) else digF bs lim most z g (p + 1) (num * 10 + (c.toNat - 48)))
      else if c.toNat = 46 ∨ c.toNat = 101 ∨ c.toNat = 69 then .error (10, p) else .ok (num, p)

/-- How a reading ends that gives back a value. -/
def Gives {α : Type} (W : World) (b : Nat) (s : Src) (val : α → Value) (r : Except (Int × Int) (α × Nat)) (e : Ending) (W' : World) : Prop :=
  But b W W' ∧ match r with
  | .ok (x, p) => e = .returned (val x) ∧ SrcAt W' b { s with pos := p }
  | .error (en, pl) => Fails en pl e

/-- What a method of a reader stands on: the source, its own box of the reader at N. -/
structure RdAt (W0 : World) (b N : Nat) (s : Src) (W : World) : Prop where
  src : SrcAt W b s
  but : But b W0 W
  box : W.heap[N]? = some (.cells #[.pointer (some ⟨b, 0, none⟩)] 198)
  ne : N ≠ b
theorem RdAt.step {W0 : World} {b N : Nat} {s s' : Src} {W W' : World} (h : RdAt W0 b N s W) (hs : SrcAt W' b s') (hb : But b W W') : RdAt W0 b N s' W' :=
  ⟨hs, h.but.trans hb, (hb.block _ (Array.getElem?_eq_some_iff.1 h.box).1 h.ne).trans h.box, h.ne⟩
theorem RdAt.cell {W0 : World} {b N : Nat} {s : Src} {W : World} (h : RdAt W0 b N s W) : W.cell? ⟨N, 0, none⟩ = some (.pointer (some ⟨b, 0, none⟩)) := cellOfHeap h.box 0
theorem rdAt_mk {W : World} {b : Nat} {s : Src} (h : SrcAt W b s) : RdAt W b W.heap.size s (W.alloc (.cells #[.pointer (some ⟨b, 0, none⟩)] 198)) :=
  ⟨h.below ((Below.refl _ _).alloc (Nat.le_refl _) _), But.of_below ((Below.refl _ _).alloc (Nat.le_refl _) _), heap_new _ _, by have := (Array.getElem?_eq_some_iff.1 h.row).1; omega⟩

theorem fol_end {W : World} {b : Nat} {s : Src} (x : Int) (h : SrcAt W b s) (h1 : Ends s) : Calls Tryz.prog 304 #[.pointer (some ⟨b, 0, none⟩), .int .u8 x] W fun e W' => e = .returned (.bool false) ∧ SrcAt W' b s ∧ But b W W' :=
  (follows_end W b s x h h1).mono fun _ _ ⟨he, n, hw⟩ => ⟨he, hw ▸ h.drewN n, hw ▸ But.of_below (below_drewN' W n)⟩
theorem fol_byte {W : World} {b : Nat} {s : Src} {c : UInt8} (x : Int) (h : SrcAt W b s) (h1 : Here s c) : Calls Tryz.prog 304 #[.pointer (some ⟨b, 0, none⟩), .int .u8 x] W fun e W' => e = .returned (.bool ((c.toNat : Int) == x)) ∧ SrcAt W' b s ∧ But b W W' :=
  (follows_byte W b s c x h h1).mono fun _ _ ⟨he, n, hw⟩ => ⟨he, hw ▸ h.drewN n, hw ▸ But.of_below (below_drewN' W n)⟩
theorem dig_end {W : World} {b : Nat} {s : Src} (h : SrcAt W b s) (h1 : Ends s) : Calls Tryz.prog 319 #[.pointer (some ⟨b, 0, none⟩)] W fun e W' => e = .returned (.bool false) ∧ SrcAt W' b s ∧ But b W W' :=
  (digitFollows_end W b s h h1).mono fun _ _ ⟨he, n, hw⟩ => ⟨he, hw ▸ h.drewN n, hw ▸ But.of_below (below_drewN' W n)⟩
theorem dig_byte {W : World} {b : Nat} {s : Src} {c : UInt8} (h : SrcAt W b s) (h1 : Here s c) : Calls Tryz.prog 319 #[.pointer (some ⟨b, 0, none⟩)] W fun e W' => e = .returned (.bool (isDig c)) ∧ SrcAt W' b s ∧ But b W W' :=
  (digitFollows_byte W b s c h h1).mono fun _ _ ⟨he, n, hw⟩ => ⟨he, hw ▸ h.drewN n, hw ▸ But.of_below (below_drewN' W n)⟩

set_option maxRecDepth 100000 in
set_option maxHeartbeats 4000000 in
theorem readDigits_any (W : World) (b : Nat) (s : Src) (first : UInt8) (most : Nat) (h : SrcAt W b s) (hm : most = 9223372036854775807 ∨ most = 9223372036854775808) (hf : 48 ≤ first.toNat ∧ first.toNat ≤ 57) :
    Calls Tryz.prog 313 #[.agg #[.pointer (some ⟨b, 0, none⟩)], .int .u8 first.toNat, .int .u64 most] W
      (Gives W b s (fun x : Nat => .int .u64 x) (digF s.bs s.lim most (first.toNat == 48) (s.bs.length + 1 - s.pos) s.pos (first.toNat - 48))) := by
  have HX0 : Hid (RdAt W b W.heap.size s (W.alloc (.cells #[.pointer (some ⟨b, 0, none⟩)] 198))) := rdAt_mk h
  have hle := h.le
  have hlen := h.len
  unfold maxLen at hlen
  have hf1 := hf.1
  have hf2 := hf.2
  obtain ⟨R, HR⟩ : ∃ R, Hid (digF s.bs s.lim most (first.toNat == 48) (s.bs.length + 1 - s.pos) s.pos (first.toNat - 48) = R) := ⟨_, show _ = _ from rfl⟩
  rw [HR.out]
  clear h hf
  go_enter Tryz.func313, Tryz.ntmps313
  go_wp2
  generalize W.alloc (.cells #[.pointer (some ⟨b, 0, none⟩)] 198) = W0 at *
  go_loopg [7, 8] (s.bs.length + 1 - s.pos) (fun g x _ wr => ∃ p num : Nat, x = .int .u64 num ∧ Hid (p + g = s.bs.length + 1) ∧ p ≤ s.bs.length ∧ num ≤ most ∧ Hid (RdAt W b W.heap.size { s with pos := p } wr) ∧ Hid (digF s.bs s.lim most (first.toNat == 48) g p num = R))
  case atStart => exact ⟨s.pos, first.toNat - 48, by go_num, by show _ = _; omega, hle, by omega, HX0, HR⟩
  case round =>
    clear HX0 HR
    obtain ⟨p, num, rfl, hg, hp, hnum, HX, HR⟩ := hrel
    have kb := HX.out.cell
    obtain ⟨g, rfl⟩ : ∃ g, gk = g + 1 := ⟨gk - 1, by have := hg.out; omega⟩
    rcases src_cases HX.out.src with h1 | h1 | ⟨c, h1⟩
    · have HE : Hid (R = .ok (num, p)) := by
        show _ = _
        rw [← HR.out, digF, List.getElem?_eq_none (by have : p = s.bs.length := h1; omega)]
      have cD := dig_end HX.out.src h1
      have cF := fun (x : Int) (V : World) (hV : SrcAt V b { s with pos := p }) => fol_end x hV h1
      clear h1 HR
      have T1 : True := trivial
      have T2 : True := trivial
      go_wp2_with (first
        | (go_at_call 319; refine cD.mono ?_; clear cD kb; rintro e w2 ⟨rfl, hS, hB⟩; have HX2 : Hid (RdAt W b W.heap.size { s with pos := p } w2) := HX.out.step hS hB; clear HX hS hB; have HX := HX2; clear HX2; have kb := HX.out.cell)
        | (go_at_call 304; clear T1; refine (cF 46 _ HX.out.src).mono ?_; clear kb; rintro e w3 ⟨rfl, hS, hB⟩; have HX2 : Hid (RdAt W b W.heap.size { s with pos := p } w3) := HX.out.step hS hB; clear HX hS hB; have HX := HX2; clear HX2; have kb := HX.out.cell)
        | (go_at_call 304; clear T2; refine (cF 101 _ HX.out.src).mono ?_; clear kb; rintro e w4 ⟨rfl, hS, hB⟩; have HX2 : Hid (RdAt W b W.heap.size { s with pos := p } w4) := HX.out.step hS hB; clear HX hS hB; have HX := HX2; clear HX2; have kb := HX.out.cell)
        | (go_at_call 304; refine (cF 69 _ HX.out.src).mono ?_; clear kb; rintro e w5 ⟨rfl, hS, hB⟩; have HX2 : Hid (RdAt W b W.heap.size { s with pos := p } w5) := HX.out.step hS hB; clear HX hS hB; have HX := HX2; clear HX2; have kb := HX.out.cell))
      go_ret
      rw [HE.out]
      exact ⟨HX.out.but, rfl, HX.out.src⟩
    · have HE : Hid (R = .error (8, (p : Int))) := by
        show _ = _
        have h2 : (p : Int) = s.lim := h1.2
        have h3 : p < s.bs.length := h1.1
        rw [← HR.out, digF, List.getElem?_eq_getElem h3]
        simp [h2]
      have cD := digitFollows_size wr b { s with pos := p } HX.out.src h1
      clear h1 HR
      go_wp2_with (first
        | (go_at_call 319; refine cD.mono ?_; clear cD kb; rintro e w2 ⟨rfl, hB⟩))
      rw [HE.out]
      exact ⟨rfl, HX.out.but.trans (But.of_below hB), rfl⟩
    · have hc1 : s.bs[p]? = some c := h1.1
      have hc2 : ¬ (p : Int) = s.lim := h1.2
      have cD := dig_byte HX.out.src h1
      have cF := fun (x : Int) (V : World) (hV : SrcAt V b { s with pos := p }) => fol_byte x hV h1
      have cT : ∀ V, SrcAt V b { s with pos := p } → Calls Tryz.prog 294 #[.pointer (some ⟨b, 0, none⟩)] V fun e W' => e = .returned (.int .u8 c.toNat) ∧ SrcAt W' b { s with pos := p + 1 } ∧ But b V W' := fun V hV => take_byte V b { s with pos := p } c hV h1
      have hplt : p < s.bs.length := h1.lt
      rw [digF, hc1] at HR
      simp only [] at HR
      rw [if_neg hc2] at HR
      clear h1 hc1 hc2
      cases hd : isDig c
      · rw [hd] at cD HR
        rw [if_neg (by simp)] at HR
        clear hd
        have T1 : True := trivial
        have T2 : True := trivial
        by_cases hb : c.toNat = 46 ∨ c.toNat = 101 ∨ c.toNat = 69
        · have HE : Hid (R = .error (10, (p : Int))) := by show _ = _; rw [← HR.out, if_pos hb]
          clear HR
          rcases hb with hb | hb | hb
          · have e46 : ((c.toNat : Int) == 46) = true := by simp; omega
            clear hb
            go_wp2_with (first
              | (go_at_call 319; refine cD.mono ?_; clear cD kb; rintro e w2 ⟨rfl, hS, hB⟩; have HX2 : Hid (RdAt W b W.heap.size { s with pos := p } w2) := HX.out.step hS hB; clear HX hS hB; have HX := HX2; clear HX2; have kb := HX.out.cell)
              | (go_at_call 304; clear T1; refine (cF 46 _ HX.out.src).mono ?_; clear kb; rintro e w3 ⟨rfl, hS, hB⟩; rw [e46]; have HX2 : Hid (RdAt W b W.heap.size { s with pos := p } w3) := HX.out.step hS hB; clear HX hS hB; have HX := HX2; clear HX2; have kb := HX.out.cell)
              | (go_at_call 294; refine (cT _ HX.out.src).mono ?_; clear kb; rintro e w6 ⟨rfl, hS, hB⟩; have HX2 : Hid (RdAt W b W.heap.size { s with pos := p + 1 } w6) := HX.out.step hS hB; clear HX hS hB; have HX := HX2; clear HX2; have kb := HX.out.cell; have cU := fun (en : Int) => refuse_any w6 b { s with pos := p + 1 } en HX.out.src)
              | (go_at_call 295; refine (cU _).mono ?_; clear cU kb; rintro e w7 ⟨hF, rfl⟩; obtain rfl := hF))
            rw [HE.out]
            exact ⟨rfl, HX.out.but, by show Fails _ _ _; unfold Fails failV; simp⟩
          · have e46 : ((c.toNat : Int) == 46) = false := by simp; omega
            have e101 : ((c.toNat : Int) == 101) = true := by simp; omega
            clear hb
            go_wp2_with (first
              | (go_at_call 319; refine cD.mono ?_; clear cD kb; rintro e w2 ⟨rfl, hS, hB⟩; have HX2 : Hid (RdAt W b W.heap.size { s with pos := p } w2) := HX.out.step hS hB; clear HX hS hB; have HX := HX2; clear HX2; have kb := HX.out.cell)
              | (go_at_call 304; clear T1; refine (cF 46 _ HX.out.src).mono ?_; clear kb; rintro e w3 ⟨rfl, hS, hB⟩; rw [e46]; have HX2 : Hid (RdAt W b W.heap.size { s with pos := p } w3) := HX.out.step hS hB; clear HX hS hB; have HX := HX2; clear HX2; have kb := HX.out.cell)
              | (go_at_call 304; clear T2; refine (cF 101 _ HX.out.src).mono ?_; clear kb; rintro e w4 ⟨rfl, hS, hB⟩; rw [e101]; have HX2 : Hid (RdAt W b W.heap.size { s with pos := p } w4) := HX.out.step hS hB; clear HX hS hB; have HX := HX2; clear HX2; have kb := HX.out.cell)
              | (go_at_call 294; refine (cT _ HX.out.src).mono ?_; clear kb; rintro e w6 ⟨rfl, hS, hB⟩; have HX2 : Hid (RdAt W b W.heap.size { s with pos := p + 1 } w6) := HX.out.step hS hB; clear HX hS hB; have HX := HX2; clear HX2; have kb := HX.out.cell; have cU := fun (en : Int) => refuse_any w6 b { s with pos := p + 1 } en HX.out.src)
              | (go_at_call 295; refine (cU _).mono ?_; clear cU kb; rintro e w7 ⟨hF, rfl⟩; obtain rfl := hF))
            rw [HE.out]
            exact ⟨rfl, HX.out.but, by show Fails _ _ _; unfold Fails failV; simp⟩
          · have e46 : ((c.toNat : Int) == 46) = false := by simp; omega
            have e101 : ((c.toNat : Int) == 101) = false := by simp; omega
            have e69 : ((c.toNat : Int) == 69) = true := by simp; omega
            clear hb
            go_wp2_with (first
              | (go_at_call 319; refine cD.mono ?_; clear cD kb; rintro e w2 ⟨rfl, hS, hB⟩; have HX2 : Hid (RdAt W b W.heap.size { s with pos := p } w2) := HX.out.step hS hB; clear HX hS hB; have HX := HX2; clear HX2; have kb := HX.out.cell)
              | (go_at_call 304; clear T1; refine (cF 46 _ HX.out.src).mono ?_; clear kb; rintro e w3 ⟨rfl, hS, hB⟩; rw [e46]; have HX2 : Hid (RdAt W b W.heap.size { s with pos := p } w3) := HX.out.step hS hB; clear HX hS hB; have HX := HX2; clear HX2; have kb := HX.out.cell)
              | (go_at_call 304; clear T2; refine (cF 101 _ HX.out.src).mono ?_; clear kb; rintro e w4 ⟨rfl, hS, hB⟩; rw [e101]; have HX2 : Hid (RdAt W b W.heap.size { s with pos := p } w4) := HX.out.step hS hB; clear HX hS hB; have HX := HX2; clear HX2; have kb := HX.out.cell)
              | (go_at_call 304; refine (cF 69 _ HX.out.src).mono ?_; clear kb; rintro e w5 ⟨rfl, hS, hB⟩; rw [e69]; have HX2 : Hid (RdAt W b W.heap.size { s with pos := p } w5) := HX.out.step hS hB; clear HX hS hB; have HX := HX2; clear HX2; have kb := HX.out.cell)
              | (go_at_call 294; refine (cT _ HX.out.src).mono ?_; clear kb; rintro e w6 ⟨rfl, hS, hB⟩; have HX2 : Hid (RdAt W b W.heap.size { s with pos := p + 1 } w6) := HX.out.step hS hB; clear HX hS hB; have HX := HX2; clear HX2; have kb := HX.out.cell; have cU := fun (en : Int) => refuse_any w6 b { s with pos := p + 1 } en HX.out.src)
              | (go_at_call 295; refine (cU _).mono ?_; clear cU kb; rintro e w7 ⟨hF, rfl⟩; obtain rfl := hF))
            rw [HE.out]
            exact ⟨rfl, HX.out.but, by show Fails _ _ _; unfold Fails failV; simp⟩
        · have HE : Hid (R = .ok (num, p)) := by show _ = _; rw [← HR.out, if_neg hb]
          clear HR cT
          have e46 : ((c.toNat : Int) == 46) = false := by simp; omega
          have e101 : ((c.toNat : Int) == 101) = false := by simp; omega
          have e69 : ((c.toNat : Int) == 69) = false := by simp; omega
          clear hb
          go_wp2_with (first
            | (go_at_call 319; refine cD.mono ?_; clear cD kb; rintro e w2 ⟨rfl, hS, hB⟩; have HX2 : Hid (RdAt W b W.heap.size { s with pos := p } w2) := HX.out.step hS hB; clear HX hS hB; have HX := HX2; clear HX2; have kb := HX.out.cell)
            | (go_at_call 304; clear T1; refine (cF 46 _ HX.out.src).mono ?_; clear kb; rintro e w3 ⟨rfl, hS, hB⟩; rw [e46]; have HX2 : Hid (RdAt W b W.heap.size { s with pos := p } w3) := HX.out.step hS hB; clear HX hS hB; have HX := HX2; clear HX2; have kb := HX.out.cell)
            | (go_at_call 304; clear T2; refine (cF 101 _ HX.out.src).mono ?_; clear kb; rintro e w4 ⟨rfl, hS, hB⟩; rw [e101]; have HX2 : Hid (RdAt W b W.heap.size { s with pos := p } w4) := HX.out.step hS hB; clear HX hS hB; have HX := HX2; clear HX2; have kb := HX.out.cell)
            | (go_at_call 304; refine (cF 69 _ HX.out.src).mono ?_; clear kb; rintro e w5 ⟨rfl, hS, hB⟩; rw [e69]; have HX2 : Hid (RdAt W b W.heap.size { s with pos := p } w5) := HX.out.step hS hB; clear HX hS hB; have HX := HX2; clear HX2; have kb := HX.out.cell))
          go_ret
          rw [HE.out]
          exact ⟨HX.out.but, rfl, HX.out.src⟩
      · rw [hd] at cD HR
        rw [if_pos rfl] at HR
        have hdd : 48 ≤ (c.toNat : Int) ∧ (c.toNat : Int) ≤ 57 := of_decide_eq_true hd
        have hd1 := hdd.1
        have hd2 := hdd.2
        clear hd hdd
        by_cases hz : (first.toNat : Int) = 48
        · have HE : Hid (R = .error (9, (p : Int))) := by
            show _ = _
            rw [← HR.out, if_pos (by simp; omega)]
          clear HR cF
          go_wp2_with (first
            | (go_at_call 319; refine cD.mono ?_; clear cD kb; rintro e w2 ⟨rfl, hS, hB⟩; have HX2 : Hid (RdAt W b W.heap.size { s with pos := p } w2) := HX.out.step hS hB; clear HX hS hB; have HX := HX2; clear HX2; have kb := HX.out.cell)
            | (go_at_call 294; refine (cT _ HX.out.src).mono ?_; clear kb; rintro e w6 ⟨rfl, hS, hB⟩; have HX2 : Hid (RdAt W b W.heap.size { s with pos := p + 1 } w6) := HX.out.step hS hB; clear HX hS hB; have HX := HX2; clear HX2; have kb := HX.out.cell; have cU := fun (en : Int) => refuse_any w6 b { s with pos := p + 1 } en HX.out.src)
            | (go_at_call 295; refine (cU _).mono ?_; clear cU kb; rintro e w7 ⟨hF, rfl⟩; obtain rfl := hF))
          rw [HE.out]
          exact ⟨rfl, HX.out.but, by show Fails _ _ _; unfold Fails failV; simp⟩
        · have HR2 : Hid ((if (most - (c.toNat - 48)) / 10 < num then Except.error (10, (p : Int)) else digF s.bs s.lim most (first.toNat == 48) g (p + 1) (num * 10 + (c.toNat - 48))) = R) := by
            have e := HR.out
            rw [if_neg (show ¬ (first.toNat == 48) = true by simp; omega)] at e
            exact e
          clear HR cF
          by_cases hov : (most - (c.toNat - 48)) / 10 < num
          · have HE : Hid (R = .error (10, (p : Int))) := by
              show _ = _
              rw [← HR2.out, if_pos hov]
            go_wp2_with (first
              | (go_at_call 319; refine cD.mono ?_; clear cD kb; rintro e w2 ⟨rfl, hS, hB⟩; have HX2 : Hid (RdAt W b W.heap.size { s with pos := p } w2) := HX.out.step hS hB; clear HX hS hB; have HX := HX2; clear HX2; have kb := HX.out.cell)
              | (go_at_call 294; refine (cT _ HX.out.src).mono ?_; clear kb; rintro e w6 ⟨rfl, hS, hB⟩; have HX2 : Hid (RdAt W b W.heap.size { s with pos := p + 1 } w6) := HX.out.step hS hB; clear HX hS hB; have HX := HX2; clear HX2; have kb := HX.out.cell; have cU := fun (en : Int) => refuse_any w6 b { s with pos := p + 1 } en HX.out.src)
              | (go_at_call 295; refine (cU _).mono ?_; clear cU kb; rintro e w7 ⟨hF, rfl⟩; obtain rfl := hF))
            rw [HE.out]
            exact ⟨rfl, HX.out.but, rfl⟩
          · have HE : Hid (digF s.bs s.lim most (first.toNat == 48) g (p + 1) (num * 10 + (c.toNat - 48)) = R) := by
              show _ = _
              rw [← HR2.out, if_neg hov]
            go_wp2_with (first
              | (go_at_call 319; refine cD.mono ?_; clear cD kb; rintro e w2 ⟨rfl, hS, hB⟩; have HX2 : Hid (RdAt W b W.heap.size { s with pos := p } w2) := HX.out.step hS hB; clear HX hS hB; have HX := HX2; clear HX2; have kb := HX.out.cell)
              | (go_at_call 294; refine (cT _ HX.out.src).mono ?_; clear kb; rintro e w6 ⟨rfl, hS, hB⟩; have HX2 : Hid (RdAt W b W.heap.size { s with pos := p + 1 } w6) := HX.out.step hS hB; clear HX hS hB; have HX := HX2; clear HX2; have kb := HX.out.cell; have cU := fun (en : Int) => refuse_any w6 b { s with pos := p + 1 } en HX.out.src)
              | (go_at_call 295; refine (cU _).mono ?_; clear cU kb; rintro e w7 ⟨hF, rfl⟩; obtain rfl := hF))
            go_roundg g
            case measure => omega
            case rel => exact ⟨p + 1, num * 10 + (c.toNat - 48), by go_num, by show _ = _; have := hg.out; omega, hplt, by omega, HX, HE⟩
end Go.Proofs.YtllcbnfmihfaaaaGreatDoor
