import Derived.Test.YtllcbnfmihfaaaaGreatDoorNum
namespace Go.Proofs.YtllcbnfmihfaaaaGreatDoor
open Go.RowKit

def isSp (c : UInt8) : Bool := c.toNat == 32 || (c.toNat == 9 || (c.toNat == 10 || c.toNat == 13))
/-- White space, from place p on: where it ends. -/
def spF (bs : List UInt8) (lim : Int) : Nat → Nat → Except (Int × Int) (Unit × Nat)
  | 0, p => .ok ((), p)
  | g + 1, p => match bs[p]? with
    | none => .ok ((), p)
    | some c => if (p : Int) = lim then .error (8, p) else if isSp c = true then spF bs lim g (p + 1) else .ok ((), p)

set_option maxRecDepth 100000 in
set_option maxHeartbeats 4000000 in
theorem skipSpace_any (W : World) (b : Nat) (s : Src) (h : SrcAt W b s) :
    Calls Tryz.prog 297 #[.agg #[.pointer (some ⟨b, 0, none⟩)]] W (Gives W b s (fun _ : Unit => .tuple #[]) (spF s.bs s.lim (s.bs.length + 1 - s.pos) s.pos)) := by
  have HX0 : Hid (RdAt W b W.heap.size s (W.alloc (.cells #[.pointer (some ⟨b, 0, none⟩)] 198))) := rdAt_mk h
  have hle := h.le
  obtain ⟨R, HR⟩ : ∃ R, Hid (spF s.bs s.lim (s.bs.length + 1 - s.pos) s.pos = R) := ⟨_, show _ = _ from rfl⟩
  rw [HR.out]
  clear h
  go_enter Tryz.func297, Tryz.ntmps297
  go_wp2
  generalize W.alloc (.cells #[.pointer (some ⟨b, 0, none⟩)] 198) = W0 at *
  go_loopg [2] (s.bs.length + 1 - s.pos) (fun g _ wr => ∃ p : Nat, Hid (p + g = s.bs.length + 1) ∧ p ≤ s.bs.length ∧ Hid (RdAt W b W.heap.size { s with pos := p } wr) ∧ Hid (spF s.bs s.lim g p = R))
  case atStart => exact ⟨s.pos, by show _ = _; omega, hle, HX0, HR⟩
  case round =>
    clear HX0 HR
    obtain ⟨p, hg, hp, HX, HR⟩ := hrel
    have kb := HX.out.cell
    obtain ⟨g, rfl⟩ : ∃ g, gk = g + 1 := ⟨gk - 1, by have := hg.out; omega⟩
    rcases src_cases HX.out.src with h1 | h1 | ⟨c, h1⟩
    · have HE : Hid (R = .ok ((), p)) := by
        show _ = _
        rw [← HR.out, spF, List.getElem?_eq_none (by have : p = s.bs.length := h1; omega)]
      have cF := fun (x : Int) (V : World) (hV : SrcAt V b { s with pos := p }) => fol_end x hV h1
      clear h1 HR
      have T1 : True := trivial
      have T2 : True := trivial
      have T3 : True := trivial
      go_wp2_with (first
        | (go_at_call 304; clear T1; refine (cF 32 _ HX.out.src).mono ?_; clear kb; rintro e w2 ⟨rfl, hS, hB⟩; have HX2 : Hid (RdAt W b W.heap.size { s with pos := p } w2) := HX.out.step hS hB; clear HX hS hB; have HX := HX2; clear HX2; have kb := HX.out.cell)
        | (go_at_call 304; clear T2; refine (cF 9 _ HX.out.src).mono ?_; clear kb; rintro e w3 ⟨rfl, hS, hB⟩; have HX2 : Hid (RdAt W b W.heap.size { s with pos := p } w3) := HX.out.step hS hB; clear HX hS hB; have HX := HX2; clear HX2; have kb := HX.out.cell)
        | (go_at_call 304; clear T3; refine (cF 10 _ HX.out.src).mono ?_; clear kb; rintro e w4 ⟨rfl, hS, hB⟩; have HX2 : Hid (RdAt W b W.heap.size { s with pos := p } w4) := HX.out.step hS hB; clear HX hS hB; have HX := HX2; clear HX2; have kb := HX.out.cell)
        | (go_at_call 304; refine (cF 13 _ HX.out.src).mono ?_; clear kb; rintro e w5 ⟨rfl, hS, hB⟩; have HX2 : Hid (RdAt W b W.heap.size { s with pos := p } w5) := HX.out.step hS hB; clear HX hS hB; have HX := HX2; clear HX2; have kb := HX.out.cell))
      go_end0
      rw [HE.out]
      exact ⟨HX.out.but, rfl, HX.out.src⟩
    · have HE : Hid (R = .error (8, (p : Int))) := by
        show _ = _
        have h2 : (p : Int) = s.lim := h1.2
        have h3 : p < s.bs.length := h1.1
        rw [← HR.out, spF, List.getElem?_eq_getElem h3]
        simp [h2]
      have cD := follows_size wr b { s with pos := p } 32 HX.out.src h1
      clear h1 HR
      go_wp2_with (first
        | (go_at_call 304; refine cD.mono ?_; clear cD kb; rintro e w2 ⟨rfl, hB⟩))
      rw [HE.out]
      exact ⟨rfl, HX.out.but.trans (But.of_below hB), rfl⟩
    · have hc1 : s.bs[p]? = some c := h1.1
      have hc2 : ¬ (p : Int) = s.lim := h1.2
      have cF := fun (x : Int) (V : World) (hV : SrcAt V b { s with pos := p }) => fol_byte x hV h1
      have cT : ∀ V, SrcAt V b { s with pos := p } → Calls Tryz.prog 294 #[.pointer (some ⟨b, 0, none⟩)] V fun e W' => e = .returned (.int .u8 c.toNat) ∧ SrcAt W' b { s with pos := p + 1 } ∧ But b V W' := fun V hV => take_byte V b { s with pos := p } c hV h1
      have hplt : p < s.bs.length := h1.lt
      rw [spF, hc1] at HR
      simp only [] at HR
      rw [if_neg hc2] at HR
      clear h1 hc1 hc2
      have T1 : True := trivial
      have T2 : True := trivial
      have T3 : True := trivial
      by_cases hsp : c.toNat = 32 ∨ c.toNat = 9 ∨ c.toNat = 10 ∨ c.toNat = 13
      · have HE : Hid (spF s.bs s.lim g (p + 1) = R) := by
          show _ = _
          rw [← HR.out, if_pos (by unfold isSp; simpa using hsp)]
        clear HR
        rcases hsp with hb | hb | hb | hb
        · have e32 : ((c.toNat : Int) == 32) = true := by simp; omega
          clear hb
          go_wp2_with (first
            | (go_at_call 304; clear T1; refine (cF 32 _ HX.out.src).mono ?_; clear kb; rintro e w2 ⟨rfl, hS, hB⟩; rw [e32]; have HX2 : Hid (RdAt W b W.heap.size { s with pos := p } w2) := HX.out.step hS hB; clear HX hS hB; have HX := HX2; clear HX2; have kb := HX.out.cell)
            | (go_at_call 294; refine (cT _ HX.out.src).mono ?_; clear kb; rintro e w6 ⟨rfl, hS, hB⟩; have HX2 : Hid (RdAt W b W.heap.size { s with pos := p + 1 } w6) := HX.out.step hS hB; clear HX hS hB; have HX := HX2; clear HX2; have kb := HX.out.cell))
          go_roundg g
          case measure => omega
          case rel => exact ⟨p + 1, by show _ = _; have := hg.out; omega, hplt, HX, HE⟩
        · have e32 : ((c.toNat : Int) == 32) = false := by simp; omega
          have e9 : ((c.toNat : Int) == 9) = true := by simp; omega
          clear hb
          go_wp2_with (first
            | (go_at_call 304; clear T1; refine (cF 32 _ HX.out.src).mono ?_; clear kb; rintro e w2 ⟨rfl, hS, hB⟩; rw [e32]; have HX2 : Hid (RdAt W b W.heap.size { s with pos := p } w2) := HX.out.step hS hB; clear HX hS hB; have HX := HX2; clear HX2; have kb := HX.out.cell)
            | (go_at_call 304; clear T2; refine (cF 9 _ HX.out.src).mono ?_; clear kb; rintro e w3 ⟨rfl, hS, hB⟩; rw [e9]; have HX2 : Hid (RdAt W b W.heap.size { s with pos := p } w3) := HX.out.step hS hB; clear HX hS hB; have HX := HX2; clear HX2; have kb := HX.out.cell)
            | (go_at_call 294; refine (cT _ HX.out.src).mono ?_; clear kb; rintro e w6 ⟨rfl, hS, hB⟩; have HX2 : Hid (RdAt W b W.heap.size { s with pos := p + 1 } w6) := HX.out.step hS hB; clear HX hS hB; have HX := HX2; clear HX2; have kb := HX.out.cell))
          go_roundg g
          case measure => omega
          case rel => exact ⟨p + 1, by show _ = _; have := hg.out; omega, hplt, HX, HE⟩
        · have e32 : ((c.toNat : Int) == 32) = false := by simp; omega
          have e9 : ((c.toNat : Int) == 9) = false := by simp; omega
          have e10 : ((c.toNat : Int) == 10) = true := by simp; omega
          clear hb
          go_wp2_with (first
            | (go_at_call 304; clear T1; refine (cF 32 _ HX.out.src).mono ?_; clear kb; rintro e w2 ⟨rfl, hS, hB⟩; rw [e32]; have HX2 : Hid (RdAt W b W.heap.size { s with pos := p } w2) := HX.out.step hS hB; clear HX hS hB; have HX := HX2; clear HX2; have kb := HX.out.cell)
            | (go_at_call 304; clear T2; refine (cF 9 _ HX.out.src).mono ?_; clear kb; rintro e w3 ⟨rfl, hS, hB⟩; rw [e9]; have HX2 : Hid (RdAt W b W.heap.size { s with pos := p } w3) := HX.out.step hS hB; clear HX hS hB; have HX := HX2; clear HX2; have kb := HX.out.cell)
            | (go_at_call 304; clear T3; refine (cF 10 _ HX.out.src).mono ?_; clear kb; rintro e w4 ⟨rfl, hS, hB⟩; rw [e10]; have HX2 : Hid (RdAt W b W.heap.size { s with pos := p } w4) := HX.out.step hS hB; clear HX hS hB; have HX := HX2; clear HX2; have kb := HX.out.cell)
            | (go_at_call 294; refine (cT _ HX.out.src).mono ?_; clear kb; rintro e w6 ⟨rfl, hS, hB⟩; have HX2 : Hid (RdAt W b W.heap.size { s with pos := p + 1 } w6) := HX.out.step hS hB; clear HX hS hB; have HX := HX2; clear HX2; have kb := HX.out.cell))
          go_roundg g
          case measure => omega
          case rel => exact ⟨p + 1, by show _ = _; have := hg.out; omega, hplt, HX, HE⟩
        · have e32 : ((c.toNat : Int) == 32) = false := by simp; omega
          have e9 : ((c.toNat : Int) == 9) = false := by simp; omega
          have e10 : ((c.toNat : Int) == 10) = false := by simp; omega
          have e13 : ((c.toNat : Int) == 13) = true := by simp; omega
          clear hb
          go_wp2_with (first
            | (go_at_call 304; clear T1; refine (cF 32 _ HX.out.src).mono ?_; clear kb; rintro e w2 ⟨rfl, hS, hB⟩; rw [e32]; have HX2 : Hid (RdAt W b W.heap.size { s with pos := p } w2) := HX.out.step hS hB; clear HX hS hB; have HX := HX2; clear HX2; have kb := HX.out.cell)
            | (go_at_call 304; clear T2; refine (cF 9 _ HX.out.src).mono ?_; clear kb; rintro e w3 ⟨rfl, hS, hB⟩; rw [e9]; have HX2 : Hid (RdAt W b W.heap.size { s with pos := p } w3) := HX.out.step hS hB; clear HX hS hB; have HX := HX2; clear HX2; have kb := HX.out.cell)
            | (go_at_call 304; clear T3; refine (cF 10 _ HX.out.src).mono ?_; clear kb; rintro e w4 ⟨rfl, hS, hB⟩; rw [e10]; have HX2 : Hid (RdAt W b W.heap.size { s with pos := p } w4) := HX.out.step hS hB; clear HX hS hB; have HX := HX2; clear HX2; have kb := HX.out.cell)
            | (go_at_call 304; refine (cF 13 _ HX.out.src).mono ?_; clear kb; rintro e w5 ⟨rfl, hS, hB⟩; rw [e13]; have HX2 : Hid (RdAt W b W.heap.size { s with pos := p } w5) := HX.out.step hS hB; clear HX hS hB; have HX := HX2; clear HX2; have kb := HX.out.cell)
            | (go_at_call 294; refine (cT _ HX.out.src).mono ?_; clear kb; rintro e w6 ⟨rfl, hS, hB⟩; have HX2 : Hid (RdAt W b W.heap.size { s with pos := p + 1 } w6) := HX.out.step hS hB; clear HX hS hB; have HX := HX2; clear HX2; have kb := HX.out.cell))
          go_roundg g
          case measure => omega
          case rel => exact ⟨p + 1, by show _ = _; have := hg.out; omega, hplt, HX, HE⟩
      · have HE : Hid (R = .ok ((), p)) := by
          show _ = _
          rw [← HR.out, if_neg (by unfold isSp; simpa using hsp)]
        clear HR
        have e32 : ((c.toNat : Int) == 32) = false := by simp; omega
        have e9 : ((c.toNat : Int) == 9) = false := by simp; omega
        have e10 : ((c.toNat : Int) == 10) = false := by simp; omega
        have e13 : ((c.toNat : Int) == 13) = false := by simp; omega
        clear hsp
        go_wp2_with (first
          | (go_at_call 304; clear T1; refine (cF 32 _ HX.out.src).mono ?_; clear kb; rintro e w2 ⟨rfl, hS, hB⟩; rw [e32]; have HX2 : Hid (RdAt W b W.heap.size { s with pos := p } w2) := HX.out.step hS hB; clear HX hS hB; have HX := HX2; clear HX2; have kb := HX.out.cell)
          | (go_at_call 304; clear T2; refine (cF 9 _ HX.out.src).mono ?_; clear kb; rintro e w3 ⟨rfl, hS, hB⟩; rw [e9]; have HX2 : Hid (RdAt W b W.heap.size { s with pos := p } w3) := HX.out.step hS hB; clear HX hS hB; have HX := HX2; clear HX2; have kb := HX.out.cell)
          | (go_at_call 304; clear T3; refine (cF 10 _ HX.out.src).mono ?_; clear kb; rintro e w4 ⟨rfl, hS, hB⟩; rw [e10]; have HX2 : Hid (RdAt W b W.heap.size { s with pos := p } w4) := HX.out.step hS hB; clear HX hS hB; have HX := HX2; clear HX2; have kb := HX.out.cell)
          | (go_at_call 304; refine (cF 13 _ HX.out.src).mono ?_; clear kb; rintro e w5 ⟨rfl, hS, hB⟩; rw [e13]; have HX2 : Hid (RdAt W b W.heap.size { s with pos := p } w5) := HX.out.step hS hB; clear HX hS hB; have HX := HX2; clear HX2; have kb := HX.out.cell))
        go_end0
        rw [HE.out]
        exact ⟨HX.out.but, rfl, HX.out.src⟩
end Go.Proofs.YtllcbnfmihfaaaaGreatDoor
