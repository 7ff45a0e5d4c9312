import Derived.Test.YtllcbnfmihfaaaaGreatDoorSpc
namespace Go.Proofs.YtllcbnfmihfaaaaGreatDoor
open Go.RowKit

/-- Behind the document. -/
def endF (s : Src) : Except (Int × Int) (Unit × Nat) :=
  match s.bs[s.pos]? with
  | none => .ok ((), s.pos)
  | some _ => if (s.pos : Int) = s.lim then .error (8, s.pos) else .error (9, s.pos)

set_option maxRecDepth 100000 in
set_option maxHeartbeats 4000000 in
theorem readEnd_any (W : World) (b : Nat) (s : Src) (h : SrcAt W b s) :
    Calls Tryz.prog 290 #[.pointer (some ⟨b, 0, none⟩)] W (Gives W b s (fun _ : Unit => .tuple #[]) (endF s)) := by
  obtain ⟨R, HR⟩ : ∃ R, Hid (endF s = R) := ⟨_, show _ = _ from rfl⟩
  rw [HR.out]
  have hr := HR.out
  unfold endF at hr
  rcases src_cases h with h1 | h1 | ⟨c, h1⟩
  · have HE : Hid (R = .ok ((), s.pos)) := by
      show _ = _
      rw [List.getElem?_eq_none (by have : s.pos = s.bs.length := h1; omega)] at hr
      exact hr.symm
    have cM := more_end W b s h h1
    have HS : Hid (SrcAt W b s) := h
    clear hr HR h h1
    go_enter Tryz.func290, Tryz.ntmps290
    go_wp2_with (first
      | (go_at_call 293; refine cM.mono ?_; clear cM; rintro e w2 ⟨rfl, n, rfl⟩))
    go_end0
    rw [HE.out]
    exact ⟨But.of_below (below_drewN' W n), rfl, HS.out.drewN n⟩
  · have HE : Hid (R = .error (8, (s.pos : Int))) := by
      show _ = _
      rw [List.getElem?_eq_getElem h1.1] at hr
      simp only [] at hr
      rw [if_pos h1.2] at hr
      exact hr.symm
    have cM := more_size W b s h h1.1 h1.2
    clear hr HR h h1
    go_enter Tryz.func290, Tryz.ntmps290
    go_wp2_with (first
      | (go_at_call 293; refine cM.mono ?_; clear cM; rintro e w2 ⟨hF, n, rfl⟩; obtain rfl := hF))
    rw [HE.out]
    exact ⟨rfl, But.of_below (below_drewN' W n), rfl⟩
  · have HE : Hid (R = .error (9, (s.pos : Int))) := by
      show _ = _
      rw [h1.1] at hr
      simp only [] at hr
      rw [if_neg h1.2] at hr
      exact hr.symm
    have cM := more_byte W b s h h1.lt h1.2
    have cT := fun V (hV : SrcAt V b s) => take_byte V b s c hV h1
    have HS : Hid (SrcAt W b s) := h
    have hlt := h1.lt
    have hm := h.len
    unfold maxLen at hm
    clear hr HR h h1
    go_enter Tryz.func290, Tryz.ntmps290
    go_wp2_with (first
      | (go_at_call 293; refine cM.mono ?_; clear cM; rintro e w2 ⟨rfl, n, rfl⟩; have HS2 : Hid (SrcAt (W.drewN n) b s) := HS.out.drewN n)
      | (go_at_call 294; refine (cT _ HS2.out).mono ?_; rintro e w3 ⟨rfl, hS3, hB3⟩; have HS3 : Hid (SrcAt w3 b s.next) := hS3; have HB3 : Hid (But b (W.drewN n) w3) := hB3; clear hS3 hB3)
      | (go_at_call 295; refine (refuse_any _ b s.next _ HS3.out).mono ?_; rintro e w7 ⟨hF, rfl⟩; obtain rfl := hF))
    rw [HE.out]
    exact ⟨rfl, (But.of_below (below_drewN' W n)).trans HB3.out, by show Fails _ _ _; unfold Fails failV Src.next; simp⟩

/-- Numbers as things. -/
def thNum (z : Int) : Value := .iface 279 (.int .i64 z)

set_option maxRecDepth 100000 in
set_option maxHeartbeats 4000000 in
theorem readThing_num (W : World) (b : Nat) (s : Src) (c : UInt8) (h : SrcAt W b s) (h1 : Here s c) (hc : c.toNat = 45 ∨ isDig c = true) :
    Calls Tryz.prog 296 #[.agg #[.pointer (some ⟨b, 0, none⟩)]] W (Gives W b s thNum (numF s.next c)) := by
  have HX0 : Hid (RdAt W b W.heap.size s (W.alloc (.cells #[.pointer (some ⟨b, 0, none⟩)] 198))) := rdAt_mk h
  have kb := HX0.out.cell
  have cT := take_byte _ b s c HX0.out.src h1
  have cN := fun V (hV : SrcAt V b s.next) => readNumber_any V b s.next c hV hc
  obtain ⟨R, HR⟩ : ∃ R, Hid (numF s.next c = R) := ⟨_, show _ = _ from rfl⟩
  rw [HR.out]
  have cN2 : ∀ V, SrcAt V b s.next → Calls Tryz.prog 303 #[.agg #[.pointer (some ⟨b, 0, none⟩)], .int .u8 c.toNat] V (Gives V b s.next (fun z : Int => .int .i64 z) R) := by rw [← HR.out]; exact cN
  have hrange : (c.toNat : Int) = 45 ∨ (48 ≤ (c.toNat : Int) ∧ (c.toNat : Int) ≤ 57) := by
    rcases hc with hc | hc
    · left; omega
    · right; exact of_decide_eq_true hc
  have n1 : ¬ (c.toNat : Int) = 110 := by omega
  have n2 : ¬ (c.toNat : Int) = 116 := by omega
  have n3 : ¬ (c.toNat : Int) = 102 := by omega
  have n4 : ¬ (c.toNat : Int) = 34 := by omega
  have n5 : ¬ (c.toNat : Int) = 91 := by omega
  have n6 : ¬ (c.toNat : Int) = 123 := by omega
  clear cN HR hc h1 h
  have e1 : ((c.toNat : Int) == 110) = false := beq_eq_false_iff_ne.2 n1
  have e2 : ((c.toNat : Int) == 116) = false := beq_eq_false_iff_ne.2 n2
  have e3 : ((c.toNat : Int) == 102) = false := beq_eq_false_iff_ne.2 n3
  have e4 : ((c.toNat : Int) == 34) = false := beq_eq_false_iff_ne.2 n4
  have e5 : ((c.toNat : Int) == 91) = false := beq_eq_false_iff_ne.2 n5
  have e6 : ((c.toNat : Int) == 123) = false := beq_eq_false_iff_ne.2 n6
  clear n1 n2 n3 n4 n5 n6
  rcases hrange with hr | hr
  · have e7 : ((c.toNat : Int) == 45) = true := beq_iff_eq.2 hr
    clear hr
    rcases hR2 : R with ⟨en, pl⟩ | ⟨z, q⟩
    · have HE : Hid (R = .error (en, pl)) := hR2
      rw [hR2] at cN2
      clear hR2
      go_enter Tryz.func296, Tryz.ntmps296
      go_wp2_with (first
        | (go_at_call 294; refine cT.mono ?_; clear cT kb; rintro e w2 ⟨rfl, hS, hB⟩; have HX2 : Hid (RdAt W b W.heap.size s.next w2) := HX0.out.step hS hB; clear HX0 hS hB; have HX := HX2; clear HX2; have kb := HX.out.cell)
        | (go_at_call 303; refine (cN2 _ HX.out.src).mono ?_; clear cN2 kb; rintro e w4 ⟨hB, hF⟩; obtain rfl := hF))
      exact ⟨rfl, HX.out.but.trans hB, rfl⟩
    · have HE : Hid (R = .ok (z, q)) := hR2
      rw [hR2] at cN2
      clear hR2
      go_enter Tryz.func296, Tryz.ntmps296
      go_wp2_with (first
        | (go_at_call 294; refine cT.mono ?_; clear cT kb; rintro e w2 ⟨rfl, hS, hB⟩; have HX2 : Hid (RdAt W b W.heap.size s.next w2) := HX0.out.step hS hB; clear HX0 hS hB; have HX := HX2; clear HX2; have kb := HX.out.cell)
        | (go_at_call 303; refine (cN2 _ HX.out.src).mono ?_; clear cN2 kb; rintro e w4 ⟨hB, rfl, hS⟩))
      go_ret
      exact ⟨HX.out.but.trans hB, rfl, hS⟩
  · have hdc : decide (48 ≤ (c.toNat : Int) ∧ (c.toNat : Int) ≤ 57) = true := decide_eq_true hr
    have e7 : ((c.toNat : Int) == 45) = false := beq_eq_false_iff_ne.2 (by omega)
    clear hr
    rcases hR2 : R with ⟨en, pl⟩ | ⟨z, q⟩
    · have HE : Hid (R = .error (en, pl)) := hR2
      rw [hR2] at cN2
      clear hR2
      go_enter Tryz.func296, Tryz.ntmps296
      go_wp2_with (first
        | (go_at_call 294; refine cT.mono ?_; clear cT kb; rintro e w2 ⟨rfl, hS, hB⟩; have HX2 : Hid (RdAt W b W.heap.size s.next w2) := HX0.out.step hS hB; clear HX0 hS hB; have HX := HX2; clear HX2; have kb := HX.out.cell)
        | (go_at_call 302; refine (isDigit_any c _).mono ?_; rintro e w3 ⟨rfl, rfl⟩; rw [hdc])
        | (go_at_call 303; refine (cN2 _ HX.out.src).mono ?_; clear cN2 kb; rintro e w4 ⟨hB, hF⟩; obtain rfl := hF))
      exact ⟨rfl, HX.out.but.trans hB, rfl⟩
    · have HE : Hid (R = .ok (z, q)) := hR2
      rw [hR2] at cN2
      clear hR2
      go_enter Tryz.func296, Tryz.ntmps296
      go_wp2_with (first
        | (go_at_call 294; refine cT.mono ?_; clear cT kb; rintro e w2 ⟨rfl, hS, hB⟩; have HX2 : Hid (RdAt W b W.heap.size s.next w2) := HX0.out.step hS hB; clear HX0 hS hB; have HX := HX2; clear HX2; have kb := HX.out.cell)
        | (go_at_call 302; refine (isDigit_any c _).mono ?_; rintro e w3 ⟨rfl, rfl⟩; rw [hdc])
        | (go_at_call 303; refine (cN2 _ HX.out.src).mono ?_; clear cN2 kb; rintro e w4 ⟨hB, rfl, hS⟩))
      go_ret
      exact ⟨HX.out.but.trans hB, rfl, hS⟩
end Go.Proofs.YtllcbnfmihfaaaaGreatDoor
