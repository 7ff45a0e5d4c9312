import Derived.Test.YtllcbnfmihfaaaaGreatDoorDig
namespace Go.Proofs.YtllcbnfmihfaaaaGreatDoor
open Go.RowKit

/-- What digF gives is at most the greatest. -/
theorem digF_le {bs : List UInt8} {lim : Int} {most : Nat} {z : Bool} : ∀ {g p num : Nat} {x q : Nat}, num ≤ most → 9 ≤ most → digF bs lim most z g p num = .ok (x, q) → x ≤ most
  | 0, p, num, x, q, hn, _, h => by
    unfold digF at h
    cases h
    exact hn
  | g + 1, p, num, x, q, hn, hm, h => by
    unfold digF at h
    split at h
    · cases h
      exact hn
    · split at h
      · cases h
      · split at h
        · next hd =>
          split at h
          · cases h
          · split at h
            · cases h
            · next hov =>
              have hdd := of_decide_eq_true hd
              exact digF_le (by omega) hm h
        · split at h
          · cases h
          · cases h
            exact hn
/-- A number behind its first byte. -/
def numF (s : Src) (first : UInt8) : Except (Int × Int) (Int × Nat) :=
  if first.toNat = 45 then
    match s.bs[s.pos]? with
    | none => .error (9, s.pos)
    | some c => if (s.pos : Int) = s.lim then .error (8, s.pos) else if isDig c = true then
        (match digF s.bs s.lim 9223372036854775808 (c.toNat == 48) (s.bs.length + 1 - (s.pos + 1)) (s.pos + 1) (c.toNat - 48) with
        | .ok (x, p) => .ok (-(x : Int), p)
        | .error e => .error e)
      else .error (9, s.pos)
  else match digF s.bs s.lim 9223372036854775807 (first.toNat == 48) (s.bs.length + 1 - s.pos) s.pos (first.toNat - 48) with
    | .ok (x, p) => .ok ((x : Int), p)
    | .error e => .error e

theorem wrap_neg (x : Nat) (h : x ≤ 9223372036854775808) : wrap64 (IntKind.u64.wrap (-(x : Int))) = -(x : Int) := by
  by_cases h0 : x = 0
  · subst h0
    have h1 : IntKind.u64.wrap (-((0 : Nat) : Int)) = 0 := by
      unfold IntKind.wrap
      simp [IntKind.bits, IntKind.signed]
    rw [h1]
    unfold wrap64
    omega
  · have h1 : IntKind.u64.wrap (-(x : Int)) = 18446744073709551616 - x := by
      unfold IntKind.wrap
      simp [IntKind.bits, IntKind.signed]
      omega
    rw [h1]
    unfold wrap64
    first | omega | (unfold IntKind.wrap; simp [IntKind.bits, IntKind.signed]; omega) | (split <;> omega)

set_option maxRecDepth 100000 in
set_option maxHeartbeats 4000000 in
theorem readNumber_any (W : World) (b : Nat) (s : Src) (first : UInt8) (h : SrcAt W b s) (hf : first.toNat = 45 ∨ isDig first = true) :
    Calls Tryz.prog 303 #[.agg #[.pointer (some ⟨b, 0, none⟩)], .int .u8 first.toNat] W (Gives W b s (fun z : Int => .int .i64 z) (numF s first)) := by
  have HX0 : Hid (RdAt W b W.heap.size s (W.alloc (.cells #[.pointer (some ⟨b, 0, none⟩)] 198))) := rdAt_mk h
  obtain ⟨R, HR⟩ : ∃ R, Hid (numF s first = R) := ⟨_, show _ = _ from rfl⟩
  rw [HR.out]
  have kb := HX0.out.cell
  by_cases h45 : (first.toNat : Int) = 45
  · have hr := HR.out
    unfold numF at hr
    rw [if_pos (by omega)] at hr
    rcases src_cases h with h1 | h1 | ⟨c, h1⟩
    · have HE : Hid (R = .error (9, (s.pos : Int))) := by
        show _ = _
        rw [List.getElem?_eq_none (by have : s.pos = s.bs.length := h1; omega)] at hr
        exact hr.symm
      have cT := take_end _ b s HX0.out.src h1
      clear hr HR hf h h1
      go_enter Tryz.func303, Tryz.ntmps303
      go_wp2_with (first
        | (go_at_call 294; refine cT.mono ?_; clear cT; rintro e w2 ⟨hF, hB⟩; obtain rfl := hF))
      rw [HE.out]
      exact ⟨rfl, HX0.out.but.trans (But.of_below hB), rfl⟩
    · have HE : Hid (R = .error (8, (s.pos : Int))) := by
        show _ = _
        rw [List.getElem?_eq_getElem h1.1] at hr
        simp only [] at hr
        rw [if_pos h1.2] at hr
        exact hr.symm
      have cT := take_size _ b s HX0.out.src h1
      clear hr HR hf h h1
      go_enter Tryz.func303, Tryz.ntmps303
      go_wp2_with (first
        | (go_at_call 294; refine cT.mono ?_; clear cT; rintro e w2 ⟨hF, hB⟩; obtain rfl := hF))
      rw [HE.out]
      exact ⟨rfl, HX0.out.but.trans (But.of_below hB), rfl⟩
    · rw [h1.1] at hr
      simp only [] at hr
      rw [if_neg h1.2] at hr
      have cT := take_byte _ b s c HX0.out.src h1
      have hlt := h1.lt
      have hle := h.len
      unfold maxLen at hle
      clear h1 hf h
      cases hdc : decide (48 ≤ (c.toNat : Int) ∧ (c.toNat : Int) ≤ 57)
      · have HE : Hid (R = .error (9, (s.pos : Int))) := by
          show _ = _
          rw [if_neg (by unfold isDig; rw [hdc]; simp)] at hr
          exact hr.symm
        clear hr HR
        go_enter Tryz.func303, Tryz.ntmps303
        go_wp2_with (first
          | (go_at_call 294; refine cT.mono ?_; clear cT kb; rintro e w2 ⟨rfl, hS, hB⟩; have HX2 : Hid (RdAt W b W.heap.size s.next w2) := HX0.out.step hS hB; clear HX0 hS hB; have HX := HX2; clear HX2; have kb := HX.out.cell)
          | (go_at_call 302; refine (isDigit_any c _).mono ?_; rintro e w3 ⟨rfl, rfl⟩; rw [hdc])
          | (go_at_call 295; refine (refuse_any _ b s.next _ HX.out.src).mono ?_; clear kb; rintro e w7 ⟨hF, rfl⟩; obtain rfl := hF))
        rw [HE.out]
        exact ⟨rfl, HX.out.but, by show Fails _ _ _; unfold Fails failV Src.next; simp⟩
      · have hd := of_decide_eq_true hdc
        have hd1 := hd.1
        have hd2 := hd.2
        rw [if_pos (by unfold isDig; exact hdc)] at hr
        have cD := fun V (hV : SrcAt V b s.next) => readDigits_any V b s.next c 9223372036854775808 hV (.inr rfl) ⟨by omega, by omega⟩
        obtain ⟨D, hD⟩ : ∃ D, digF s.bs s.lim 9223372036854775808 (c.toNat == 48) (s.bs.length + 1 - (s.pos + 1)) (s.pos + 1) (c.toNat - 48) = D := ⟨_, rfl⟩
        have cD2 : ∀ V, SrcAt V b s.next → Calls Tryz.prog 313 #[.agg #[.pointer (some ⟨b, 0, none⟩)], .int .u8 c.toNat, .int .u64 9223372036854775808] V (Gives V b s.next (fun x : Nat => .int .u64 x) D) := by rw [← hD]; exact cD
        rw [hD] at hr
        clear cD hd
        rcases D with ⟨en, pl⟩ | ⟨x, q⟩
        · have HE : Hid (R = .error (en, pl)) := hr.symm
          clear hr HR hD
          go_enter Tryz.func303, Tryz.ntmps303
          go_wp2_with (first
            | (go_at_call 294; refine cT.mono ?_; clear cT kb; rintro e w2 ⟨rfl, hS, hB⟩; have HX2 : Hid (RdAt W b W.heap.size s.next w2) := HX0.out.step hS hB; clear HX0 hS hB; have HX := HX2; clear HX2; have kb := HX.out.cell)
            | (go_at_call 302; refine (isDigit_any c _).mono ?_; rintro e w3 ⟨rfl, rfl⟩; rw [hdc])
            | (go_at_call 313; refine (cD2 _ HX.out.src).mono ?_; clear cD2 kb; rintro e w4 ⟨hB, hF⟩; obtain rfl := hF))
          rw [HE.out]
          exact ⟨rfl, HX.out.but.trans hB, rfl⟩
        · have HE : Hid (R = .ok (-(x : Int), q)) := hr.symm
          have hx := digF_le (by omega) (by omega) hD
          clear hr HR hD
          go_enter Tryz.func303, Tryz.ntmps303
          go_wp2_with (first
            | (go_at_call 294; refine cT.mono ?_; clear cT kb; rintro e w2 ⟨rfl, hS, hB⟩; have HX2 : Hid (RdAt W b W.heap.size s.next w2) := HX0.out.step hS hB; clear HX0 hS hB; have HX := HX2; clear HX2; have kb := HX.out.cell)
            | (go_at_call 302; refine (isDigit_any c _).mono ?_; rintro e w3 ⟨rfl, rfl⟩; rw [hdc])
            | (go_at_call 313; refine (cD2 _ HX.out.src).mono ?_; clear cD2 kb; rintro e w4 ⟨hB, rfl, hS⟩))
          go_ret
          rw [HE.out]
          exact ⟨HX.out.but.trans hB, congrArg (fun z => Ending.returned (Value.int .i64 z)) (wrap_neg x hx), hS⟩
  · have hd := of_decide_eq_true (hf.resolve_left (by omega))
    have hd1 := hd.1
    have hd2 := hd.2
    have cD := readDigits_any (W.alloc (.cells #[.pointer (some ⟨b, 0, none⟩)] 198)) b s first 9223372036854775807 HX0.out.src (.inl rfl) ⟨by omega, by omega⟩
    have hr := HR.out
    unfold numF at hr
    rw [if_neg (by omega)] at hr
    obtain ⟨D, hD⟩ : ∃ D, digF s.bs s.lim 9223372036854775807 (first.toNat == 48) (s.bs.length + 1 - s.pos) s.pos (first.toNat - 48) = D := ⟨_, rfl⟩
    rw [hD] at cD hr
    rcases D with ⟨en, pl⟩ | ⟨x, q⟩
    · have HE : Hid (R = .error (en, pl)) := hr.symm
      clear hr HR hD hf hd h
      go_enter Tryz.func303, Tryz.ntmps303
      go_wp2_with (first
        | (go_at_call 313; refine cD.mono ?_; clear cD; rintro e w2 ⟨hB, hF⟩; obtain rfl := hF))
      rw [HE.out]
      exact ⟨rfl, HX0.out.but.trans hB, rfl⟩
    · have HE : Hid (R = .ok ((x : Int), q)) := hr.symm
      have hx := digF_le (by omega) (by omega) hD
      clear hr HR hD hf hd h
      go_enter Tryz.func303, Tryz.ntmps303
      go_wp2_with (first
        | (go_at_call 313; refine cD.mono ?_; clear cD; rintro e w2 ⟨hB, rfl, hS⟩))
      go_ret
      rw [HE.out]
      exact ⟨HX0.out.but.trans hB, rfl, hS⟩
end Go.Proofs.YtllcbnfmihfaaaaGreatDoor
