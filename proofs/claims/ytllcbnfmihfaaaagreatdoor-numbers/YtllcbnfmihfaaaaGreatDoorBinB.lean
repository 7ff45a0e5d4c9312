import Derived.Test.YtllcbnfmihfaaaaGreatDoorBinA
namespace Go.Proofs.YtllcbnfmihfaaaaGreatDoor
open Go.RowKit

/-- So many bytes of an argument, behind what was read of it. -/
def argF (bs : List UInt8) (lim : Int) : Nat → Nat → Nat → Except (Int × Int) (Nat × Nat)
  | 0, p, a => .ok (a, p)
  | k + 1, p, a => match bs[p]? with
    | none => .error (9, p)
    | some c => if (p : Int) = lim then .error (8, p) else argF bs lim k (p + 1) (a * 256 + c.toNat)

theorem bits_or64 (a c : Nat) (ha : a < 72057594037927936) (hc : c < 256) : bits .or .u64 ((a : Int) * 256) (c : Int) = ((a * 256 + c : Nat) : Int) := by
  have e1 : BitVec.ofInt 64 ((a : Int) * 256) = BitVec.ofNat 64 (a * 256) := by
    rw [show ((a : Int) * 256) = ((a * 256 : Nat) : Int) by simp]
    exact BitVec.ofInt_natCast ..
  have e2 : BitVec.ofInt 64 (c : Int) = BitVec.ofNat 64 c := BitVec.ofInt_natCast ..
  have e3 : (BitVec.ofNat 64 (a * 256) ||| BitVec.ofNat 64 c).toNat = a * 256 + c := by
    rw [BitVec.toNat_or, BitVec.toNat_ofNat, BitVec.toNat_ofNat, Nat.mod_eq_of_lt (by omega), Nat.mod_eq_of_lt (by omega)]
    have := Nat.shiftLeft_add_eq_or_of_lt (b := c) (i := 8) (by omega) a
    rw [Nat.shiftLeft_eq] at this
    exact this.symm
  show IntKind.u64.wrap ((BitVec.ofInt 64 ((a : Int) * 256) ||| BitVec.ofInt 64 (c : Int)).toNat : Int) = _
  rw [e1, e2, e3]
  unfold IntKind.wrap
  simp [IntKind.bits, IntKind.signed]
  omega

set_option maxRecDepth 100000 in
set_option maxHeartbeats 2000000 in
theorem readArgument_any (W : World) (b : Nat) (s : Src) (f : Nat) (so : Int) (w g : Nat) (hw : w ≤ 8) (hg : w = 0 ∨ g = 0) (h : SrcAt W b s) :
    Calls Tryz.prog 326 #[.agg #[.pointer (some ⟨b, 0, none⟩), .func (.func f) #[] #[]], .agg #[.int .i64 so, .int .i64 w, .int .u64 g]] W (GivesK W b s (fun x : Nat => .int .u64 x) (argF s.bs s.lim w s.pos g)) := by
  have HX0 : Hid (BinAt W b W.heap.size (.func (.func f) #[] #[]) so w g s ((W.alloc (.cells #[.pointer (some ⟨b, 0, none⟩), .func (.func f) #[] #[]] 201)).alloc (.cells #[.int .i64 so, .int .i64 w, .int .u64 g] 273))) := binAt_mk _ so w g h
  obtain ⟨R, HR⟩ : ∃ R, Hid (argF s.bs s.lim w s.pos g = R) := ⟨_, show _ = _ from rfl⟩
  rw [HR.out]
  have k1 := cellOfHeap HX0.out.hd 1
  have k2 := cellOfHeap HX0.out.hd 2
  have HG : Hid (w = 0 ∨ g = 0) := hg
  clear hg h
  go_enter Tryz.func326, Tryz.ntmps326
  go_wp2
  clear k1 k2
  go_loopg [5, 10] w (fun m y z wr => ∃ (k acc : Nat), y = .int .u64 acc ∧ z = .int .i64 k ∧ Hid (m + k = w) ∧ Hid (m = 0 ∨ acc < 256 ^ k) ∧ Hid (BinAt W b W.heap.size (.func (.func f) #[] #[]) so w g { s with pos := s.pos + k } wr) ∧ Hid (argF s.bs s.lim m (s.pos + k) acc = R))
  case atStart => exact ⟨0, g, rfl, rfl, rfl, by show _ ∨ _; rcases HG.out with h | h; exact .inl h; exact .inr (by omega), HX0, HR⟩
  case round =>
    clear HX0 HR HG
    obtain ⟨k, acc, rfl, rfl, hm, ha, HX, HR⟩ := hrel
    have kb := cellOfHeap HX.out.box 0
    cases gk with
    | zero =>
      have e : k = w := by have := hm.out; omega
      subst e
      have HE : Hid (R = .ok (acc, s.pos + k)) := HR.out.symm
      clear HR hm ha kb
      go_wp2
      go_ret
      rw [HE.out]
      exact ⟨HX.out.but, rfl, HX.out.src⟩
    | succ m =>
      have hlt : k < w := by have := hm.out; omega
      have hlt2 : decide ((k : Int) < w) = true := by simp; omega
      have hacc : acc < 256 ^ k := by rcases ha.out with h | h; exact absurd h (by omega); exact h
      have hacc7 : acc < 72057594037927936 := Nat.lt_of_lt_of_le hacc (Nat.le_trans (Nat.pow_le_pow_right (by decide) (show k ≤ 7 from by omega)) (by decide))
      rcases src_cases HX.out.src with h1 | h1 | ⟨c, h1⟩
      · have HE : Hid (R = .error (9, ((s.pos + k : Nat) : Int))) := by
          show _ = _
          rw [← HR.out, argF, List.getElem?_eq_none (by have : s.pos + k = s.bs.length := h1; omega)]
        have cT := take_end _ b { s with pos := s.pos + k } HX.out.src h1
        clear HR ha hm h1 hacc
        go_wp2_with (first
          | (go_at_call 294; refine cT.mono ?_; clear cT; rintro e w2 ⟨hF, hB⟩; obtain rfl := hF))
        rw [HE.out]
        exact ⟨rfl, HX.out.but.trans (But.of_below hB), rfl, _, HX.out.src.below hB⟩
      · have HE : Hid (R = .error (8, ((s.pos + k : Nat) : Int))) := by
          show _ = _
          have h2 : ((s.pos + k : Nat) : Int) = s.lim := h1.2
          have h3 : s.pos + k < s.bs.length := h1.1
          rw [← HR.out, argF, List.getElem?_eq_getElem h3]
          simp only []
          rw [if_pos h2]
        have cT := take_size _ b { s with pos := s.pos + k } HX.out.src h1
        clear HR ha hm h1 hacc
        go_wp2_with (first
          | (go_at_call 294; refine cT.mono ?_; clear cT; rintro e w2 ⟨hF, hB⟩; obtain rfl := hF))
        rw [HE.out]
        exact ⟨rfl, HX.out.but.trans (But.of_below hB), rfl, _, HX.out.src.below hB⟩
      · have hc1 : s.bs[s.pos + k]? = some c := h1.1
        have hc2 : ¬ ((s.pos + k : Nat) : Int) = s.lim := h1.2
        have HN : Hid (argF s.bs s.lim m (s.pos + (k + 1)) (acc * 256 + c.toNat) = R) := by
          show _ = _
          have := HR.out
          rw [argF, hc1] at this
          simp only [] at this
          rw [if_neg hc2] at this
          exact this
        have hcl : c.toNat < 256 := c.toNat_lt
        have ho := bits_or64 acc c.toNat hacc7 hcl
        have HA : Hid (acc * 256 + c.toNat < 256 ^ (k + 1)) := by show _ < _; rw [Nat.pow_succ]; omega
        have cT : Calls Tryz.prog 294 #[.pointer (some ⟨b, 0, none⟩)] wr fun e W' => e = .returned (.int .u8 c.toNat) ∧ SrcAt W' b { s with pos := s.pos + (k + 1) } ∧ But b wr W' := take_byte _ b { s with pos := s.pos + k } c HX.out.src h1
        clear h1 hc1 hc2 HR hacc
        go_wp2_with (first
          | (go_at_call 294; refine cT.mono ?_; clear cT kb; rintro e w2 ⟨rfl, hS, hB⟩; have HX2 : Hid (BinAt W b W.heap.size (.func (.func f) #[] #[]) so w g { s with pos := s.pos + (k + 1) } w2) := HX.out.step hS hB; clear HX hS hB))
        go_roundg m
        case measure => omega
        case rel => exact ⟨k + 1, acc * 256 + c.toNat, by simp, by go_num, by show _ = _; have := hm.out; omega, .inr HA.out, HX2, HN⟩
end Go.Proofs.YtllcbnfmihfaaaaGreatDoor
