import Derived.Test.YtkpoopjcdffpoaaGreatDoorAtt
import Derived.Test.YtkpoopjcdffpoaaGreatDoorLim
import Derived.Test.YtkpoopjcdffpoaaGreatDoorWrJ
namespace Go.Proofs.YtkpoopjcdffpoaaGreatDoor
open Go.RowKit

theorem Own.mono {W : World} {b b' : Nat} {v : Value} {bs : List UInt8} (h : Own W b v bs) (hb : b' ≤ b) : Own W b' v bs := by
  obtain ⟨⟨h1, h2⟩, h3, h4⟩ := h
  refine ⟨⟨h1, ?_⟩, by omega, h4⟩
  rcases h2 with h2 | ⟨g, cap, cur, e, hg, h5⟩
  · exact .inl h2
  · exact .inr ⟨g, cap, cur, e, by omega, h5⟩

/-- The four boxes that the function that reads bears with it. -/
structure TrBox (V : World) (p : Nat) (fin d l : Int) (bv : Value) : Prop where
  b0 : Boxed V p 3 (.int .i64 fin)
  b1 : Boxed V (p + 1) 3 (.int .i64 d)
  b2 : Boxed V (p + 2) 3 (.int .i64 l)
  b3 : Boxed V (p + 3) 28 bv

set_option maxRecDepth 100000 in
set_option maxHeartbeats 2000000 in
theorem trInner_any {α : Type} (val : α → Value) (V : World) (p : Nat) (fin d l : Int) (a : Option Addr) (n c : Nat) (r : Except (Int × Int) α) (h : TrBox V p fin d l (.slice a n c))
    (cD : Calls Tryz.prog 28 #[.int .i64 fin, .agg #[.int .i64 d, .int .i64 l], .slice a n c] V (Says1 V val r)) :
    Calls Tryz.prog 27 #[.pointer (some ⟨p, 0, none⟩), .pointer (some ⟨p + 1, 0, none⟩), .pointer (some ⟨p + 2, 0, none⟩), .pointer (some ⟨p + 3, 0, none⟩)] V (Says1 V val r) := by
  have c0 := h.b0.cell
  have c1 := h.b1.cell
  have c2 := h.b2.cell
  have c3 := h.b3.cell
  clear h
  rcases r with ⟨en, pl⟩ | z
  · go_enter Tryz.func27, Tryz.ntmps27
    go_wp2_with (first
      | (go_at_call 28; refine cD.mono ?_; clear cD; rintro e w2 ⟨hB, hF⟩; obtain rfl := hF))
    exact ⟨rfl, hB, rfl⟩
  · go_enter Tryz.func27, Tryz.ntmps27
    go_wp2_with (first
      | (go_at_call 28; refine cD.mono ?_; clear cD; rintro e w2 ⟨hB, rfl⟩))
    go_ret
    exact ⟨hB, rfl⟩

theorem num_bytes (z : Int) : ∀ w : World, (Instr.typeAssert (.iface 152 (.int .i64 z)) 57 95 true).run Tryz.prog w = .ok (.tuple #[.slice none 0 0, .bool false]) w := fun w => by kernel_rfl
theorem num_list (z : Int) : ∀ w : World, (Instr.typeAssert (.iface 152 (.int .i64 z)) 57 97 true).run Tryz.prog w = .ok (.tuple #[.slice none 0 0, .bool false]) w := fun w => by kernel_rfl
theorem num_map (z : Int) : ∀ w : World, (Instr.typeAssert (.iface 152 (.int .i64 z)) 57 99 true).run Tryz.prog w = .ok (.tuple #[.slice none 0 0, .bool false]) w := fun w => by kernel_rfl
set_option maxRecDepth 100000 in
set_option maxHeartbeats 2000000 in
theorem hasBytes_num (z : Int) (W : World) : Calls Tryz.prog 29 #[thNum z] W fun e W' => e = .returned (.bool false) ∧ W' = W := by
  have t1 := num_bytes z
  have t2 := num_list z
  have t3 := num_map z
  unfold thNum
  go_enter Tryz.func29, Tryz.ntmps29
  go_wp2
  go_ret
  exact ⟨rfl, rfl⟩

/-- The world of Transcode behind its boxes. -/
def trW (W : World) (fin d l : Int) (bv : Value) : World := (((W.alloc (.cells #[.int .i64 fin] 3)).alloc (.cells #[.int .i64 d] 3)).alloc (.cells #[.int .i64 l] 3)).alloc (.cells #[bv] 28)
theorem trW_box (W : World) (fin d l : Int) (bv : Value) : TrBox (trW W fin d l bv) W.heap.size fin d l bv := by
  unfold trW
  refine ⟨(((Boxed.new W _ _).alloc _).alloc _).alloc _, ?_, ?_, ?_⟩
  · have := Boxed.new (W.alloc (.cells #[.int .i64 fin] 3)) 3 (.int .i64 d)
    simp only [World.size_alloc] at this
    exact (this.alloc _).alloc _
  · have := Boxed.new ((W.alloc (.cells #[.int .i64 fin] 3)).alloc (.cells #[.int .i64 d] 3)) 3 (.int .i64 l)
    simp only [World.size_alloc] at this
    exact this.alloc _
  · have := Boxed.new (((W.alloc (.cells #[.int .i64 fin] 3)).alloc (.cells #[.int .i64 d] 3)).alloc (.cells #[.int .i64 l] 3)) 28 bv
    simp only [World.size_alloc] at this
    exact this
theorem trW_below (W : World) (fin d l : Int) (bv : Value) : Below W.heap.size W (trW W fin d l bv) := by
  unfold trW
  exact ((((Below.refl _ _).alloc (Nat.le_refl _) _).alloc (by simp) _).alloc (by simp; omega) _).alloc (by simp; omega) _
theorem TrBox.below {V V' : World} {p : Nat} {fin d l : Int} {bv : Value} (h : TrBox V p fin d l bv) (hB : Below V.heap.size V V') : TrBox V' p fin d l bv :=
  ⟨(hB.block _ h.b0.lt).trans h.b0, (hB.block _ h.b1.lt).trans h.b1, (hB.block _ h.b2.lt).trans h.b2, (hB.block _ h.b3.lt).trans h.b3⟩
/-- What Transcode answers to a reading. -/
def TrSays (W : World) (out : Int → List UInt8) (r : Except (Int × Int) Int) (e : Ending) (W' : World) : Prop :=
  Below W.heap.size W W' ∧ match r with
  | .ok z => ∃ v, e = .returned (.tuple #[v, .int .i64 0, .int .i64 0]) ∧ Own W' W.heap.size v (out z)
  | .error (en, pl) => e = .returned (.tuple #[.slice none 0 0, .int .i64 en, .int .i64 pl])

set_option maxRecDepth 100000 in
set_option maxHeartbeats 4000000 in
theorem transcode_num (W : World) (fin fout d l : Int) (a : Option Addr) (n c : Nat) (r : Except (Int × Int) Int) (out : Int → List UInt8) (hL : limB fin fout d l = true)
    (hr : ∀ en pl, r = .error (en, pl) → en ≠ 0)
    (cD : ∀ V, Below W.heap.size W V → Calls Tryz.prog 28 #[.int .i64 fin, .agg #[.int .i64 d, .int .i64 l], .slice a n c] V (Says1 V thNum r))
    (cW : ∀ z V, r = .ok z → Below W.heap.size W V → Calls Tryz.prog 30 #[.int .i64 fout, thNum z] V fun e V' => ∃ v', e = .returned v' ∧ Own V' V.heap.size v' (out z) ∧ Below V.heap.size V V') :
    Calls Tryz.prog 15 #[.int .i64 fin, .int .i64 fout, .int .i64 d, .int .i64 l, .slice a n c] W (TrSays W out r) := by
  have HT : Hid (TrBox (trW W fin d l (.slice a n c)) W.heap.size fin d l (.slice a n c)) := trW_box ..
  have HB : Hid (Below W.heap.size W (trW W fin d l (.slice a n c))) := trW_below ..
  have cL := limitsOK_any fin fout d l (trW W fin d l (.slice a n c))
  rw [hL] at cL
  have hmf : ∀ (fn : Fn) (first cap : Array Value) (w : World), (Instr.makeFunc fn first cap).run Tryz.prog w = .ok (.func fn first cap) w := fun _ _ _ _ => rfl
  have cA : Calls Tryz.prog 26 #[.func (.func 27) #[] #[.pointer (some ⟨W.heap.size, 0, none⟩), .pointer (some ⟨W.heap.size + 1, 0, none⟩), .pointer (some ⟨W.heap.size + 2, 0, none⟩), .pointer (some ⟨W.heap.size + 3, 0, none⟩)]] (trW W fin d l (.slice a n c)) fun e W' => e = .returned (attV thNum r) ∧ Below (trW W fin d l (.slice a n c)).heap.size (trW W fin d l (.slice a n c)) W' := by
    have b2 : Below (trW W fin d l (.slice a n c)).heap.size (trW W fin d l (.slice a n c)) (((trW W fin d l (.slice a n c)).alloc (.cells #[.int .i64 0] 31)).alloc (.cells #[.int .i64 0] 3)) := ((Below.refl _ _).alloc (Nat.le_refl _) _).alloc (by simp) _
    refine attempt_any thNum _ _ _ r rfl ?_
    exact trInner_any thNum _ _ fin d l a n c r (HT.out.below b2) (cD _ (HB.out.trans (b2.mono HB.out.size)))
  have c0 := HT.out.b0.cell
  have c1 := HT.out.b1.cell
  have c2 := HT.out.b2.cell
  clear HT cD
  have HV : Hid (trW W fin d l (.slice a n c) = (((W.alloc (.cells #[.int .i64 fin] 3)).alloc (.cells #[.int .i64 d] 3)).alloc (.cells #[.int .i64 l] 3)).alloc (.cells #[.slice a n c] 28)) := rfl
  generalize trW W fin d l (.slice a n c) = V at *
  have hv := HV.out
  subst hv
  clear HV hL
  rcases r with ⟨en, pl⟩ | z
  · have hen := hr en pl rfl
    have hq : (en == 0) = false := by simpa using hen
    clear hr cW
    unfold attV at cA
    go_enter Tryz.func15, Tryz.ntmps15
    go_wp2_with (first
      | (go_at_call 25; refine cL.mono ?_; clear cL; rintro e w2 ⟨rfl, rfl⟩)
      | (go_at_call 26; refine cA.mono ?_; clear cA; rintro e w3 ⟨rfl, hB3⟩))
    go_ret3
    exact ⟨HB.out.trans (hB3.mono HB.out.size), rfl⟩
  · clear hr
    unfold attV at cA
    cases hf : (fout == 1)
    · go_enter Tryz.func15, Tryz.ntmps15
      go_wp2_with (first
        | (go_at_call 25; refine cL.mono ?_; clear cL; rintro e w2 ⟨rfl, rfl⟩)
        | (go_at_call 26; refine cA.mono ?_; clear cA; rintro e w3 ⟨rfl, hB3⟩; have HB3 : Hid (Below W.heap.size W w3) := HB.out.trans (hB3.mono HB.out.size); clear HB hB3; have cW2 := cW z w3 rfl HB3.out; clear cW; unfold thNum at cW2; unfold thNum)
        | (go_at_call 30; refine cW2.mono ?_; clear cW2; rintro e w5 ⟨v5, rfl, h5, hB5⟩; obtain ⟨h51, h52, a5, n5, k5, rfl⟩ := h5))
      go_ret3
      exact ⟨HB3.out.trans (hB5.mono HB3.out.size), _, rfl, Own.mono ⟨h51, h52, _, _, _, rfl⟩ HB3.out.size⟩
    · go_enter Tryz.func15, Tryz.ntmps15
      have cH := fun V => hasBytes_num z V
      unfold thNum at cH
      go_wp2_with (first
        | (go_at_call 25; refine cL.mono ?_; clear cL; rintro e w2 ⟨rfl, rfl⟩)
        | (go_at_call 26; refine cA.mono ?_; clear cA; rintro e w3 ⟨rfl, hB3⟩; have HB3 : Hid (Below W.heap.size W w3) := HB.out.trans (hB3.mono HB.out.size); clear HB hB3; have cW2 := cW z w3 rfl HB3.out; clear cW; unfold thNum at cW2; unfold thNum)
        | (go_at_call 29; refine (cH _).mono ?_; clear cH; rintro e w4 ⟨rfl, rfl⟩)
        | (go_at_call 30; refine cW2.mono ?_; clear cW2; rintro e w5 ⟨v5, rfl, h5, hB5⟩; obtain ⟨h51, h52, a5, n5, k5, rfl⟩ := h5))
      go_ret3
      exact ⟨HB3.out.trans (hB5.mono HB3.out.size), _, rfl, Own.mono ⟨h51, h52, _, _, _, rfl⟩ HB3.out.size⟩
end Go.Proofs.YtkpoopjcdffpoaaGreatDoor
