import Derived.Test.YtllcbnfmihfaaaaGreatDoorDocN
namespace Go.Proofs.YtllcbnfmihfaaaaGreatDoor
open Go.RowKit

/-- An argument in so many bytes, as a number in two's complement. -/
def extF (x : Nat) (w : Int) : Int := if (w == 1) = true then wrap64 (IntKind.i8.wrap x) else if (w == 2) = true then wrap64 (IntKind.i16.wrap x) else if (w == 4) = true then wrap64 (wrap32 x) else wrap64 x

set_option maxRecDepth 100000 in
set_option maxHeartbeats 2000000 in
theorem extendSign_any (x : Nat) (w : Int) (_hx : x < 18446744073709551616) (W : World) :
    Calls Tryz.prog 332 #[.int .u64 x, .int .i64 w] W fun e W' => e = .returned (.int .i64 (extF x w)) ∧ W' = W := by
  obtain ⟨R, HR⟩ : ∃ R, Hid (extF x w = R) := ⟨_, show _ = _ from rfl⟩
  rw [HR.out]
  have hr := HR.out
  unfold extF at hr
  clear HR
  cases h1 : (w == 1)
  · rw [h1, if_neg (by decide)] at hr
    cases h2 : (w == 2)
    · rw [h2, if_neg (by decide)] at hr
      cases h4 : (w == 4)
      · rw [h4, if_neg (by decide)] at hr
        have HR : Hid (wrap64 x = R) := hr
        clear hr
        go_enter Tryz.func332, Tryz.ntmps332
        go_wp2
        go_ret
        rw [← HR.out]; exact ⟨rfl, rfl⟩
      · rw [h4, if_pos rfl] at hr
        have HR : Hid (wrap64 (wrap32 x) = R) := hr
        clear hr
        go_enter Tryz.func332, Tryz.ntmps332
        go_wp2
        go_ret
        rw [← HR.out]; exact ⟨rfl, rfl⟩
    · rw [h2, if_pos rfl] at hr
      have HR : Hid (wrap64 (IntKind.i16.wrap x) = R) := hr
      clear hr
      go_enter Tryz.func332, Tryz.ntmps332
      go_wp2
      go_ret
      rw [← HR.out]; exact ⟨rfl, rfl⟩
  · rw [h1, if_pos rfl] at hr
    have HR : Hid (wrap64 (IntKind.i8.wrap x) = R) := hr
    clear hr
    go_enter Tryz.func332, Tryz.ntmps332
    go_wp2
    go_ret
    rw [← HR.out]; exact ⟨rfl, rfl⟩

/-- The number of a head: its sort, its width, its argument. -/
def nbF (so w : Int) (x : Nat) (pos : Int) : Except (Int × Int) Int :=
  if (so == 5) = true then .ok (extF x w) else if 9223372036854775807 < x then .error (10, pos - 1) else if (so == 6) = true then .ok (-1 - (x : Int)) else .ok x

/-- How a reading ends that gives back a value; where it fails, too, there is a source. -/
def GivesK {α : Type} (W : World) (b : Nat) (s : Src) (val : α → Value) (r : Except (Int × Int) (α × Nat)) (e : Ending) (W' : World) : Prop :=
  But b W W' ∧ match r with
  | .ok (x, p) => e = .returned (val x) ∧ SrcAt W' b { s with pos := p }
  | .error (en, pl) => Fails en pl e ∧ ∃ p, SrcAt W' b { s with pos := p }
/-- How a number of a head comes out. -/
def GivesN (W : World) (b : Nat) (s : Src) (r : Except (Int × Int) Int) (e : Ending) (W' : World) : Prop :=
  But b W W' ∧ match r with
  | .ok z => e = .returned (.int .i64 z) ∧ SrcAt W' b s
  | .error (en, pl) => Fails en pl e ∧ ∃ p, SrcAt W' b { s with pos := p }
/-- The worlds of a method of the binary reader, behind its two boxes. -/
structure BinAt (W0 : World) (b N : Nat) (fv : Value) (so w : Int) (g : Nat) (s : Src) (W : World) : Prop where
  src : SrcAt W b s
  but : But b W0 W
  box : W.heap[N]? = some (.cells #[.pointer (some ⟨b, 0, none⟩), fv] 201)
  hd : W.heap[N + 1]? = some (.cells #[.int .i64 so, .int .i64 w, .int .u64 g] 273)
  ne : b < N
theorem BinAt.step {W0 : World} {b N : Nat} {fv : Value} {so w : Int} {g : Nat} {s s' : Src} {W W' : World} (h : BinAt W0 b N fv so w g s W) (hs : SrcAt W' b s') (hb : But b W W') : BinAt W0 b N fv so w g s' W' :=
  ⟨hs, h.but.trans hb, (hb.block _ (Array.getElem?_eq_some_iff.1 h.box).1 (by have := h.ne; omega)).trans h.box, (hb.block _ (Array.getElem?_eq_some_iff.1 h.hd).1 (by have := h.ne; omega)).trans h.hd, h.ne⟩
theorem binAt_mk {W : World} {b : Nat} {s : Src} (fv : Value) (so w : Int) (g : Nat) (h : SrcAt W b s) : BinAt W b W.heap.size fv so w g s ((W.alloc (.cells #[.pointer (some ⟨b, 0, none⟩), fv] 201)).alloc (.cells #[.int .i64 so, .int .i64 w, .int .u64 g] 273)) := by
  have hB : Below W.heap.size W ((W.alloc (.cells #[.pointer (some ⟨b, 0, none⟩), fv] 201)).alloc (.cells #[.int .i64 so, .int .i64 w, .int .u64 g] 273)) := ((Below.refl _ _).alloc (Nat.le_refl _) _).alloc (by simp) _
  refine ⟨h.below hB, But.of_below hB, ?_, ?_, (Array.getElem?_eq_some_iff.1 h.row).1⟩
  · have := heap_new W (.cells #[.pointer (some ⟨b, 0, none⟩), fv] 201)
    rw [← this]
    exact (((Below.refl (W.heap.size + 1) (W.alloc (.cells #[.pointer (some ⟨b, 0, none⟩), fv] 201))).alloc (by simp) _).block _ (by omega))
  · have := heap_new (W.alloc (.cells #[.pointer (some ⟨b, 0, none⟩), fv] 201)) (.cells #[.int .i64 so, .int .i64 w, .int .u64 g] 273)
    rw [World.size_alloc] at this
    exact this

set_option maxRecDepth 100000 in
set_option maxHeartbeats 2000000 in
theorem numberOf_any (W : World) (b : Nat) (s : Src) (f : Nat) (so w : Int) (g x : Nat) (hx : x < 18446744073709551616) (h : SrcAt W b s) :
    Calls Tryz.prog 327 #[.agg #[.pointer (some ⟨b, 0, none⟩), .func (.func f) #[] #[]], .agg #[.int .i64 so, .int .i64 w, .int .u64 g], .int .u64 x] W (GivesN W b s (nbF so w x s.pos)) := by
  have HX : Hid (BinAt W b W.heap.size (.func (.func f) #[] #[]) so w g s ((W.alloc (.cells #[.pointer (some ⟨b, 0, none⟩), .func (.func f) #[] #[]] 201)).alloc (.cells #[.int .i64 so, .int .i64 w, .int .u64 g] 273))) := binAt_mk _ so w g h
  obtain ⟨R, HR⟩ : ∃ R, Hid (nbF so w x s.pos = R) := ⟨_, show _ = _ from rfl⟩
  rw [HR.out]
  have hr := HR.out
  unfold nbF at hr
  have k0 := cellOfHeap HX.out.box 0
  have k1 := cellOfHeap HX.out.hd 0
  have k2 := cellOfHeap HX.out.hd 1
  clear HR h
  cases h5 : (so == 5)
  · rw [h5, if_neg (by decide)] at hr
    by_cases hm : 9223372036854775807 < x
    · rw [if_pos hm] at hr
      subst hr
      have cR := refuse_any _ b s 10 HX.out.src
      have hm2 : decide ((9223372036854775807 : Int) < x) = true := by simp; omega
      go_enter Tryz.func327, Tryz.ntmps327
      go_wp2_with (first
        | (go_at_call 295; refine cR.mono ?_; clear cR; rintro e w7 ⟨hF, rfl⟩; obtain rfl := hF))
      exact ⟨rfl, HX.out.but, rfl, _, HX.out.src⟩
    · rw [if_neg hm] at hr
      have hm2 : decide ((9223372036854775807 : Int) < x) = false := by simp; omega
      cases h6 : (so == 6)
      · rw [h6, if_neg (by decide)] at hr
        subst hr
        go_enter Tryz.func327, Tryz.ntmps327
        go_wp2
        go_ret
        exact ⟨HX.out.but, rfl, HX.out.src⟩
      · rw [h6, if_pos rfl] at hr
        subst hr
        go_enter Tryz.func327, Tryz.ntmps327
        go_wp2
        go_ret
        exact ⟨HX.out.but, rfl, HX.out.src⟩
  · rw [h5, if_pos rfl] at hr
    subst hr
    have cE := fun V => extendSign_any x w hx V
    go_enter Tryz.func327, Tryz.ntmps327
    go_wp2_with (first
      | (go_at_call 332; refine (cE _).mono ?_; clear cE; rintro e w7 ⟨rfl, rfl⟩))
    go_ret
    exact ⟨HX.out.but, rfl, HX.out.src⟩
end Go.Proofs.YtllcbnfmihfaaaaGreatDoor
