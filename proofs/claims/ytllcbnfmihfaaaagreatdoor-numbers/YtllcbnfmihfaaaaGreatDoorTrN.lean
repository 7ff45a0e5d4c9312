import Derived.Test.YtllcbnfmihfaaaaGreatDoorAtt
import Derived.Test.YtllcbnfmihfaaaaGreatDoorLim
import Derived.Test.YtllcbnfmihfaaaaGreatDoorWrJ
namespace Go.Proofs.YtllcbnfmihfaaaaGreatDoor
open Go.RowKit

theorem Own.mono {W : World} {b b' : Nat} {v : Value} {bs : List UInt8} (h : Own W b v bs) (hb : b' ≤ b) : Own W b' v bs := by
  obtain ⟨⟨h1, h2⟩, h3, h4⟩ := h
  refine ⟨⟨h1, ?_⟩, by omega, h4⟩
  rcases h2 with h2 | ⟨g, cap, cur, e, hg, h5⟩
  · exact .inl h2
  · exact .inr ⟨g, cap, cur, e, by omega, h5⟩

/-- The four boxes that the function that reads bears with it. -/
structure TrBox (V : World) (p : Nat) (fin d l : Int) (bv : Value) : Prop where
  b0 : Boxed V p 3 (.int .i64 fin)
  b1 : Boxed V (p + 1) 3 (.int .i64 d)
  b2 : Boxed V (p + 2) 3 (.int .i64 l)
  b3 : Boxed V (p + 3) 28 bv

set_option maxRecDepth 100000 in
set_option maxHeartbeats 2000000 in
theorem trInner_any {α : Type} (val : α → Value) (V : World) (p : Nat) (fin d l : Int) (a : Option Addr) (n c : Nat) (r : Except (Int × Int) α) (h : TrBox V p fin d l (.slice a n c))
    (cD : Calls Tryz.prog 41 #[.int .i64 fin, .agg #[.int .i64 d, .int .i64 l], .slice a n c] V (Says1 V val r)) :
    Calls Tryz.prog 40 #[.pointer (some ⟨p, 0, none⟩), .pointer (some ⟨p + 1, 0, none⟩), .pointer (some ⟨p + 2, 0, none⟩), .pointer (some ⟨p + 3, 0, none⟩)] V (Says1 V val r) := by
  have c0 := h.b0.cell
  have c1 := h.b1.cell
  have c2 := h.b2.cell
  have c3 := h.b3.cell
  clear h
  rcases r with ⟨en, pl⟩ | z
  · go_enter Tryz.func40, Tryz.ntmps40
    go_wp2_with (first
      | (go_at_call 41; refine cD.mono ?_; clear cD; rintro e w2 ⟨hB, hF⟩; obtain rfl := hF))
    exact ⟨rfl, hB, rfl⟩
  · go_enter Tryz.func40, Tryz.ntmps40
    go_wp2_with (first
      | (go_at_call 41; refine cD.mono ?_; clear cD; rintro e w2 ⟨hB, rfl⟩))
    go_ret
    exact ⟨hB, rfl⟩

theorem num_bytes (z : Int) : ∀ w : World, (Instr.typeAssert (.iface 279 (.int .i64 z)) 81 202 true).run Tryz.prog w = .ok (.tuple #[.slice none 0 0, .bool false]) w := fun w => by kernel_rfl
theorem num_list (z : Int) : ∀ w : World, (Instr.typeAssert (.iface 279 (.int .i64 z)) 81 204 true).run Tryz.prog w = .ok (.tuple #[.slice none 0 0, .bool false]) w := fun w => by kernel_rfl
theorem num_map (z : Int) : ∀ w : World, (Instr.typeAssert (.iface 279 (.int .i64 z)) 81 206 true).run Tryz.prog w = .ok (.tuple #[.slice none 0 0, .bool false]) w := fun w => by kernel_rfl
set_option maxRecDepth 100000 in
set_option maxHeartbeats 2000000 in
theorem hasBytes_num (z : Int) (W : World) : Calls Tryz.prog 66 #[thNum z] W fun e W' => e = .returned (.bool false) ∧ W' = W := by
  have t1 := num_bytes z
  have t2 := num_list z
  have t3 := num_map z
  unfold thNum
  go_enter Tryz.func66, Tryz.ntmps66
  go_wp2
  go_ret
  exact ⟨rfl, rfl⟩

/-- The world of Transcode behind its boxes. -/
def trW (W : World) (fin d l : Int) (bv : Value) : World := (((W.alloc (.cells #[.int .i64 fin] 3)).alloc (.cells #[.int .i64 d] 3)).alloc (.cells #[.int .i64 l] 3)).alloc (.cells #[bv] 28)
theorem trW_box (W : World) (fin d l : Int) (bv : Value) : TrBox (trW W fin d l bv) W.heap.size fin d l bv := by
  unfold trW
  refine ⟨(((Boxed.new W _ _).alloc _).alloc _).alloc _, ?_, ?_, ?_⟩
  · have := Boxed.new (W.alloc (.cells #[.int .i64 fin] 3)) 3 (.int .i64 d)
    simp only [World.size_alloc] at this
    exact (this.alloc _).alloc _
  · have := Boxed.new ((W.alloc (.cells #[.int .i64 fin] 3)).alloc (.cells #[.int .i64 d] 3)) 3 (.int .i64 l)
    simp only [World.size_alloc] at this
    exact this.alloc _
  · have := Boxed.new (((W.alloc (.cells #[.int .i64 fin] 3)).alloc (.cells #[.int .i64 d] 3)).alloc (.cells #[.int .i64 l] 3)) 28 bv
    simp only [World.size_alloc] at this
    exact this
theorem trW_below (W : World) (fin d l : Int) (bv : Value) : Below W.heap.size W (trW W fin d l bv) := by
  unfold trW
  exact ((((Below.refl _ _).alloc (Nat.le_refl _) _).alloc (by simp) _).alloc (by simp; omega) _).alloc (by simp; omega) _
theorem TrBox.below {V V' : World} {p : Nat} {fin d l : Int} {bv : Value} (h : TrBox V p fin d l bv) (hB : Below V.heap.size V V') : TrBox V' p fin d l bv :=
  ⟨(hB.block _ h.b0.lt).trans h.b0, (hB.block _ h.b1.lt).trans h.b1, (hB.block _ h.b2.lt).trans h.b2, (hB.block _ h.b3.lt).trans h.b3⟩
set_option maxRecDepth 100000 in
set_option maxHeartbeats 1000000 in
/-- redact.write in a format that has bytes. -/
theorem write_bin (V : World) (fout : Int) (t : TypeId) (y : Value) (ys : List UInt8) (hf : (fout == 1) = false)
    (cW : Calls Tryz.prog 67 #[.int .i64 fout, .iface t y] V fun e V' => ∃ v', e = .returned v' ∧ Own V' V.heap.size v' ys ∧ Below V.heap.size V V') :
    Calls Tryz.prog 42 #[.int .i64 fout, .iface t y] V fun e V' => ∃ v', e = .returned (.tuple #[v', .int .i64 0]) ∧ Own V' V.heap.size v' ys ∧ Below V.heap.size V V' := by
  go_enter Tryz.func42, Tryz.ntmps42
  go_wp2_with (first
    | (go_at_call 67; refine cW.mono ?_; clear cW; rintro e w5 ⟨v5, rfl, h5, hB5⟩; obtain ⟨h51, h52, a5, n5, k5, rfl⟩ := h5))
  go_ret2
  exact ⟨_, rfl, ⟨h51, h52, _, _, _, rfl⟩, hB5⟩
set_option maxRecDepth 100000 in
set_option maxHeartbeats 1000000 in
/-- In JSON: a thing without bytes. -/
theorem write_json (V : World) (t : TypeId) (y : Value) (ys : List UInt8) (cH : Calls Tryz.prog 66 #[.iface t y] V fun e W' => e = .returned (.bool false) ∧ Below V.heap.size V W')
    (cW : ∀ U, Below V.heap.size V U → Calls Tryz.prog 67 #[.int .i64 1, .iface t y] U fun e V' => ∃ v', e = .returned v' ∧ Own V' V.heap.size v' ys ∧ Below V.heap.size U V') :
    Calls Tryz.prog 42 #[.int .i64 1, .iface t y] V fun e V' => ∃ v', e = .returned (.tuple #[v', .int .i64 0]) ∧ Own V' V.heap.size v' ys ∧ Below V.heap.size V V' := by
  go_enter Tryz.func42, Tryz.ntmps42
  go_wp2_with (first
    | (go_at_call 66; refine cH.mono ?_; clear cH; rintro e w4 ⟨rfl, hB4⟩; have cW2 := cW w4 hB4; clear cW)
    | (go_at_call 67; refine cW2.mono ?_; clear cW2; rintro e w5 ⟨v5, rfl, h5, hB5⟩; obtain ⟨h51, h52, a5, n5, k5, rfl⟩ := h5))
  go_ret2
  exact ⟨_, rfl, ⟨h51, h52, _, _, _, rfl⟩, hB4.trans hB5⟩
set_option maxRecDepth 100000 in
set_option maxHeartbeats 1000000 in
/-- In JSON: a thing with bytes. -/
theorem write_kind (V : World) (t : TypeId) (y : Value) (cH : Calls Tryz.prog 66 #[.iface t y] V fun e W' => e = .returned (.bool true) ∧ Below V.heap.size V W') :
    Calls Tryz.prog 42 #[.int .i64 1, .iface t y] V fun e V' => e = .returned (.tuple #[.slice none 0 0, .int .i64 13]) ∧ Below V.heap.size V V' := by
  go_enter Tryz.func42, Tryz.ntmps42
  go_wp2_with (first
    | (go_at_call 66; refine cH.mono ?_; clear cH; rintro e w4 ⟨rfl, hB4⟩))
  go_ret2
  exact ⟨rfl, hB4⟩
/-- What Transcode answers to a reading. -/
def TrSays (W : World) (out : Int → List UInt8) (r : Except (Int × Int) Int) (e : Ending) (W' : World) : Prop :=
  Below W.heap.size W W' ∧ match r with
  | .ok z => ∃ v, e = .returned (.tuple #[v, .int .i64 0, .int .i64 0]) ∧ Own W' W.heap.size v (out z)
  | .error (en, pl) => e = .returned (.tuple #[.slice none 0 0, .int .i64 en, .int .i64 pl])

set_option maxRecDepth 100000 in
set_option maxHeartbeats 4000000 in
theorem transcode_num (W : World) (fin fout d l : Int) (a : Option Addr) (n c : Nat) (r : Except (Int × Int) Int) (out : Int → List UInt8) (hL : limB fin fout d l = true)
    (hr : ∀ en pl, r = .error (en, pl) → en ≠ 0)
    (cD : ∀ V, Below W.heap.size W V → Calls Tryz.prog 41 #[.int .i64 fin, .agg #[.int .i64 d, .int .i64 l], .slice a n c] V (Says1 V thNum r))
    (cW : ∀ z V, r = .ok z → Below W.heap.size W V → Calls Tryz.prog 67 #[.int .i64 fout, thNum z] V fun e V' => ∃ v', e = .returned v' ∧ Own V' V.heap.size v' (out z) ∧ Below V.heap.size V V') :
    Calls Tryz.prog 19 #[.int .i64 fin, .int .i64 fout, .int .i64 d, .int .i64 l, .slice a n c] W (TrSays W out r) := by
  have HT : Hid (TrBox (trW W fin d l (.slice a n c)) W.heap.size fin d l (.slice a n c)) := trW_box ..
  have HB : Hid (Below W.heap.size W (trW W fin d l (.slice a n c))) := trW_below ..
  have cL := limitsOK_any fin fout d l (trW W fin d l (.slice a n c))
  rw [hL] at cL
  have hmf : ∀ (fn : Fn) (first cap : Array Value) (w : World), (Instr.makeFunc fn first cap).run Tryz.prog w = .ok (.func fn first cap) w := fun _ _ _ _ => rfl
  have cA : Calls Tryz.prog 39 #[.func (.func 40) #[] #[.pointer (some ⟨W.heap.size, 0, none⟩), .pointer (some ⟨W.heap.size + 1, 0, none⟩), .pointer (some ⟨W.heap.size + 2, 0, none⟩), .pointer (some ⟨W.heap.size + 3, 0, none⟩)]] (trW W fin d l (.slice a n c)) fun e W' => e = .returned (attV thNum r) ∧ Below (trW W fin d l (.slice a n c)).heap.size (trW W fin d l (.slice a n c)) W' := by
    have b2 : Below (trW W fin d l (.slice a n c)).heap.size (trW W fin d l (.slice a n c)) (((trW W fin d l (.slice a n c)).alloc (.cells #[.int .i64 0] 31)).alloc (.cells #[.int .i64 0] 3)) := ((Below.refl _ _).alloc (Nat.le_refl _) _).alloc (by simp) _
    refine attempt_any thNum _ _ _ r rfl ?_
    exact trInner_any thNum _ _ fin d l a n c r (HT.out.below b2) (cD _ (HB.out.trans (b2.mono HB.out.size)))
  have c0 := HT.out.b0.cell
  have c1 := HT.out.b1.cell
  have c2 := HT.out.b2.cell
  clear HT cD
  have HV : Hid (trW W fin d l (.slice a n c) = (((W.alloc (.cells #[.int .i64 fin] 3)).alloc (.cells #[.int .i64 d] 3)).alloc (.cells #[.int .i64 l] 3)).alloc (.cells #[.slice a n c] 28)) := rfl
  generalize trW W fin d l (.slice a n c) = V at *
  have hv := HV.out
  subst hv
  clear HV hL
  rcases r with ⟨en, pl⟩ | z
  · have hen := hr en pl rfl
    have hq : (en == 0) = false := by simpa using hen
    clear hr cW
    unfold attV at cA
    go_enter Tryz.func19, Tryz.ntmps19
    go_wp2_with (first
      | (go_at_call 38; refine cL.mono ?_; clear cL; rintro e w2 ⟨rfl, rfl⟩)
      | (go_at_call 39; refine cA.mono ?_; clear cA; rintro e w3 ⟨rfl, hB3⟩))
    go_ret3
    exact ⟨HB.out.trans (hB3.mono HB.out.size), rfl⟩
  · clear hr
    unfold attV at cA
    have cWr : ∀ V, Below W.heap.size W V → Calls Tryz.prog 42 #[.int .i64 fout, thNum z] V fun e V' => ∃ v', e = .returned (.tuple #[v', .int .i64 0]) ∧ Own V' V.heap.size v' (out z) ∧ Below V.heap.size V V' := fun V hV => by
      cases hf : (fout == 1)
      · exact write_bin V fout _ _ _ hf (cW z V rfl hV)
      · obtain rfl : fout = 1 := by simpa using hf
        refine write_json V _ _ _ ((hasBytes_num z V).mono ?_) (fun U hU => (cW z U rfl (hV.trans (hU.mono hV.size))).mono ?_)
        · rintro e w2 ⟨rfl, rfl⟩
          exact ⟨rfl, Below.refl _ _⟩
        · rintro e w2 ⟨v', rfl, h1, h2⟩
          exact ⟨v', rfl, Own.mono h1 hU.size, h2.mono hU.size⟩
    clear cW
    go_enter Tryz.func19, Tryz.ntmps19
    go_wp2_with (first
      | (go_at_call 38; refine cL.mono ?_; clear cL; rintro e w2 ⟨rfl, rfl⟩)
      | (go_at_call 39; refine cA.mono ?_; clear cA; rintro e w3 ⟨rfl, hB3⟩; have HB3 : Hid (Below W.heap.size W w3) := HB.out.trans (hB3.mono HB.out.size); clear HB hB3; have cW2 := cWr w3 HB3.out; clear cWr; unfold thNum at cW2; unfold thNum)
      | (go_at_call 42; refine cW2.mono ?_; clear cW2; rintro e w5 ⟨v5, rfl, h5, hB5⟩; obtain ⟨h51, h52, a5, n5, k5, rfl⟩ := h5))
    go_ret3
    exact ⟨HB3.out.trans (hB5.mono HB3.out.size), _, rfl, Own.mono ⟨h51, h52, _, _, _, rfl⟩ HB3.out.size⟩
end Go.Proofs.YtllcbnfmihfaaaaGreatDoor
