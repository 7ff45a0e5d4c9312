import Derived.Test.YtllcbnfmihfaaaaGreatDoorDoc
namespace Go.Proofs.YtllcbnfmihfaaaaGreatDoor
open Go.RowKit

/-- Bytes in memory. -/
structure BytesAt (W : World) (ia : Option Addr) (bs : List UInt8) : Prop where
  at_ : ∀ i (h : i < bs.length), ∃ g off, ia = some ⟨g, off, none⟩ ∧ g < W.heap.size ∧ W.cell? ⟨g, off + i, none⟩ = some (.int .u8 (bs[i]'h).toNat)
  len : bs.length ≤ maxLen
theorem BytesAt.below {W W' : World} {ia : Option Addr} {bs : List UInt8} (h : BytesAt W ia bs) (hb : Below W.heap.size W W') : BytesAt W' ia bs :=
  ⟨fun i hi => by
    obtain ⟨g, off, e1, e2, e3⟩ := h.at_ i hi
    exact ⟨g, off, e1, Nat.lt_of_lt_of_le e2 hb.size, (hb.cell (p := ⟨g, off + i, none⟩) e2).trans e3⟩, h.len⟩
/-- A new source over bytes. -/
theorem src_new {W W' : World} {ia : Option Addr} {bs : List UInt8} {cap : Nat} {d l : Int} {b : Nat} (h : BytesAt W ia bs) (hb : Below W.heap.size W W') (hlt : W.heap.size ≤ b)
    (hr : W'.heap[b]? = some (.cells (Src.arr ⟨ia, bs, cap, d, l, 0, 0⟩) 196)) : SrcAt W' b ⟨ia, bs, cap, d, l, 0, 0⟩ :=
  ⟨hr, fun i hi => by
    obtain ⟨g, off, e1, e2, e3⟩ := h.at_ i hi
    exact ⟨g, off, e1, by omega, (hb.cell (p := ⟨g, off + i, none⟩) e2).trans e3⟩, h.len, Nat.zero_le _⟩

set_option maxRecDepth 100000 in
set_option maxHeartbeats 4000000 in
theorem newReader_json (W : World) (ia : Option Addr) (bs : List UInt8) (cap : Nat) (d l : Int) (h : BytesAt W ia bs) :
    Calls Tryz.prog 65 #[.int .i64 1, .agg #[.int .i64 d, .int .i64 l], .slice ia bs.length cap] W fun e W' =>
      ∃ b, e = .returned (.iface 198 (.agg #[.pointer (some ⟨b, 0, none⟩)])) ∧ SrcAt W' b ⟨ia, bs, cap, d, l, 0, 0⟩ ∧ W.heap.size ≤ b ∧ Below W.heap.size W W' := by
  have HB : Hid (BytesAt W ia bs) := h
  clear h
  go_enter Tryz.func65, Tryz.ntmps65
  go_wp2
  go_ret
  have hb : Below W.heap.size W ((W.alloc (.cells #[.int .i64 d, .int .i64 l] 86)).alloc (.cells #[.slice ia bs.length cap, .int .i64 d, .int .i64 l, .int .i64 0, .int .i64 0] 196)) := ((Below.refl _ _).alloc (Nat.le_refl _) _).alloc (by simp) _
  have hr := heap_new (W.alloc (.cells #[.int .i64 d, .int .i64 l] 86)) (.cells #[.slice ia bs.length cap, .int .i64 d, .int .i64 l, .int .i64 0, .int .i64 0] 196)
  rw [World.size_alloc] at hr
  exact ⟨W.heap.size + 1, rfl, src_new HB.out hb (by omega) hr, by omega, hb⟩

theorem but_below {W V V' : World} {b : Nat} (h : Below W.heap.size W V) (hk : But b V V') (hb : W.heap.size ≤ b) : Below W.heap.size W V' :=
  ⟨hk.os.trans h.os, hk.tape.trans h.tape, hk.output.trans h.output, Nat.le_trans h.size hk.size, fun k hk2 => (hk.block k (by have := h.size; omega) (by omega)).trans (h.block k hk2)⟩

/-- A document that is a number in JSON: the number, or the error and its place. -/
def docN (bs : List UInt8) (lim : Int) (c : UInt8) : Except (Int × Int) Int :=
  match numF ⟨none, bs, 0, 0, lim, 1, 0⟩ c with
  | .error e => .error e
  | .ok (z, p) => match spF bs lim (bs.length + 1 - p) p with
    | .error e => .error e
    | .ok (_, q) => match endF ⟨none, bs, 0, 0, lim, q, 0⟩ with
      | .error e => .error e
      | .ok _ => .ok z
/-- How a reading ends, seen from outside. -/
def Says1 {α : Type} (W : World) (val : α → Value) (r : Except (Int × Int) α) (e : Ending) (W' : World) : Prop :=
  Below W.heap.size W W' ∧ match r with
  | .ok z => e = .returned (val z)
  | .error (en, pl) => Fails en pl e

theorem upon_ok {α : Type} {P : Program} {o : Oper} {a : Act} {K : Act → World → Prop} {Q : Exit → Act → World → Prop} {x : Result α} {y : α} {w : World} {k : α → World → Result Next} (h : x = .ok y w) (hk : o.upon P a K Q (k y w)) : o.upon P a K Q (x.andThen k) := by rw [h]; exact hk
set_option maxRecDepth 100000 in
set_option maxHeartbeats 4000000 in
theorem document_num (W : World) (ia : Option Addr) (bs : List UInt8) (cap : Nat) (d l : Int) (h : BytesAt W ia bs) (c : UInt8) (hc : bs[0]? = some c) (hl : ¬ (0 : Int) = l) (hn : c.toNat = 45 ∨ isDig c = true) :
    Calls Tryz.prog 41 #[.int .i64 1, .agg #[.int .i64 d, .int .i64 l], .slice ia bs.length cap] W (Says1 W thNum (docN bs l c)) := by
  have hb0 : Below W.heap.size W (W.alloc (.cells #[.int .i64 d, .int .i64 l] 86)) := (Below.refl _ _).alloc (Nat.le_refl _) _
  have HB0 : Hid (Below W.heap.size W (W.alloc (.cells #[.int .i64 d, .int .i64 l] 86))) := hb0
  have cN := newReader_json (W.alloc (.cells #[.int .i64 d, .int .i64 l] 86)) ia bs cap d l (h.below hb0)
  clear hb0 h
  go_enter Tryz.func41, Tryz.ntmps41
  go_wp2_with (first
    | (go_at_call 65; refine cN.mono ?_; clear cN; rintro e w2 ⟨b, rfl, hS, hbl, hB⟩))
  have HBW : Hid (Below W.heap.size W w2) := HB0.out.trans (hB.mono HB0.out.size)
  have hbl2 : W.heap.size ≤ b := by simp only [World.size_alloc] at hbl; omega
  have h00 : Here ⟨ia, bs, cap, d, l, 0, 0⟩ c := ⟨hc, hl⟩
  have hnsp : isSp c = false := by
    unfold isSp
    simp only [Bool.or_eq_false_iff, beq_eq_false_iff_ne]
    rcases hn with hn | hn
    · omega
    · have := of_decide_eq_true hn
      omega
  have sp0 : spF bs l (bs.length + 1 - 0) 0 = .ok ((), 0) := by
    have e : bs.length + 1 - 0 = bs.length + 1 := rfl
    rw [e, spF, hc]
    simp only []
    rw [if_neg (by simpa using hl), if_neg (by rw [hnsp]; simp)]
  have cS := skipSpace_any w2 b ⟨ia, bs, cap, d, l, 0, 0⟩ hS
  have cS2 : Calls Tryz.prog 297 #[.agg #[.pointer (some ⟨b, 0, none⟩)]] w2 (Gives w2 b ⟨ia, bs, cap, d, l, 0, 0⟩ (fun _ : Unit => .tuple #[]) (.ok ((), 0))) := by rw [← sp0]; exact cS
  have cT := fun V (hV : SrcAt V b ⟨ia, bs, cap, d, l, 0, 0⟩) => readThing_num V b ⟨ia, bs, cap, d, l, 0, 0⟩ c hV h00 hn
  have hdoc : docN bs l c = docN bs l c := rfl
  obtain ⟨D, HD⟩ : ∃ D, Hid (docN bs l c = D) := ⟨_, show _ = _ from rfl⟩
  have hd2 := HD.out
  unfold docN at hd2
  obtain ⟨R1, hR1⟩ : ∃ R1, numF ⟨none, bs, 0, 0, l, 1, 0⟩ c = R1 := ⟨_, rfl⟩
  rw [hR1] at hd2
  have cT2 : ∀ V, SrcAt V b ⟨ia, bs, cap, d, l, 0, 0⟩ → Calls Tryz.prog 296 #[.agg #[.pointer (some ⟨b, 0, none⟩)]] V (Gives V b ⟨ia, bs, cap, d, l, 0, 0⟩ thNum R1) := by rw [← hR1]; exact cT
  clear cS cT hdoc hR1 sp0 hnsp h00 hc hl hn hB hbl hS HB0
  refine upon_ok (y := (297, .agg #[.pointer (some ⟨b, 0, none⟩)])) (w := w2) (by kernel_rfl) ?_
  go_wp2_with fail
  refine cS2.mono ?_
  clear cS2
  rintro e w3 ⟨hB3, rfl, hS3⟩
  have HBW3 : Hid (Below W.heap.size W w3) := but_below HBW.out hB3 hbl2
  clear hB3 HBW
  go_wp2_with fail
  refine upon_ok (y := (296, .agg #[.pointer (some ⟨b, 0, none⟩)])) (w := w3) (by kernel_rfl) ?_
  go_wp2_with fail
  refine (cT2 _ hS3).mono ?_
  clear cT2 hS3
  rcases R1 with ⟨en, pl⟩ | ⟨z, p⟩
  · rintro e w4 ⟨hB4, hF⟩
    obtain rfl := hF
    have HE : Hid (docN bs l c = .error (en, pl)) := HD.out.trans hd2.symm
    clear hd2 HD
    go_wp2
    rw [HE.out]
    exact ⟨rfl, but_below HBW3.out hB4 hbl2, rfl⟩
  · rintro e w4 ⟨hB4, rfl, hS4⟩
    have HBW4 : Hid (Below W.heap.size W w4) := but_below HBW3.out hB4 hbl2
    have cS := skipSpace_any w4 b ⟨ia, bs, cap, d, l, p, 0⟩ hS4
    obtain ⟨R2, hR2⟩ : ∃ R2, spF bs l (bs.length + 1 - p) p = R2 := ⟨_, rfl⟩
    have cS2 : Calls Tryz.prog 297 #[.agg #[.pointer (some ⟨b, 0, none⟩)]] w4 (Gives w4 b ⟨ia, bs, cap, d, l, p, 0⟩ (fun _ : Unit => .tuple #[]) R2) := by rw [← hR2]; exact cS
    simp only [] at hd2
    rw [hR2] at hd2
    clear cS hR2 hB4 HBW3 hS4
    go_wp2_with fail
    refine upon_ok (y := (297, .agg #[.pointer (some ⟨b, 0, none⟩)])) (w := w4) (by kernel_rfl) ?_
    go_wp2_with fail
    refine cS2.mono ?_
    clear cS2
    rcases R2 with ⟨en, pl⟩ | ⟨_, q⟩
    · rintro e w5 ⟨hB5, hF⟩
      obtain rfl := hF
      have HE : Hid (docN bs l c = .error (en, pl)) := HD.out.trans hd2.symm
      clear hd2 HD
      go_wp2
      rw [HE.out]
      exact ⟨rfl, but_below HBW4.out hB5 hbl2, rfl⟩
    · rintro e w5 ⟨hB5, rfl, hS5⟩
      have HBW5 : Hid (Below W.heap.size W w5) := but_below HBW4.out hB5 hbl2
      have cE := readEnd_any w5 b ⟨ia, bs, cap, d, l, q, 0⟩ hS5
      obtain ⟨R3, hR3⟩ : ∃ R3, endF ⟨none, bs, 0, 0, l, q, 0⟩ = R3 := ⟨_, rfl⟩
      have cE2 : Calls Tryz.prog 290 #[.pointer (some ⟨b, 0, none⟩)] w5 (Gives w5 b ⟨ia, bs, cap, d, l, q, 0⟩ (fun _ : Unit => .tuple #[]) R3) := by rw [← hR3]; exact cE
      simp only [] at hd2
      rw [hR3] at hd2
      clear cE hR3 hB5 HBW4 hS5
      go_wp2_with fail
      refine upon_ok (y := (290, .pointer (some ⟨b, 0, none⟩))) (w := w5) (by kernel_rfl) ?_
      go_wp2_with fail
      refine cE2.mono ?_
      clear cE2
      rcases R3 with ⟨en, pl⟩ | ⟨_, q3⟩
      · rintro e w6 ⟨hB6, hF⟩
        obtain rfl := hF
        have HE : Hid (docN bs l c = .error (en, pl)) := HD.out.trans hd2.symm
        clear hd2 HD
        go_wp2
        rw [HE.out]
        exact ⟨rfl, but_below HBW5.out hB6 hbl2, rfl⟩
      · rintro e w6 ⟨hB6, rfl, hS6⟩
        have HE : Hid (docN bs l c = .ok z) := HD.out.trans hd2.symm
        clear hd2 HD
        go_wp2
        go_ret
        rw [HE.out]
        exact ⟨but_below HBW5.out hB6 hbl2, rfl⟩
end Go.Proofs.YtllcbnfmihfaaaaGreatDoor
