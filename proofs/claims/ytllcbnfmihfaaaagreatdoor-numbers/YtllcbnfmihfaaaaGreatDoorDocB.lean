import Derived.Test.YtllcbnfmihfaaaaGreatDoorBinT
namespace Go.Proofs.YtllcbnfmihfaaaaGreatDoor
open Go.RowKit

theorem HdTab.of {W V : World} (h : HdTab W) (hk : ∀ k, k < W.heap.size → k ≤ 1 → V.heap[k]? = W.heap[k]?) : HdTab V := by
  have hc : ∀ (g off : Nat) (v : Value), g ≤ 1 → W.cell? ⟨g, off, none⟩ = some v → V.cell? ⟨g, off, none⟩ = some v := fun g off v hg hv => (World.cell?_of_block (w := W) (hk g (block_lt_of_cell hv) hg)).trans hv
  refine ⟨fun u hu => hc _ _ _ (by decide) (h.cb u hu), fun u hu => ?_⟩
  obtain ⟨h1, h2, h3⟩ := h.pk u hu
  exact ⟨hc _ _ _ (by decide) h1, hc _ _ _ (by decide) h2, hc _ _ _ (by decide) h3⟩
theorem HdTab.lt {W : World} (h : HdTab W) : 1 < W.heap.size := block_lt_of_cell (h.pk 0 (by decide)).1
theorem HdTab.below {W V : World} (h : HdTab W) (hb : Below W.heap.size W V) : HdTab V := h.of fun k hk _ => hb.block k hk
theorem HdTab.but {W V : World} {b : Nat} (h : HdTab W) (hb : But b W V) (hn : 1 < b) : HdTab V := h.of fun k hk h1 => hb.block k hk (by omega)

set_option maxRecDepth 100000 in
set_option maxHeartbeats 4000000 in
theorem newReader_cbor (W : World) (ia : Option Addr) (bs : List UInt8) (cap : Nat) (d l : Int) (h : BytesAt W ia bs) :
    Calls Tryz.prog 65 #[.int .i64 2, .agg #[.int .i64 d, .int .i64 l], .slice ia bs.length cap] W fun e W' =>
      ∃ b, e = .returned (.iface 201 (.agg #[.pointer (some ⟨b, 0, none⟩), .func (.func 107) #[] #[]])) ∧ SrcAt W' b ⟨ia, bs, cap, d, l, 0, 0⟩ ∧ W.heap.size ≤ b ∧ Below W.heap.size W W' := by
  have HB : Hid (BytesAt W ia bs) := h
  clear h
  go_enter Tryz.func65, Tryz.ntmps65
  go_wp2
  go_ret
  have hb : Below W.heap.size W ((W.alloc (.cells #[.int .i64 d, .int .i64 l] 86)).alloc (.cells #[.slice ia bs.length cap, .int .i64 d, .int .i64 l, .int .i64 0, .int .i64 0] 196)) := ((Below.refl _ _).alloc (Nat.le_refl _) _).alloc (by simp) _
  have hr := heap_new (W.alloc (.cells #[.int .i64 d, .int .i64 l] 86)) (.cells #[.slice ia bs.length cap, .int .i64 d, .int .i64 l, .int .i64 0, .int .i64 0] 196)
  rw [World.size_alloc] at hr
  exact ⟨W.heap.size + 1, rfl, src_new HB.out hb (by omega) hr, by omega, hb⟩
set_option maxRecDepth 100000 in
set_option maxHeartbeats 4000000 in
theorem newReader_pack (W : World) (ia : Option Addr) (bs : List UInt8) (cap : Nat) (d l : Int) (h : BytesAt W ia bs) :
    Calls Tryz.prog 65 #[.int .i64 3, .agg #[.int .i64 d, .int .i64 l], .slice ia bs.length cap] W fun e W' =>
      ∃ b, e = .returned (.iface 201 (.agg #[.pointer (some ⟨b, 0, none⟩), .func (.func 108) #[] #[]])) ∧ SrcAt W' b ⟨ia, bs, cap, d, l, 0, 0⟩ ∧ W.heap.size ≤ b ∧ Below W.heap.size W W' := by
  have HB : Hid (BytesAt W ia bs) := h
  clear h
  go_enter Tryz.func65, Tryz.ntmps65
  go_wp2
  go_ret
  have hb : Below W.heap.size W ((W.alloc (.cells #[.int .i64 d, .int .i64 l] 86)).alloc (.cells #[.slice ia bs.length cap, .int .i64 d, .int .i64 l, .int .i64 0, .int .i64 0] 196)) := ((Below.refl _ _).alloc (Nat.le_refl _) _).alloc (by simp) _
  have hr := heap_new (W.alloc (.cells #[.int .i64 d, .int .i64 l] 86)) (.cells #[.slice ia bs.length cap, .int .i64 d, .int .i64 l, .int .i64 0, .int .i64 0] 196)
  rw [World.size_alloc] at hr
  exact ⟨W.heap.size + 1, rfl, src_new HB.out hb (by omega) hr, by omega, hb⟩
theorem skipSpace_src (W : World) (b : Nat) : Calls Tryz.prog 291 #[.pointer (some ⟨b, 0, none⟩)] W fun e W' => e = .returned (.tuple #[]) ∧ W' = W := by
  go_enter Tryz.func291, Tryz.ntmps291
  go_wp2
  go_end0
  exact ⟨rfl, rfl⟩

set_option maxRecDepth 100000 in
set_option maxHeartbeats 4000000 in
theorem document_bin (W : World) (fm : Int) (f : Nat) (hd : Nat → Nat × Nat × Nat) (ia : Option Addr) (bs : List UInt8) (cap : Nat) (d l : Int) (c : UInt8) (so w g x : Nat) (z : Int) (h : BytesAt W ia bs) (ht : HdTab W) (hc : bs[0]? = some c) (hl : ¬ (0 : Int) = l)
    (hf : f = 107 ∨ f = 108) (hso : so = 4 ∨ so = 5 ∨ so = 6) (hw : w ≤ 8) (hg : w = 0 ∨ g = 0) (hx : x < 18446744073709551616) (hhd : hd c.toNat = (so, w, g))
    (hA : argF bs l w 1 g = .ok (x, bs.length)) (hN : nbF so w x bs.length = .ok z)
    (cR : ∀ V, BytesAt V ia bs → Calls Tryz.prog 65 #[.int .i64 fm, .agg #[.int .i64 d, .int .i64 l], .slice ia bs.length cap] V fun e W' => ∃ b, e = .returned (.iface 201 (.agg #[.pointer (some ⟨b, 0, none⟩), .func (.func f) #[] #[]])) ∧ SrcAt W' b ⟨ia, bs, cap, d, l, 0, 0⟩ ∧ V.heap.size ≤ b ∧ Below V.heap.size V W')
    (cH : ∀ V, HdTab V → Calls Tryz.prog f #[.int .u8 c.toNat] V fun e W' => e = .returned (.agg (hdA (hd c.toNat))) ∧ Below V.heap.size V W') :
    Calls Tryz.prog 41 #[.int .i64 fm, .agg #[.int .i64 d, .int .i64 l], .slice ia bs.length cap] W (Says1 W thNum (.ok z)) := by
  have hb0 : Below W.heap.size W (W.alloc (.cells #[.int .i64 d, .int .i64 l] 86)) := (Below.refl _ _).alloc (Nat.le_refl _) _
  have HB0 : Hid (Below W.heap.size W (W.alloc (.cells #[.int .i64 d, .int .i64 l] 86))) := hb0
  have cN := cR (W.alloc (.cells #[.int .i64 d, .int .i64 l] 86)) (h.below hb0)
  have hlt := ht.lt
  clear hb0 h cR
  go_enter Tryz.func41, Tryz.ntmps41
  go_wp2_with (first
    | (go_at_call 65; refine cN.mono ?_; clear cN; rintro e w2 ⟨b, rfl, hS, hbl, hB⟩))
  have HBW : Hid (Below W.heap.size W w2) := HB0.out.trans (hB.mono HB0.out.size)
  have hbl2 : W.heap.size ≤ b := by simp only [World.size_alloc] at hbl; omega
  have ht2 : HdTab w2 := ht.below HBW.out
  have h00 : Here ⟨ia, bs, cap, d, l, 0, 0⟩ c := ⟨hc, hl⟩
  have hcl : c.toNat < 256 := c.toNat_lt
  have cT : Calls Tryz.prog 325 #[.agg #[.pointer (some ⟨b, 0, none⟩), .func (.func f) #[] #[]]] w2 fun e W' => e = .returned (thNum z) ∧ SrcAt W' b ⟨ia, bs, cap, d, l, bs.length, 0⟩ ∧ But b w2 W' :=
    readThing_bin w2 b ⟨ia, bs, cap, d, l, 0, 0⟩ c f so w g x bs.length z hS h00 hso hw hg hx hA hN hf (fun V hV => by
      have := cH V (ht2.but hV (by omega))
      rw [hhd] at this
      exact this)
  clear hso hw hg hx hA hN hf cH hc hl h00 hhd ht2 ht hB hbl hS HB0 hcl
  refine upon_ok (y := (291, .pointer (some ⟨b, 0, none⟩))) (w := w2) (by kernel_rfl) ?_
  go_wp2_with fail
  refine (skipSpace_src w2 b).mono ?_
  rintro e w3 ⟨rfl, rfl⟩
  go_wp2_with fail
  refine upon_ok (y := (325, .agg #[.pointer (some ⟨b, 0, none⟩), .func (.func f) #[] #[]])) (w := w3) (by kernel_rfl) ?_
  go_wp2_with fail
  refine cT.mono ?_
  clear cT
  rintro e w4 ⟨rfl, hS4, hB4⟩
  have HBW4 : Hid (Below W.heap.size W w4) := but_below HBW.out hB4 hbl2
  have cE := readEnd_any w4 b ⟨ia, bs, cap, d, l, bs.length, 0⟩ hS4
  have hend : endF ⟨ia, bs, cap, d, l, bs.length, 0⟩ = .ok ((), bs.length) := by
    unfold endF
    simp only []
    rw [List.getElem?_eq_none (Nat.le_refl _)]
  have cE2 : Calls Tryz.prog 290 #[.pointer (some ⟨b, 0, none⟩)] w4 (Gives w4 b ⟨ia, bs, cap, d, l, bs.length, 0⟩ (fun _ : Unit => .tuple #[]) (.ok ((), bs.length))) := by rw [← hend]; exact cE
  clear cE hend hB4 hS4 HBW
  go_wp2_with fail
  refine upon_ok (y := (291, .pointer (some ⟨b, 0, none⟩))) (w := w4) (by kernel_rfl) ?_
  go_wp2_with fail
  refine (skipSpace_src w4 b).mono ?_
  rintro e w5 ⟨rfl, rfl⟩
  go_wp2_with fail
  refine upon_ok (y := (290, .pointer (some ⟨b, 0, none⟩))) (w := w5) (by kernel_rfl) ?_
  go_wp2_with fail
  refine cE2.mono ?_
  clear cE2
  rintro e w6 ⟨hB6, rfl, hS6⟩
  go_wp2
  go_ret
  exact ⟨but_below HBW4.out hB6 hbl2, rfl⟩
end Go.Proofs.YtllcbnfmihfaaaaGreatDoor
