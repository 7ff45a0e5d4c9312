import Derived.Test.YtllcbnfmihfaaaaGreatDoorBase
import Derived.Deep.RegionHeld3
import Derived.RangeFuncRecord
namespace Go.Proofs.YtllcbnfmihfaaaaGreatDoor
open Go.RowKit

/-- A source, as data: the input, the limits, how many bytes are taken, within how many containers. -/
structure Src where
  ia : Option Addr
  bs : List UInt8
  cap : Nat
  depth : Int
  lim : Int
  pos : Nat
  within : Nat
def Src.arr (s : Src) : Array Value := #[.slice s.ia s.bs.length s.cap, .int .i64 s.depth, .int .i64 s.lim, .int .i64 s.pos, .int .i64 s.within]
/-- It lies at block b. -/
structure SrcAt (W : World) (b : Nat) (s : Src) : Prop where
  row : W.heap[b]? = some (.cells s.arr 196)
  inp : ∀ i (h : i < s.bs.length), ∃ g off, s.ia = some ⟨g, off, none⟩ ∧ g ≠ b ∧ W.cell? ⟨g, off + i, none⟩ = some (.int .u8 (s.bs[i]'h).toNat)
  len : s.bs.length ≤ maxLen
  le : s.pos ≤ s.bs.length
/-- Nothing that was there turns, but for block b. -/
structure But (b : Nat) (W W' : World) : Prop where
  os : W'.os = W.os
  tape : W'.tape = W.tape
  output : W'.output = W.output
  size : W.heap.size ≤ W'.heap.size
  block : ∀ k, k < W.heap.size → k ≠ b → W'.heap[k]? = W.heap[k]?
theorem But.refl (b : Nat) (W : World) : But b W W := ⟨rfl, rfl, rfl, Nat.le_refl _, fun _ _ _ => rfl⟩
theorem But.trans {b : Nat} {A B C : World} (h : But b A B) (k : But b B C) : But b A C :=
  ⟨k.os.trans h.os, k.tape.trans h.tape, k.output.trans h.output, Nat.le_trans h.size k.size, fun i h1 h2 => (k.block i (by have := h.size; omega) h2).trans (h.block i h1 h2)⟩
theorem But.of_below {b : Nat} {W W' : World} (h : Below W.heap.size W W') : But b W W' := ⟨h.os, h.tape, h.output, h.size, fun k h1 _ => h.block k h1⟩
theorem SrcAt.below {W W' : World} {b : Nat} {s : Src} (h : SrcAt W b s) (hb : Below W.heap.size W W') : SrcAt W' b s :=
  ⟨(hb.block _ (Array.getElem?_eq_some_iff.1 h.row).1).trans h.row, fun i hi => by
    obtain ⟨g, off, e1, e2, e3⟩ := h.inp i hi
    exact ⟨g, off, e1, e2, (hb.cell (p := ⟨g, off + i, none⟩) (block_lt_of_cell e3)).trans e3⟩, h.len, h.le⟩
/-- The panic of a reading. -/
def failV (e p : Int) : Value := .iface 134 (.agg #[.int .i64 e, .int .i64 p])
def Fails (e p : Int) (en : Ending) : Prop := en = .panicked [{ v := failV e p, recovered := false }]

theorem below_drewN' (W : World) (n : Nat) : Below W.heap.size W (W.drewN n) := ⟨rfl, rfl, rfl, Nat.le_refl _, fun _ _ => rfl⟩
theorem drew1 (W : World) : W.drew = W.drewN 1 := rfl
theorem drew2 (W : World) : W.drew.drew = W.drewN 2 := rfl

set_option maxRecDepth 100000 in
set_option maxHeartbeats 1000000 in
theorem more_end (W : World) (b : Nat) (s : Src) (h : SrcAt W b s) (h1 : s.pos = s.bs.length) :
    Calls Tryz.prog 293 #[.pointer (some ⟨b, 0, none⟩)] W fun e W' => e = .returned (.bool false) ∧ ∃ n, W' = W.drewN n := by
  have k0 : W.cell? ⟨b, 0, none⟩ = some (.slice s.ia s.bs.length s.cap) := cellOfHeap h.row 0
  have k3 : W.cell? ⟨b, 3, none⟩ = some (.int .i64 s.pos) := cellOfHeap h.row 3
  have h1' : (s.pos : Int) = s.bs.length := by omega
  clear h h1
  go_enter Tryz.func293, Tryz.ntmps293
  go_wp2
  go_region
  go_wp2
  go_ret
  exact ⟨rfl, 1, rfl⟩
set_option maxRecDepth 100000 in
set_option maxHeartbeats 1000000 in
theorem more_size (W : World) (b : Nat) (s : Src) (h : SrcAt W b s) (h1 : s.pos < s.bs.length) (h2 : (s.pos : Int) = s.lim) :
    Calls Tryz.prog 293 #[.pointer (some ⟨b, 0, none⟩)] W fun e W' => Fails 8 s.pos e ∧ ∃ n, W' = W.drewN n := by
  have k0 : W.cell? ⟨b, 0, none⟩ = some (.slice s.ia s.bs.length s.cap) := cellOfHeap h.row 0
  have k2 : W.cell? ⟨b, 2, none⟩ = some (.int .i64 s.lim) := cellOfHeap h.row 2
  have k3 : W.cell? ⟨b, 3, none⟩ = some (.int .i64 s.pos) := cellOfHeap h.row 3
  have h1' : ¬ (s.pos : Int) = s.bs.length := by omega
  clear h h1
  go_enter Tryz.func293, Tryz.ntmps293
  go_wp2
  go_region
  go_wp2
  go_region
  go_wp2
  exact ⟨rfl, by rw [h2]; rfl, 2, rfl⟩
set_option maxRecDepth 100000 in
set_option maxHeartbeats 1000000 in
theorem more_byte (W : World) (b : Nat) (s : Src) (h : SrcAt W b s) (h1 : s.pos < s.bs.length) (h2 : ¬ (s.pos : Int) = s.lim) :
    Calls Tryz.prog 293 #[.pointer (some ⟨b, 0, none⟩)] W fun e W' => e = .returned (.bool true) ∧ ∃ n, W' = W.drewN n := by
  have k0 : W.cell? ⟨b, 0, none⟩ = some (.slice s.ia s.bs.length s.cap) := cellOfHeap h.row 0
  have k2 : W.cell? ⟨b, 2, none⟩ = some (.int .i64 s.lim) := cellOfHeap h.row 2
  have k3 : W.cell? ⟨b, 3, none⟩ = some (.int .i64 s.pos) := cellOfHeap h.row 3
  have h1' : ¬ (s.pos : Int) = s.bs.length := by omega
  clear h h1
  go_enter Tryz.func293, Tryz.ntmps293
  go_wp2
  go_region
  go_wp2
  go_region
  go_wp2
  go_ret
  exact ⟨rfl, 2, rfl⟩

/-- Where a source stands: at the input's end, at the limit, at a byte. -/
def Ends (s : Src) : Prop := s.pos = s.bs.length
def Full (s : Src) : Prop := s.pos < s.bs.length ∧ (s.pos : Int) = s.lim
def Here (s : Src) (c : UInt8) : Prop := s.bs[s.pos]? = some c ∧ ¬ (s.pos : Int) = s.lim
theorem src_cases {W : World} {b : Nat} {s : Src} (h : SrcAt W b s) : Ends s ∨ Full s ∨ ∃ c, Here s c := by
  have := h.le
  by_cases h1 : s.pos = s.bs.length
  · exact .inl h1
  · by_cases h2 : (s.pos : Int) = s.lim
    · exact .inr (.inl ⟨by omega, h2⟩)
    · exact .inr (.inr ⟨s.bs[s.pos]'(by omega), by rw [List.getElem?_eq_getElem (by omega)], h2⟩)
theorem Here.lt {s : Src} {c : UInt8} (h : Here s c) : s.pos < s.bs.length := (List.getElem?_eq_some_iff.1 h.1).1
theorem Here.cell {W : World} {b : Nat} {s : Src} {c : UInt8} (h : SrcAt W b s) (hc : Here s c) : ∃ g off, s.ia = some ⟨g, off, none⟩ ∧ g ≠ b ∧ W.cell? ⟨g, off + s.pos, none⟩ = some (.int .u8 c.toNat) := by
  obtain ⟨g, off, e1, e2, e3⟩ := h.inp s.pos hc.lt
  have := (List.getElem?_eq_some_iff.1 hc.1).2
  rw [this] at e3
  exact ⟨g, off, e1, e2, e3⟩

/-- A byte is taken. -/
def Src.next (s : Src) : Src := { s with pos := s.pos + 1 }
theorem src_next {W : World} {b : Nat} {s : Src} (h : SrcAt W b s) (hl : s.pos < s.bs.length) (n : Nat) : SrcAt ((W.drewN n).setCell ⟨b, 3, none⟩ (.int .i64 ((s.pos : Int) + 1))) b s.next ∧ But b W ((W.drewN n).setCell ⟨b, 3, none⟩ (.int .i64 ((s.pos : Int) + 1))) := by
  have hr : (W.drewN n).heap[b]? = some (.cells s.arr 196) := h.row
  have hlt : b < W.heap.size := (Array.getElem?_eq_some_iff.1 h.row).1
  refine ⟨⟨?_, fun i hi => ?_, h.len, ?_⟩, ⟨rfl, rfl, rfl, by simp [World.setCell, World.drewN], fun k hk hne => ?_⟩⟩
  · rw [heap_setCell_same _ _ _ _ _ _ hr]
    rfl
  · obtain ⟨g, off, e1, e2, e3⟩ := h.inp i hi
    refine ⟨g, off, e1, e2, ?_⟩
    have : ((W.drewN n).setCell ⟨b, 3, none⟩ (.int .i64 ((s.pos : Int) + 1))).heap[g]? = W.heap[g]? := heap_setCell_other (W.drewN n) _ _ _ (by simpa using e2)
    exact (World.cell?_of_block (w := W) this).trans e3
  · show s.pos + 1 ≤ s.bs.length
    omega
  · exact heap_setCell_other (W.drewN n) _ _ _ (by simpa using hne)

set_option maxRecDepth 100000 in
set_option maxHeartbeats 1000000 in
theorem take_end (W : World) (b : Nat) (s : Src) (h : SrcAt W b s) (h1 : Ends s) :
    Calls Tryz.prog 294 #[.pointer (some ⟨b, 0, none⟩)] W fun e W' => Fails 9 s.pos e ∧ Below W.heap.size W W' := by
  have cM := more_end W b s h h1
  have k3 : W.cell? ⟨b, 3, none⟩ = some (.int .i64 s.pos) := cellOfHeap h.row 3
  clear h h1
  go_enter Tryz.func294, Tryz.ntmps294
  go_wp2_with (first | (go_at_call 293; refine cM.mono ?_; clear cM; rintro e w2 ⟨rfl, n, rfl⟩))
  exact ⟨rfl, rfl, below_drewN' _ _⟩
set_option maxRecDepth 100000 in
set_option maxHeartbeats 1000000 in
theorem take_size (W : World) (b : Nat) (s : Src) (h : SrcAt W b s) (h1 : Full s) :
    Calls Tryz.prog 294 #[.pointer (some ⟨b, 0, none⟩)] W fun e W' => Fails 8 s.pos e ∧ Below W.heap.size W W' := by
  have cM := more_size W b s h h1.1 h1.2
  clear h h1
  go_enter Tryz.func294, Tryz.ntmps294
  go_wp2_with (first | (go_at_call 293; refine cM.mono ?_; clear cM; rintro e w2 ⟨rfl, n, rfl⟩))
  exact ⟨rfl, rfl, below_drewN' _ _⟩
set_option maxRecDepth 100000 in
set_option maxHeartbeats 1000000 in
theorem take_byte (W : World) (b : Nat) (s : Src) (c : UInt8) (h : SrcAt W b s) (h1 : Here s c) :
    Calls Tryz.prog 294 #[.pointer (some ⟨b, 0, none⟩)] W fun e W' => e = .returned (.int .u8 c.toNat) ∧ SrcAt W' b s.next ∧ But b W W' := by
  have cM := more_byte W b s h h1.lt h1.2
  have HN : Hid (∀ n, SrcAt ((W.drewN n).setCell ⟨b, 3, none⟩ (.int .i64 ((s.pos : Int) + 1))) b s.next ∧ But b W ((W.drewN n).setCell ⟨b, 3, none⟩ (.int .i64 ((s.pos : Int) + 1)))) := src_next h h1.lt
  have hl := h1.lt
  have hm := h.len
  unfold maxLen at hm
  obtain ⟨g, off, e1, e2, e3⟩ := h1.cell h
  have k3 : W.cell? ⟨b, 3, none⟩ = some (.int .i64 s.pos) := cellOfHeap h.row 3
  have f3 : W.frozen? ⟨b, 3, none⟩ = false := frozen_of_row W b 3 _ _ h.row
  go_enter Tryz.func294, Tryz.ntmps294
  go_wp2_with (first | (go_at_call 293; refine cM.mono ?_; clear cM; rintro e w2 ⟨rfl, n, rfl⟩))
  obtain ⟨hS, hB⟩ := HN.out n
  have HS : Hid (SrcAt ((W.drewN n).setCell ⟨b, 3, none⟩ (.int .i64 ((s.pos : Int) + 1))) b s.next) := hS
  have HB : Hid (But b W ((W.drewN n).setCell ⟨b, 3, none⟩ (.int .i64 ((s.pos : Int) + 1)))) := hB
  have c0 : ((W.drewN n).setCell ⟨b, 3, none⟩ (.int .i64 ((s.pos : Int) + 1))).cell? ⟨b, 0, none⟩ = some (.slice (some ⟨g, off, none⟩) s.bs.length s.cap) := by rw [← e1]; exact cellOfHeap hS.row 0
  have c3 : ((W.drewN n).setCell ⟨b, 3, none⟩ (.int .i64 ((s.pos : Int) + 1))).cell? ⟨b, 3, none⟩ = some (.int .i64 ((s.pos : Int) + 1)) := cellOfHeap hS.row 3
  have cb : ((W.drewN n).setCell ⟨b, 3, none⟩ (.int .i64 ((s.pos : Int) + 1))).cell? ⟨g, off + s.pos, none⟩ = some (.int .u8 c.toNat) := by
    have : ((W.drewN n).setCell ⟨b, 3, none⟩ (.int .i64 ((s.pos : Int) + 1))).heap[g]? = W.heap[g]? := heap_setCell_other (W.drewN n) _ _ _ (by simpa using e2)
    exact (World.cell?_of_block (w := W) this).trans e3
  clear HN hS hB k3 f3 e3 e1 h h1
  generalize (W.drewN n).setCell ⟨b, 3, none⟩ (.int .i64 ((s.pos : Int) + 1)) = V at *
  go_region
  go_wp2
  go_ret
  exact ⟨rfl, HS.out.below (Below.refl _ _).drew, HB.out.trans (But.of_below (Below.refl _ _).drew)⟩
end Go.Proofs.YtllcbnfmihfaaaaGreatDoor
