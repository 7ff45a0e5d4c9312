import Derived.Test.YtllcbnfmihfaaaaGreatDoorDoc
import Derived.WalkKit
import Derived.BigCall
import Derived.Maps.AppendAt
import Derived.Deep.OwnRows
import Derived.RangeFuncBox
namespace Go.Proofs.YtllcbnfmihfaaaaGreatDoor
open Go.RowKit

theorem Tryz.infoU8 : (Tryz.prog.info? 5).map (fun i => (i.zero, i.size, i.bytes)) = some (some (.int .u8 0), 1, 1) := by kernel_rfl
def byteV (b : UInt8) : Value := .int .u8 b.toNat
theorem blk_ge {W : World} {base : Nat} {e : TypeId} {size : Nat} {v : Value} {n : Nat} {xs : List Value} (ho : W.ownsRow base e size v n xs) {g : Nat} (h : v.ownBlock = some g) : base ≤ g := by
  rcases ho.2 with ⟨h0, _⟩ | ⟨g', cap, cur, rfl, hb', _⟩
  · subst h0; cases h
  · cases h; exact hb'
theorem cell_made (w : World) (cs : Array Value) (t : TypeId) : ∀ (j : Nat) (u : Value), cs.toList[j]? = some u → (w.alloc (.cells cs t)).cell? ((⟨w.heap.size, 0, none⟩ : Addr).add j) = some u := fun j u hu => by
  have e : (⟨w.heap.size, 0, none⟩ : Addr).add j = ⟨w.heap.size, j, none⟩ := by by_cases h : j = 0 <;> simp [Addr.add, h]
  rw [e, cell_of_row _ _ _ _ _ _ (heap_new _ _)]
  simpa using hu
/-- A slice of bytes that is the caller's own. -/
def Own (W : World) (base : Nat) (v : Value) (bs : List UInt8) : Prop := W.ownsRow base 5 1 v bs.length (bs.map byteV) ∧ base ≤ W.heap.size ∧ ∃ a n c, v = .slice a n c
/-- So many bytes of a number, the highest first. -/
def beF (x : Nat) : Nat → List UInt8
  | 0 => []
  | k + 1 => UInt8.ofNat (x / 2 ^ (8 * k) % 256) :: beF x k

theorem byteV_of (x k : Nat) : byteV (UInt8.ofNat (x / 2 ^ (8 * k) % 256)) = .int .u8 ((x : Int) / 2 ^ (8 * k) % 256) := by
  unfold byteV
  have e : (UInt8.ofNat (x / 2 ^ (8 * k) % 256)).toNat = x / 2 ^ (8 * k) % 256 := by
    rw [UInt8.toNat_ofNat']
    have : x / 2 ^ (8 * k) % 256 < 256 := Nat.mod_lt _ (by decide)
    omega
  rw [e]
  congr 1
theorem own_next {W' : World} {base : Nat} {v' : Value} {ys : List UInt8} {b : UInt8} {u : Value} (h : W'.ownsRow base 5 1 v' (ys.length + 1) (ys.map byteV ++ [u])) (hu : byteV b = u) : W'.ownsRow base 5 1 v' (ys ++ [b]).length ((ys ++ [b]).map byteV) := by
  rw [List.length_append, List.map_append]
  subst hu
  exact h
theorem grown_below {W V W' : World} {base : Nat} {v : Value} {n : Nat} {xs : List Value} {t : TypeId} {z : Nat} (hb : Below base W V) (ho : V.ownsRow base t z v n xs) (hg : V.grownBy W' v.ownBlock) (hs : base ≤ V.heap.size) : Below base W W' :=
  hb.trans ⟨hg.os, hg.tape, hg.output, hg.size, fun i hi => hg.block i (by omega) (fun e => by have := blk_ge ho e.symm; omega)⟩

set_option maxRecDepth 100000 in
set_option maxHeartbeats 2000000 in
theorem appendArg_any (W : World) (base : Nat) (v : Value) (bs : List UInt8) (x w : Nat) (_hx : x < 18446744073709551616) (hw : w ≤ 8) (hl : bs.length ≤ 1000000000) (h : Own W base v bs) :
    Calls Tryz.prog 202 #[v, .int .u64 x, .int .i64 w] W fun e W' => ∃ v', e = .returned v' ∧ Own W' base v' (bs ++ beF x w) ∧ Below base W W' := by
  obtain ⟨i0, hi, hz0, hz1, hz2⟩ := info_parts Tryz.infoU8
  obtain ⟨ho, hb, a, n, c, rfl⟩ := h
  have HO : Hid (W.ownsRow base 5 1 (.slice a n c) bs.length (bs.map byteV)) := ho
  clear ho
  go_enter Tryz.func202, Tryz.ntmps202
  go_wp2
  go_loopg [0, 7] w (fun g y z wr => ∃ (ys : List UInt8) (a n c : _), y = .slice a n c ∧ z = .int .i64 ((g : Int) - 1) ∧ g ≤ w ∧ ys.length ≤ 1000000000 + (w - g) ∧ base ≤ wr.heap.size ∧ Hid (wr.ownsRow base 5 1 (.slice a n c) ys.length (ys.map byteV)) ∧ Hid (Below base W wr) ∧ Hid (ys ++ beF x g = bs ++ beF x w))
  case atStart => exact ⟨bs, a, n, c, rfl, by go_num, Nat.le_refl _, by omega, hb, HO, Below.refl _ _, rfl⟩
  case round =>
    clear HO hb
    obtain ⟨ys, a, n, c, rfl, rfl, hg, hyl, hb, HO, HB, HE⟩ := hrel
    cases gk with
    | zero =>
      go_wp2
      go_ret
      have e : ys = bs ++ beF x w := by have := HE.out; simpa [beF] using this
      subst e
      exact ⟨_, rfl, ⟨HO.out, hb, _, _, _, rfl⟩, HB.out⟩
    | succ k =>
      go_wp2_with (first
        | (at_builtin; refine wpList_append_own _ rfl _ _ 28 rfl base 5 i0 (.int .u8 0) 1 1 Tryz.underlying28 hi hz0 hz1 hz2 rfl (by decide) _ _ _ rfl (HO.out.alloc _) ⟨wr.heap.size, 0, none⟩ 1 1 [.int .u8 ((x : Int) / 2 ^ (8 * k) % 256)] rfl rfl (cell_made _ _ _) (fun u hu => by simp at hu; subst hu; rfl) (by unfold maxLen; omega) (by omega) (by simp; omega) ?_; intro v' w5 hown' hgrow5 hnil5; clear hnil5; obtain ⟨g5, cap5, rfl⟩ := ownsRow_succ hown'))
      go_roundg k
      case measure => omega
      case rel =>
        refine ⟨ys ++ [UInt8.ofNat (x / 2 ^ (8 * k) % 256)], _, _, _, rfl, by go_num, by omega, by rw [List.length_append]; simp; omega, ?_, own_next hown' (byteV_of x k), grown_below (HB.out.trans ((Below.refl base wr).alloc hb _)) (HO.out.alloc _) hgrow5 (by simp; omega), ?_⟩
        · have := hgrow5.size; simp at this; omega
        · show _ = _
          have := HE.out
          rw [beF] at this
          rw [List.append_assoc]
          exact this
end Go.Proofs.YtllcbnfmihfaaaaGreatDoor
