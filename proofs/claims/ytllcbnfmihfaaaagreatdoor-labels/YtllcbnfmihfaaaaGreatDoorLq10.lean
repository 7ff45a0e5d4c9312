import Derived.Test.YtllcbnfmihfaaaaGreatDoorLq01
import Derived.Test.YtllcbnfmihfaaaaGreatDoorLq08
namespace Go.Proofs.YtllcbnfmihfaaaaGreatDoor
open Go.RowKit

def zPl : Nat → Nat := fun _ => 0
/-- Where widened stands. -/
structure ViAt (W : World) (X : Nat → Nat) (V : World) : Prop where
  box : V.heap[W.heap.size]? = some (.cells (plA X) 164)
  ret : V.heap[W.heap.size + 1]? = some (.cells (plA zPl) 164)
  below : Below W.heap.size W V
theorem ViAt.next {W V V' : World} {X : Nat → Nat} (h : ViAt W X V) (hb : Below V.heap.size V V') : ViAt W X V' :=
  ⟨(hb.block _ (Array.getElem?_eq_some_iff.1 h.box).1).trans h.box, (hb.block _ (Array.getElem?_eq_some_iff.1 h.ret).1).trans h.ret, h.below.trans (hb.mono h.below.size)⟩
theorem viAt_mk (W : World) (X : Nat → Nat) : ViAt W X ((W.alloc (.cells (plA X) 164)).alloc (.cells (plA zPl) 164)) :=
  ⟨(Below.heap_alloc _ _ _ (by simp)).trans (heap_new _ _), by have := heap_new (W.alloc (.cells (plA X) 164)) (.cells (plA zPl) 164); simpa using this, ((Below.refl _ _).alloc (Nat.le_refl _) _).alloc (by simp) _⟩
theorem plA_one (X : Nat → Nat) : (plA X).all (·.oneCell') = true := by
  rw [Array.all_eq_true]
  intro i h
  simp [plA, Value.oneCell']
theorem plA_sz (X Y : Nat → Nat) : (plA X).size = (plA Y).size := by rw [plA_size, plA_size]
theorem ViAt.set {W V : World} {X : Nat → Nat} (h : ViAt W X V) (g : Nat) (hg : W.heap.size + 1 < g) (cs : Array Value) : ViAt W X (V.setRow g cs) :=
  ⟨(setRow_other _ _ _ _ (by omega)).trans h.box, (setRow_other _ _ _ _ (by omega)).trans h.ret, below_setRow h.below (by omega) _⟩
theorem ViAt.cell {W V : World} {X : Nat → Nat} (h : ViAt W X V) (g j : Nat) (hg : W.heap.size + 1 < g) (v : Value) : ViAt W X (V.setCell ⟨g, j, none⟩ v) :=
  ⟨(Below.heap_setCell _ _ _ _ (by simp; omega)).trans h.box, (Below.heap_setCell _ _ _ _ (by simp; omega)).trans h.ret, h.below.setCell (by simp; omega) _⟩
theorem ViAt.drew {W V : World} {X : Nat → Nat} (h : ViAt W X V) : ViAt W X V.drew := ⟨h.box, h.ret, h.below.drew⟩
theorem wSt_succ (st X : Nat → Nat) (k : Nat) : (fun i => if i = k then w1 (st k) (X k) else wSt st X k i) = wSt st X (k + 1) := by
  funext r
  unfold wSt
  by_cases h : r = k
  · subst h
    rw [if_pos rfl, if_pos (by omega)]
  · rw [if_neg h]
    by_cases h2 : r < k
    · rw [if_pos h2, if_pos (by omega)]
    · rw [if_neg h2, if_neg (by omega)]
theorem shl16 (y : Nat) (h : y < 256) : IntKind.u16.wrap ((y : Int) * 2) = ((y <<< 1 : Nat) : Int) := by
  have := w16 (y * 2) (by omega)
  rw [Nat.shiftLeft_eq]
  rw [show ((y : Int) * 2) = ((y * 2 : Nat) : Int) by simp, this]
theorem wSt_zero (st X : Nat → Nat) : wSt st X 0 = X := by
  funext r
  unfold wSt
  rw [if_neg (by omega)]
set_option maxRecDepth 100000 in
set_option maxHeartbeats 1000000 in
theorem widened_any (W : World) (A : Nat) (ra : Option Addr) (rc n : Nat) (st : Nat → Nat) (P : Nat → Nat) (hP : ∀ r, P r < 512) (hst : ∀ r, st r < 256) (hn : n ≤ 16)
    (hA : A < W.heap.size) (c0 : W.cell? ⟨A, 0, none⟩ = some (.slice ra n rc)) (cs : ∀ r, r < 16 → W.cell? ⟨A, 3 + r, none⟩ = some (.int .u16 (st r))) :
    Calls Tryz.prog 139 #[.pointer (some ⟨A, 0, none⟩), .agg (plA P)] W fun e W' => (∃ Y, e = .returned (.agg (plA Y)) ∧ (∀ r, r < n → ∀ k, (Y r).testBit k = wdB (st r) (P r) k) ∧ (∀ r, n ≤ r → Y r = P r) ∧ ∀ r, Y r < 512) ∧ Below W.heap.size W W' := by
  have HV0 : Hid (ViAt W P ((W.alloc (.cells (plA P) 164)).alloc (.cells #[.int .u16 0, .int .u16 0, .int .u16 0, .int .u16 0, .int .u16 0, .int .u16 0, .int .u16 0, .int .u16 0, .int .u16 0, .int .u16 0, .int .u16 0, .int .u16 0, .int .u16 0, .int .u16 0, .int .u16 0, .int .u16 0] 164))) := viAt_mk W P
  have HM0 : Hid (Mid P st n P) := mid_mk P st n hP
  go_enter Tryz.func139, Tryz.ntmps139
  go_wp2
  go_loopg [] (8192 - sumP P 16) (fun g wr => ∃ X, Hid (ViAt W X wr) ∧ Hid (Mid P st n X) ∧ Hid (sumP X 16 + g = 8192))
  case atStart => exact ⟨P, HV0, HM0, by show _ = _; have := sumP_le hP 16; omega⟩
  case round =>
    clear HV0 HM0
    obtain ⟨X, HV, HM, HG⟩ := hrel
    have d0 : wr.cell? ⟨A, 0, none⟩ = some (.slice ra n rc) := (HV.out.below.cell (p := ⟨A, _, none⟩) hA).trans c0
    go_wp2_with (first
      | (refine wpList_load_row rfl 164 (.tmp 3) rfl W.heap.size rfl _ _ _ _ HV.out.box Tryz.underlying164 rfl (infoPl X) ?_)
      | (refine wpList_store_row rfl 164 (.tmp 5) (.tmp 7) rfl wr.heap.size (plA X) rfl rfl 164 (plA zPl) (heap_new wr _) (infoPl X) (plA_sz _ _) (plA_one X) ?_; have HLT : Hid (W.heap.size + 1 < wr.heap.size) := (Array.getElem?_eq_some_iff.1 HV.out.ret).1; have HV1 : Hid (ViAt W X ((wr.alloc (.cells #[.int .u16 0, .int .u16 0, .int .u16 0, .int .u16 0, .int .u16 0, .int .u16 0, .int .u16 0, .int .u16 0, .int .u16 0, .int .u16 0, .int .u16 0, .int .u16 0, .int .u16 0, .int .u16 0, .int .u16 0, .int .u16 0] 164)).setRow wr.heap.size (plA X))) := (HV.out.next ((Below.refl _ _).alloc (Nat.le_refl _) _)).set _ HLT.out _; have HW1 : Hid (((wr.alloc (.cells #[.int .u16 0, .int .u16 0, .int .u16 0, .int .u16 0, .int .u16 0, .int .u16 0, .int .u16 0, .int .u16 0, .int .u16 0, .int .u16 0, .int .u16 0, .int .u16 0, .int .u16 0, .int .u16 0, .int .u16 0, .int .u16 0] 164)).setRow wr.heap.size (plA X)).heap[wr.heap.size]? = some (.cells (plA (wSt st X 0)) 164)) := (by rw [wSt_zero]; exact setRow_heap _ _ _ _ _ _ (heap_new wr _)); generalize (wr.alloc (.cells #[.int .u16 0, .int .u16 0, .int .u16 0, .int .u16 0, .int .u16 0, .int .u16 0, .int .u16 0, .int .u16 0, .int .u16 0, .int .u16 0, .int .u16 0, .int .u16 0, .int .u16 0, .int .u16 0, .int .u16 0, .int .u16 0] 164)).setRow wr.heap.size (plA X) = V1 at *; generalize wr.heap.size = M at *; clear d0; have d0 : V1.cell? ⟨A, 0, none⟩ = some (.slice ra n rc) := (HV1.out.below.cell (p := ⟨A, _, none⟩) hA).trans c0))
    go_loopg [13] n (fun g z V => ∃ k : Nat, z = .int .i64 k ∧ Hid (k + g = n) ∧ Hid (ViAt W X V) ∧ Hid (V.heap[M]? = some (.cells (plA (wSt st X k)) 164)))
    case atStart => exact ⟨0, rfl, by show _ = _; omega, HV1, HW1⟩
    case round =>
      clear HV1 HW1 d0
      obtain ⟨k, rfl, hk, HV2, HW2⟩ := hrel
      cases gk with
      | zero =>
        have hlt : ¬ (k : Int) < (n : Int) := by have := hk.out; omega
        have hkn : k = n := by have := hk.out; omega
        subst hkn
        have hX5 : ∀ r, X r < 65536 := fun r => by have := HM.out.lt r; omega
        have hY5 : ∀ r, wSt st X k r < 65536 := fun r => by have := (HM.out.step hst).lt r; omega
        have hq := pl_eql (wSt st X k) X hY5 hX5 wr
        cases hE : plEq (wSt st X k) X with
        | true =>
          rw [hE] at hq
          have he : ∀ r, r < k → w1 (st r) (X r) = X r := fun r hr => by
            have h := plEq_true hE r (by omega)
            unfold wSt at h
            rwa [if_pos hr] at h
          have HD : Hid (∀ r, r < k → ∀ j, (X r).testBit j = wdB (st r) (P r) j) := HM.out.done he
          clear hE hX5 hY5 he
          go_wp2_with (first
            | (refine wpList_load_row rfl 164 (.tmp 5) rfl M rfl _ _ _ _ HW2.out Tryz.underlying164 rfl (infoPl _) ?_)
            | (refine wpList_load_row rfl 164 (.tmp 3) rfl W.heap.size rfl _ _ _ _ HV2.out.box Tryz.underlying164 rfl (infoPl X) ?_)
            | (refine wpList_store_row rfl 164 (.tmp 4) (.tmp 36) rfl (W.heap.size + 1) (plA X) rfl rfl 164 (plA zPl) HV2.out.ret (infoPl X) (plA_sz _ _) (plA_one X) ?_))
          refine bodyPost_ret (results_cell_row Tryz.results139 _ _ (W.heap.size + 1) 164 (plA X) (0, 0) _ rfl (setRow_heap _ _ _ _ _ _ HV2.out.ret) Tryz.underlying164 rfl (infoPl X)) rfl ⟨⟨X, rfl, HD.out, HM.out.off, HM.out.lt⟩, below_setRow HV2.out.below (by omega) _⟩
        | false =>
          rw [hE] at hq
          have HN : Hid (sumP X 16 < sumP (wSt st X k) 16) := by
            show _ < _
            have hge : ∀ r, X r ≤ wSt st X k r := fun r => by
              unfold wSt
              by_cases hr : r < k
              · rw [if_pos hr]
                exact w1_ge _ _
              · rw [if_neg hr]
                exact Nat.le_refl _
            have hex : ∃ r, r < 16 ∧ X r < wSt st X k r := by
              refine Classical.byContradiction fun hh => ?_
              have : plEq (wSt st X k) X = true := plEq_of fun r hr => by
                have h1 := hge r
                have h2 : ¬ X r < wSt st X k r := fun h => hh ⟨r, hr, h⟩
                omega
              rw [this] at hE
              cases hE
            obtain ⟨r, h1, h2⟩ := hex
            exact sumP_lt hge 16 r h1 h2
          have HM2 : Hid (Mid P st k (wSt st X k)) := HM.out.step hst
          clear hE hX5 hY5
          go_wp2_with (first
            | (refine wpList_load_row rfl 164 (.tmp 5) rfl M rfl _ _ _ _ HW2.out Tryz.underlying164 rfl (infoPl _) ?_)
            | (refine wpList_load_row rfl 164 (.tmp 3) rfl W.heap.size rfl _ _ _ _ HV2.out.box Tryz.underlying164 rfl (infoPl X) ?_)
            | (refine wpList_store_row rfl 164 (.tmp 3) (.tmp 37) rfl W.heap.size (plA (wSt st X k)) rfl rfl 164 (plA X) HV2.out.box (infoPl _) (plA_sz _ _) (plA_one _) ?_))
          have HV4 : Hid (ViAt W (wSt st X k) (wr.setRow W.heap.size (plA (wSt st X k)))) := ⟨setRow_heap _ _ _ _ _ _ HV2.out.box, (setRow_other _ _ _ _ (by omega)).trans HV2.out.ret, below_setRow HV2.out.below (Nat.le_refl _) _⟩
          go_roundg (8192 - sumP (wSt st X k) 16)
          case measure => have := HG.out; have := HN.out; have := sumP_le HM2.out.lt 16; omega
          case rel => exact ⟨wSt st X k, HV4, HM2, by show _ = _; have := sumP_le HM2.out.lt 16; omega⟩
      | succ g =>
        have hkl : k < n := by have := hk.out; omega
        have hlt : (k : Int) < (n : Int) := by omega
        have hk16 : (k : Int) < 16 := by omega
        have hXk : X k < 512 := HM.out.lt k
        have hsk := hst k
        have ha := and16 (X k) (st k) (by omega) (by omega)
        have hal : X k &&& st k < 256 := Nat.and_lt_two_pow (n := 8) _ (by omega)
        have hsh := shl16 (X k &&& st k) hal
        have hw1 := w1_lt hsk hXk
        have hor : bits .or .u16 (X k : Int) (((X k &&& st k) <<< 1 : Nat) : Int) = ((w1 (st k) (X k) : Nat) : Int) := or16 _ _ (by omega) (by rw [Nat.shiftLeft_eq]; omega)
        have hcw : wr.cell? ⟨M, k, none⟩ = some (.int .u16 (X k)) := by
          have h := cellOfHeap HW2.out k
          rw [plA_at _ k (by omega)] at h
          rw [h]
          unfold wSt
          rw [if_neg (by omega)]
        have hfw : wr.frozen? ⟨M, k, none⟩ = false := frozen_of_row wr M k _ _ HW2.out
        have HS0 : Hid (wr.cell? ⟨W.heap.size, k, none⟩ = some (.int .u16 (X k)) ∧ wr.cell? ⟨A, 3 + k, none⟩ = some (.int .u16 (st k))) := ⟨by have h := cellOfHeap HV2.out.box k; rwa [plA_at _ k (by omega)] at h, (HV2.out.below.cell (p := ⟨A, _, none⟩) hA).trans (cs k (by omega))⟩
        have HV3 : Hid (ViAt W X (wr.drew.setCell ⟨M, k, none⟩ (.int .u16 ((w1 (st k) (X k) : Nat) : Int)))) := HV2.out.drew.cell _ _ HLT.out _
        have HW3 : Hid ((wr.drew.setCell ⟨M, k, none⟩ (.int .u16 ((w1 (st k) (X k) : Nat) : Int))).heap[M]? = some (.cells (plA (wSt st X (k + 1))) 164)) := by
          have h := heap_setCell_same wr.drew M k _ _ (.int .u16 ((w1 (st k) (X k) : Nat) : Int)) HW2.out
          rw [plA_set, wSt_succ] at h
          exact h
        go_wp2
        have hS : (fun Z : World => Z.cell? ⟨W.heap.size, k, none⟩ = some (.int .u16 (X k)) ∧ Z.cell? ⟨A, 3 + k, none⟩ = some (.int .u16 (st k))) { wr with drawn := wr.drawn + 1 } := HS0.out
        have hS2 : (fun Z : World => Z.cell? ⟨W.heap.size, k, none⟩ = some (.int .u16 (X k)) ∧ Z.cell? ⟨A, 3 + k, none⟩ = some (.int .u16 (st k))) (wr.drew.setCell ⟨M, k, none⟩ (.int .u16 ((w1 (st k) (X k) : Nat) : Int))) := ⟨by have h := cellOfHeap HV3.out.box k; rwa [plA_at _ k (by omega)] at h, (HV3.out.below.cell (p := ⟨A, _, none⟩) hA).trans (cs k (by omega))⟩
        refine wp_region_held (S := fun Z => Z.cell? ⟨W.heap.size, k, none⟩ = some (.int .u16 (X k)) ∧ Z.cell? ⟨A, 3 + k, none⟩ = some (.int .u16 (st k))) (by kernel_rfl) ?_
        refine tkH 0 16 (.int .i64 k) rfl (by kernel_rfl) (fun _ _ _ h => h) (fun Z hZ => by kernel_rfl) hS ?_
        refine tkH 1 17 (.pointer (some ⟨M, k, none⟩)) rfl (by kernel_rfl) (fun _ _ _ h => h) (fun Z hZ => ?y1) hS ?_
        case y1 => go_simp
        refine tkH 3 19 (.int .i64 k) rfl (by kernel_rfl) (fun _ _ _ h => h) (fun Z hZ => by kernel_rfl) hS ?_
        refine tkH 4 20 (.pointer (some ⟨W.heap.size, k, none⟩)) rfl (by kernel_rfl) (fun _ _ _ h => h) (fun Z hZ => ?y4) hS ?_
        case y4 => go_simp
        refine tkH 5 21 (.int .u16 (X k)) rfl (by kernel_rfl) (fun _ _ _ h => h) (fun Z hZ => ?y5) hS ?_
        case y5 => (have z1 := hZ.1; go_simp)
        refine tkH 6 22 (.pointer (some ⟨A, 0, none⟩)) rfl (by kernel_rfl) (fun _ _ _ h => h) (fun Z hZ => by kernel_rfl) hS ?_
        refine tkH 7 23 (.int .i64 k) rfl (by kernel_rfl) (fun _ _ _ h => h) (fun Z hZ => by kernel_rfl) hS ?_
        refine tkH 8 24 (.pointer (some ⟨A, 0, none⟩)) rfl (by kernel_rfl) (fun _ _ _ h => h) (fun Z hZ => by kernel_rfl) hS ?_
        refine tkH 9 25 (.pointer (some ⟨A, 3, none⟩)) rfl (by kernel_rfl) (fun _ _ _ h => h) (fun Z hZ => by kernel_rfl) hS ?_
        refine tkH 10 26 (.pointer (some ⟨A, 3 + k, none⟩)) rfl (by kernel_rfl) (fun _ _ _ h => h) (fun Z hZ => ?y10) hS ?_
        case y10 => go_simp
        refine tkH 11 27 (.int .u16 (st k)) rfl (by kernel_rfl) (fun _ _ _ h => h) (fun Z hZ => ?y11) hS ?_
        case y11 => (have z2 := hZ.2; go_simp)
        refine tkH 12 28 (.int .u16 ((X k &&& st k : Nat) : Int)) rfl (by kernel_rfl) (fun _ _ _ h => h) (fun Z hZ => ?y12) hS ?_
        case y12 => go_simp
        refine tkH 13 29 (.int .u16 (((X k &&& st k) <<< 1 : Nat) : Int)) rfl (by kernel_rfl) (fun _ _ _ h => h) (fun Z hZ => ?y13) hS ?_
        case y13 => go_simp
        refine rdS 2 rfl (by kernel_rfl) (fun K hK => ?_)
        go_simp
        refine hK.out _ _ hS (fun _ => ?_)
        clear hK
        refine tkH 14 30 (.int .u16 ((w1 (st k) (X k) : Nat) : Int)) rfl (by kernel_rfl) (fun _ _ _ h => h) (fun Z hZ => ?y14) hS ?_
        case y14 => (go_simp; exact hor)
        refine tkH 15 31 (.pointer (some ⟨M, k, none⟩)) rfl (by kernel_rfl) (fun _ _ _ h => h) (fun Z hZ => ?y15) hS ?_
        case y15 => go_simp
        refine rdS 16 rfl (by kernel_rfl) (fun K hK => ?_)
        go_simp
        refine hK.out _ _ hS2 (fun _ => ?_)
        clear hK
        refine wpAnyH_done (by kernel_rfl) ?_ _
        go_simp
        go_wp2
        go_roundg g
        case measure => omega
        case rel => exact ⟨k + 1, by go_num, by show _ = _; have := hk.out; omega, HV3, HW3⟩
end Go.Proofs.YtllcbnfmihfaaaaGreatDoor
