import Derived.Test.YtllcbnfmihfaaaaGreatDoorLq11
namespace Go.Proofs.YtllcbnfmihfaaaaGreatDoor
open Go.RowKit

/-- What the letters lead on from. -/
structure AuT (W : World) (A tb L tc : Nat) (tk : Nat → Nat → Nat) : Prop where
  lt : A < W.heap.size
  tlt : tb < W.heap.size
  takes : W.cell? ⟨A, 19, none⟩ = some (.slice (some ⟨tb, 0, none⟩) L tc)
  at_ : ∀ x r, x < L → r < 16 → W.cell? ⟨tb, x * 16 + r, none⟩ = some (.int .u16 (tk x r))
theorem AuT.below {W W' : World} {A tb L tc : Nat} {tk : Nat → Nat → Nat} (h : AuT W A tb L tc tk) (hb : Below W.heap.size W W') : AuT W' A tb L tc tk :=
  ⟨Nat.lt_of_lt_of_le h.lt hb.size, Nat.lt_of_lt_of_le h.tlt hb.size, (hb.cell (p := ⟨A, _, none⟩) h.lt).trans h.takes, fun x r hx hr => (hb.cell (p := ⟨tb, _, none⟩) h.tlt).trans (h.at_ x r hx hr)⟩
/-- One step on, of a rule. -/
def gon (st tk x : Nat) : Nat := (x &&& st) ||| ((x &&& tk) <<< 1)
def gonP (st tk P : Nat → Nat) (k : Nat) : Nat → Nat := fun r => if r < k then gon (st r) (tk r) (P r) else 0
theorem gon_lt {st tk x : Nat} (hs : st < 256) (ht : tk < 256) : gon st tk x < 512 := by
  have h1 : x &&& st < 2 ^ 8 := Nat.and_lt_two_pow _ (by omega)
  have h3 : x &&& tk < 2 ^ 8 := Nat.and_lt_two_pow _ (by omega)
  have h2 : (x &&& tk) <<< 1 < 2 ^ 9 := by rw [Nat.shiftLeft_eq]; omega
  exact Nat.or_lt_two_pow (n := 9) (by omega) h2
theorem gonP_zero (st tk P : Nat → Nat) : gonP st tk P 0 = zPl := by funext r; unfold gonP zPl; rw [if_neg (by omega)]
theorem gonP_succ (st tk P : Nat → Nat) (k : Nat) : (fun i => if i = k then gon (st k) (tk k) (P k) else gonP st tk P k i) = gonP st tk P (k + 1) := by
  funext r
  unfold gonP
  by_cases h : r = k
  · subst h
    rw [if_pos rfl, if_pos (by omega)]
  · rw [if_neg h]
    by_cases h2 : r < k
    · rw [if_pos h2, if_pos (by omega)]
    · rw [if_neg h2, if_neg (by omega)]
theorem gonP_lt {st tk : Nat → Nat} (hs : ∀ r, st r < 256) (ht : ∀ r, tk r < 256) (P : Nat → Nat) (k r : Nat) : gonP st tk P k r < 512 := by
  unfold gonP
  split
  · exact gon_lt (hs r) (ht r)
  · omega
/-- Where after stands. -/
structure AfAt (W : World) (P X : Nat → Nat) (V : World) : Prop where
  box : V.heap[W.heap.size]? = some (.cells (plA P) 164)
  ret : V.heap[W.heap.size + 1]? = some (.cells (plA zPl) 164)
  nx : V.heap[W.heap.size + 2]? = some (.cells (plA X) 164)
  below : Below W.heap.size W V
theorem AfAt.next {W V V' : World} {P X : Nat → Nat} (h : AfAt W P X V) (hb : Below V.heap.size V V') : AfAt W P X V' :=
  ⟨(hb.block _ (Array.getElem?_eq_some_iff.1 h.box).1).trans h.box, (hb.block _ (Array.getElem?_eq_some_iff.1 h.ret).1).trans h.ret, (hb.block _ (Array.getElem?_eq_some_iff.1 h.nx).1).trans h.nx, h.below.trans (hb.mono h.below.size)⟩
theorem afAt_mk (W : World) (P : Nat → Nat) : AfAt W P zPl (((W.alloc (.cells (plA P) 164)).alloc (.cells (plA zPl) 164)).alloc (.cells (plA zPl) 164)) :=
  ⟨((Below.heap_alloc _ _ _ (by simp; omega)).trans (Below.heap_alloc _ _ _ (by simp))).trans (heap_new _ _), (Below.heap_alloc _ _ _ (by simp)).trans (by have := heap_new (W.alloc (.cells (plA P) 164)) (.cells (plA zPl) 164); simpa using this), by have := heap_new ((W.alloc (.cells (plA P) 164)).alloc (.cells (plA zPl) 164)) (.cells (plA zPl) 164); simpa using this, (((Below.refl _ _).alloc (Nat.le_refl _) _).alloc (by simp) _).alloc (by simp; omega) _⟩
set_option maxRecDepth 100000 in
set_option maxHeartbeats 2000000 in
theorem after_any (W : World) (A : Nat) (ra : Option Addr) (rc n : Nat) (st : Nat → Nat) (tb L tc : Nat) (tk : Nat → Nat → Nat) (hst : ∀ r, st r < 256) (htk : ∀ x r, tk x r < 256) (hn : n ≤ 16) (h : AuR W A ra rc n st) (h2 : AuT W A tb L tc tk) (P : Nat → Nat) (hP : ∀ r, P r < 512) (x : Nat) (hx : x < L) :
    Calls Tryz.prog 195 #[.pointer (some ⟨A, 0, none⟩), .agg (plA P), .int .i64 x] W fun e W' => WdSays n st (gonP st (tk x) P n) e ∧ Below W.heap.size W W' := by
  have HA : Hid (AuR W A ra rc n st) := h
  have HT : Hid (AuT W A tb L tc tk) := h2
  have HS0 : Hid (AfAt W P zPl (((W.alloc (.cells (plA P) 164)).alloc (.cells #[.int .u16 0, .int .u16 0, .int .u16 0, .int .u16 0, .int .u16 0, .int .u16 0, .int .u16 0, .int .u16 0, .int .u16 0, .int .u16 0, .int .u16 0, .int .u16 0, .int .u16 0, .int .u16 0, .int .u16 0, .int .u16 0] 164)).alloc (.cells #[.int .u16 0, .int .u16 0, .int .u16 0, .int .u16 0, .int .u16 0, .int .u16 0, .int .u16 0, .int .u16 0, .int .u16 0, .int .u16 0, .int .u16 0, .int .u16 0, .int .u16 0, .int .u16 0, .int .u16 0, .int .u16 0] 164))) := afAt_mk W P
  have c0 := h.rules
  have hlt := h.lt
  have hlt1 : A < W.heap.size + 1 := by omega
  have hlt2 : A < W.heap.size + 1 + 1 := by omega
  clear h h2
  go_enter Tryz.func195, Tryz.ntmps195
  go_wp2
  go_loopg [14] n (fun g z V => ∃ k : Nat, z = .int .i64 k ∧ Hid (k + g = n) ∧ Hid (AfAt W P (gonP st (tk x) P k) V))
  case atStart => exact ⟨0, rfl, by show _ = _; omega, by rw [gonP_zero]; exact HS0⟩
  case round =>
    clear HS0
    obtain ⟨k, rfl, hk, HS⟩ := hrel
    cases gk with
    | zero =>
      have hl : ¬ (k : Int) < (n : Int) := by have := hk.out; omega
      have hkn : k = n := by have := hk.out; omega
      subst hkn
      have cW := fun V hb => wid_c (HA.out.below (W' := V) hb) (gonP st (tk x) P k) (gonP_lt hst (htk x) P k) hst hn
      go_wp2_with (first
        | (go_at_call 139; refine (cW _ HS.out.below).mono ?_; clear cW; rintro e w2 ⟨⟨Y, rfl, hY⟩, hB2⟩; have HS2 : Hid (AfAt W P (gonP st (tk x) P k) w2) := HS.out.next hB2; have HY : Hid (WdY k st (gonP st (tk x) P k) Y) := hY; clear hY hB2)
        | (refine wpList_load_row rfl 164 (.tmp 7) rfl (W.heap.size + 1 + 1) rfl _ _ _ _ HS.out.nx Tryz.underlying164 rfl (infoPl _) ?_)
        | (refine wpList_store_row rfl 164 (.tmp 6) (.tmp 47) rfl (W.heap.size + 1) (plA Y) rfl rfl 164 (plA zPl) HS2.out.ret (infoPl Y) (plA_sz _ _) (plA_one Y) ?_))
      refine bodyPost_ret (results_cell_row Tryz.results195 _ _ (W.heap.size + 1) 164 (plA Y) (0, 0) _ rfl (setRow_heap _ _ _ _ _ _ HS2.out.ret) Tryz.underlying164 rfl (infoPl Y)) rfl ⟨⟨Y, rfl, HY.out⟩, below_setRow HS2.out.below (by omega) _⟩
    | succ g =>
      have hkl : k < n := by have := hk.out; omega
      have hl : (k : Int) < (n : Int) := by omega
      have hk16 : (k : Int) < 16 := by omega
      have hxL : (x : Int) < (L : Int) := by omega
      have hPk := hP k
      have hsk := hst k
      have htk1 := htk x k
      have ha := and16 (P k) (st k) (by omega) (by omega)
      have hat := and16 (P k) (tk x k) (by omega) (by omega)
      have hal : P k &&& st k < 256 := Nat.and_lt_two_pow (n := 8) _ (by omega)
      have hatl : P k &&& tk x k < 256 := Nat.and_lt_two_pow (n := 8) _ (by omega)
      have hsh := shl16 (P k &&& tk x k) hatl
      have hor : bits .or .u16 ((P k &&& st k : Nat) : Int) (((P k &&& tk x k) <<< 1 : Nat) : Int) = ((gon (st k) (tk x k) (P k) : Nat) : Int) := or16 _ _ (by omega) (by rw [Nat.shiftLeft_eq]; omega)
      have hcn : wr.cell? ⟨W.heap.size + 1 + 1, k, none⟩ = some (.int .u16 (gonP st (tk x) P k k)) := by
        have h := cellOfHeap HS.out.nx k
        rwa [plA_at _ k (by omega)] at h
      have hfw : wr.frozen? ⟨W.heap.size + 1 + 1, k, none⟩ = false := frozen_of_row wr (W.heap.size + 1 + 1) k _ _ HS.out.nx
      have HS3 : Hid (AfAt W P (gonP st (tk x) P (k + 1)) (wr.drew.setCell ⟨W.heap.size + 1 + 1, k, none⟩ (.int .u16 ((gon (st k) (tk x k) (P k) : Nat) : Int)))) := by
        refine ⟨(Below.heap_setCell wr.drew _ _ _ (by simp; omega)).trans HS.out.box, (Below.heap_setCell wr.drew _ _ _ (by simp)).trans HS.out.ret, ?_, HS.out.below.drew.setCell (by simp; omega) _⟩
        have h := heap_setCell_same wr.drew (W.heap.size + 1 + 1) k _ _ (.int .u16 ((gon (st k) (tk x k) (P k) : Nat) : Int)) HS.out.nx
        rw [plA_set, gonP_succ] at h
        exact h
      have HC : ∀ V, AfAt W P (gonP st (tk x) P k) V ∨ AfAt W P (gonP st (tk x) P (k + 1)) V → V.cell? ⟨W.heap.size, k, none⟩ = some (.int .u16 (P k)) ∧ V.cell? ⟨A, 3 + k, none⟩ = some (.int .u16 (st k)) ∧ V.cell? ⟨A, 19, none⟩ = some (.slice (some ⟨tb, 0, none⟩) L tc) ∧ V.cell? ⟨tb, x * 16 + k, none⟩ = some (.int .u16 (tk x k)) := by
        intro V hV
        have hb : V.heap[W.heap.size]? = some (.cells (plA P) 164) ∧ Below W.heap.size W V := by rcases hV with h | h <;> exact ⟨h.box, h.below⟩
        exact ⟨by have h := cellOfHeap hb.1 k; rwa [plA_at _ k (by omega)] at h, (HA.out.below hb.2).stays k (by omega), (HT.out.below hb.2).takes, (HT.out.below hb.2).at_ x k hx (by omega)⟩
      have HS0 : Hid (_) := HC wr (.inl HS.out)
      have HS9 : Hid (_) := HC _ (.inr HS3.out)
      clear HC
      go_wp2
      have hS : (fun Z : World => Z.cell? ⟨W.heap.size, k, none⟩ = some (.int .u16 (P k)) ∧ Z.cell? ⟨A, 3 + k, none⟩ = some (.int .u16 (st k)) ∧ Z.cell? ⟨A, 19, none⟩ = some (.slice (some ⟨tb, 0, none⟩) L tc) ∧ Z.cell? ⟨tb, x * 16 + k, none⟩ = some (.int .u16 (tk x k))) { wr with drawn := wr.drawn + 1 } := HS0.out
      have hS2 : (fun Z : World => Z.cell? ⟨W.heap.size, k, none⟩ = some (.int .u16 (P k)) ∧ Z.cell? ⟨A, 3 + k, none⟩ = some (.int .u16 (st k)) ∧ Z.cell? ⟨A, 19, none⟩ = some (.slice (some ⟨tb, 0, none⟩) L tc) ∧ Z.cell? ⟨tb, x * 16 + k, none⟩ = some (.int .u16 (tk x k))) (wr.drew.setCell ⟨W.heap.size + 1 + 1, k, none⟩ (.int .u16 ((gon (st k) (tk x k) (P k) : Nat) : Int))) := HS9.out
      refine wp_region_held (S := fun Z => Z.cell? ⟨W.heap.size, k, none⟩ = some (.int .u16 (P k)) ∧ Z.cell? ⟨A, 3 + k, none⟩ = some (.int .u16 (st k)) ∧ Z.cell? ⟨A, 19, none⟩ = some (.slice (some ⟨tb, 0, none⟩) L tc) ∧ Z.cell? ⟨tb, x * 16 + k, none⟩ = some (.int .u16 (tk x k))) (by kernel_rfl) ?_
      refine tkH 0 17 (.int .i64 k) rfl (by kernel_rfl) (fun _ _ _ h => h) (fun Z hZ => by kernel_rfl) hS ?_
      refine tkH 1 18 (.int .i64 k) rfl (by kernel_rfl) (fun _ _ _ h => h) (fun Z hZ => by kernel_rfl) hS ?_
      refine tkH 2 19 (.pointer (some ⟨W.heap.size, k, none⟩)) rfl (by kernel_rfl) (fun _ _ _ h => h) (fun Z hZ => ?y2) hS ?_
      case y2 => go_simp
      refine tkH 3 20 (.int .u16 (P k)) rfl (by kernel_rfl) (fun _ _ _ h => h) (fun Z hZ => ?y3) hS ?_
      case y3 => (have z1 := hZ.1; go_simp)
      refine tkH 4 21 (.pointer (some ⟨A, 0, none⟩)) rfl (by kernel_rfl) (fun _ _ _ h => h) (fun Z hZ => by kernel_rfl) hS ?_
      refine tkH 5 22 (.int .i64 k) rfl (by kernel_rfl) (fun _ _ _ h => h) (fun Z hZ => by kernel_rfl) hS ?_
      refine tkH 6 23 (.pointer (some ⟨A, 0, none⟩)) rfl (by kernel_rfl) (fun _ _ _ h => h) (fun Z hZ => by kernel_rfl) hS ?_
      refine tkH 7 24 (.pointer (some ⟨A, 3, none⟩)) rfl (by kernel_rfl) (fun _ _ _ h => h) (fun Z hZ => by kernel_rfl) hS ?_
      refine tkH 8 25 (.pointer (some ⟨A, 3 + k, none⟩)) rfl (by kernel_rfl) (fun _ _ _ h => h) (fun Z hZ => ?y8) hS ?_
      case y8 => go_simp
      refine tkH 9 26 (.int .u16 (st k)) rfl (by kernel_rfl) (fun _ _ _ h => h) (fun Z hZ => ?y9) hS ?_
      case y9 => (have z2 := hZ.2.1; go_simp)
      refine tkH 10 27 (.int .u16 ((P k &&& st k : Nat) : Int)) rfl (by kernel_rfl) (fun _ _ _ h => h) (fun Z hZ => ?y10) hS ?_
      case y10 => go_simp
      refine tkH 11 28 (.int .i64 k) rfl (by kernel_rfl) (fun _ _ _ h => h) (fun Z hZ => by kernel_rfl) hS ?_
      refine tkH 12 29 (.pointer (some ⟨W.heap.size, k, none⟩)) rfl (by kernel_rfl) (fun _ _ _ h => h) (fun Z hZ => ?y12) hS ?_
      case y12 => go_simp
      refine tkH 13 30 (.int .u16 (P k)) rfl (by kernel_rfl) (fun _ _ _ h => h) (fun Z hZ => ?y13) hS ?_
      case y13 => (have z1 := hZ.1; go_simp)
      refine tkH 14 31 (.pointer (some ⟨A, 0, none⟩)) rfl (by kernel_rfl) (fun _ _ _ h => h) (fun Z hZ => by kernel_rfl) hS ?_
      refine tkH 15 32 (.pointer (some ⟨A, 0, none⟩)) rfl (by kernel_rfl) (fun _ _ _ h => h) (fun Z hZ => by kernel_rfl) hS ?_
      refine tkH 16 33 (.pointer (some ⟨A, 19, none⟩)) rfl (by kernel_rfl) (fun _ _ _ h => h) (fun Z hZ => by kernel_rfl) hS ?_
      refine tkH 17 34 (.slice (some ⟨tb, 0, none⟩) L tc) rfl (by kernel_rfl) (fun _ _ _ h => h) (fun Z hZ => ?y17) hS ?_
      case y17 => (have z3 := hZ.2.2.1; go_simp)
      refine tkH 18 35 (.int .i64 x) rfl (by kernel_rfl) (fun _ _ _ h => h) (fun Z hZ => by kernel_rfl) hS ?_
      refine tkH 19 36 (.int .i64 k) rfl (by kernel_rfl) (fun _ _ _ h => h) (fun Z hZ => by kernel_rfl) hS ?_
      refine tkH 20 37 (.pointer (some ⟨tb, x * 16, none⟩)) rfl (by kernel_rfl) (fun _ _ _ h => h) (fun Z hZ => ?y20) hS ?_
      case y20 => go_simp
      refine tkH 21 38 (.pointer (some ⟨tb, x * 16 + k, none⟩)) rfl (by kernel_rfl) (fun _ _ _ h => h) (fun Z hZ => ?y21) hS ?_
      case y21 => go_simp
      refine tkH 22 39 (.int .u16 (tk x k)) rfl (by kernel_rfl) (fun _ _ _ h => h) (fun Z hZ => ?y22) hS ?_
      case y22 => (have z4 := hZ.2.2.2; go_simp)
      refine tkH 23 40 (.int .u16 ((P k &&& tk x k : Nat) : Int)) rfl (by kernel_rfl) (fun _ _ _ h => h) (fun Z hZ => ?y23) hS ?_
      case y23 => go_simp
      refine tkH 24 41 (.int .u16 (((P k &&& tk x k) <<< 1 : Nat) : Int)) rfl (by kernel_rfl) (fun _ _ _ h => h) (fun Z hZ => ?y24) hS ?_
      case y24 => go_simp
      refine tkH 25 42 (.int .u16 ((gon (st k) (tk x k) (P k) : Nat) : Int)) rfl (by kernel_rfl) (fun _ _ _ h => h) (fun Z hZ => ?y25) hS ?_
      case y25 => (go_simp; exact hor)
      refine tkH 26 43 (.pointer (some ⟨W.heap.size + 1 + 1, k, none⟩)) rfl (by kernel_rfl) (fun _ _ _ h => h) (fun Z hZ => ?y26) hS ?_
      case y26 => go_simp
      refine rdS 27 rfl (by kernel_rfl) (fun K hK => ?_)
      go_simp
      refine hK.out _ _ hS2 (fun _ => ?_)
      clear hK
      refine wpAnyH_done (by kernel_rfl) ?_ _
      go_simp
      go_wp2
      go_roundg g
      case measure => omega
      case rel => exact ⟨k + 1, by go_num, by show _ = _; have := hk.out; omega, HS3⟩
end Go.Proofs.YtllcbnfmihfaaaaGreatDoor
