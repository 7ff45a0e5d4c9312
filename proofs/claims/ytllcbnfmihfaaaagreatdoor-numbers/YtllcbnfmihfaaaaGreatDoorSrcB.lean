import Derived.Test.YtllcbnfmihfaaaaGreatDoorSrc
namespace Go.Proofs.YtllcbnfmihfaaaaGreatDoor
open Go.RowKit

theorem SrcAt.drewN {W : World} {b : Nat} {s : Src} (h : SrcAt W b s) (n : Nat) : SrcAt (W.drewN n) b s := h.below (below_drewN' W n)

set_option maxRecDepth 100000 in
set_option maxHeartbeats 1000000 in
theorem follows_end (W : World) (b : Nat) (s : Src) (x : Int) (h : SrcAt W b s) (h1 : Ends s) :
    Calls Tryz.prog 304 #[.pointer (some ⟨b, 0, none⟩), .int .u8 x] W fun e W' => e = .returned (.bool false) ∧ ∃ n, W' = W.drewN n := by
  have cM : ∀ n, Calls Tryz.prog 293 #[.pointer (some ⟨b, 0, none⟩)] (W.drewN n) fun e W' => e = .returned (.bool false) ∧ ∃ m, W' = (W.drewN n).drewN m := fun n => more_end _ b s (h.drewN n) h1
  clear h h1
  go_enter Tryz.func304, Tryz.ntmps304
  go_wp2
  go_quiet (first | (go_at_call 293; exact (cM _).quiet_of))
  go_wp2
  go_ret
  exact ⟨rfl, nq, rfl⟩
set_option maxRecDepth 100000 in
set_option maxHeartbeats 1000000 in
theorem follows_byte (W : World) (b : Nat) (s : Src) (c : UInt8) (x : Int) (h : SrcAt W b s) (h1 : Here s c) :
    Calls Tryz.prog 304 #[.pointer (some ⟨b, 0, none⟩), .int .u8 x] W fun e W' => e = .returned (.bool ((c.toNat : Int) == x)) ∧ ∃ n, W' = W.drewN n := by
  have cM : ∀ n, Calls Tryz.prog 293 #[.pointer (some ⟨b, 0, none⟩)] (W.drewN n) fun e W' => e = .returned (.bool true) ∧ ∃ m, W' = (W.drewN n).drewN m := fun n => more_byte _ b s (h.drewN n) h1.lt h1.2
  obtain ⟨g, off, e1, e2, e3⟩ := h1.cell h
  have c0 : W.cell? ⟨b, 0, none⟩ = some (.slice (some ⟨g, off, none⟩) s.bs.length s.cap) := by rw [← e1]; exact cellOfHeap h.row 0
  have c3 : W.cell? ⟨b, 3, none⟩ = some (.int .i64 s.pos) := cellOfHeap h.row 3
  have hl := h1.lt
  have hl' : (s.pos : Int) < s.bs.length := by omega
  clear h h1 e1
  go_enter Tryz.func304, Tryz.ntmps304
  go_wp2
  go_quiet (first | (go_at_call 293; exact (cM _).quiet_of))
  go_wp2
  go_ret
  exact ⟨rfl, nq, rfl⟩
set_option maxRecDepth 100000 in
set_option maxHeartbeats 1000000 in
theorem follows_size (W : World) (b : Nat) (s : Src) (x : Int) (h : SrcAt W b s) (h1 : Full s) :
    Calls Tryz.prog 304 #[.pointer (some ⟨b, 0, none⟩), .int .u8 x] W fun e W' => Fails 8 s.pos e ∧ Below W.heap.size W W' := by
  have cM : Calls Tryz.prog 293 #[.pointer (some ⟨b, 0, none⟩)] W.drew fun e W' => Fails 8 s.pos e ∧ ∃ m, W' = W.drew.drewN m := more_size _ b s (h.drewN 1) h1.1 h1.2
  clear h h1
  go_enter Tryz.func304, Tryz.ntmps304
  go_wp2
  refine wp_region_held (S := fun _ => True) (by kernel_rfl) ?_
  refine wpAnyH_take (i := 0) (v := .pointer (some ⟨b, 0, none⟩)) rfl (by kernel_rfl) (by kernel_rfl) (by kernel_rfl) (fun _ _ _ h => h) (.inl ⟨rfl, fun W hW => rfl⟩) trivial ?_
  refine wpAnyH_ready (rs := [1]) (by kernel_rfl) (by simp) ?_
  refine AllReadyH.cons rfl (fun K hK => ?_) AllReadyH.nil
  go_simp
  refine cM.mono ?_
  rintro e w2 ⟨rfl, n, rfl⟩
  exact ⟨rfl, rfl, (Below.refl _ _).drew.trans (below_drewN' W.drew n)⟩
theorem isDigit_any (c : UInt8) (w : World) : Calls Tryz.prog 302 #[.int .u8 c.toNat] w fun e w' => e = .returned (.bool (decide (48 ≤ (c.toNat : Int) ∧ (c.toNat : Int) ≤ 57))) ∧ w' = w := by
  by_cases h1 : (48 : Int) ≤ c.toNat
  · by_cases h2 : (c.toNat : Int) ≤ 57
    · go_enter Tryz.func302, Tryz.ntmps302
      go_wp2
      go_ret
      exact ⟨by rw [decide_eq_true (by omega)]; rfl, rfl⟩
    · go_enter Tryz.func302, Tryz.ntmps302
      go_wp2
      go_ret
      exact ⟨by rw [decide_eq_false (by omega)]; rfl, rfl⟩
  · go_enter Tryz.func302, Tryz.ntmps302
    go_wp2
    go_ret
    exact ⟨by rw [decide_eq_false (by omega)]; rfl, rfl⟩
set_option maxRecDepth 100000 in
set_option maxHeartbeats 1000000 in
theorem refuse_any (W : World) (b : Nat) (s : Src) (e : Int) (h : SrcAt W b s) :
    Calls Tryz.prog 295 #[.pointer (some ⟨b, 0, none⟩), .int .i64 e] W fun en W' => Fails e ((s.pos : Int) - 1) en ∧ W' = W := by
  have c3 : W.cell? ⟨b, 3, none⟩ = some (.int .i64 s.pos) := cellOfHeap h.row 3
  have hm := h.len
  have hle := h.le
  unfold maxLen at hm
  clear h
  go_enter Tryz.func295, Tryz.ntmps295
  go_wp2
  exact ⟨rfl, rfl, rfl⟩
set_option maxRecDepth 100000 in
set_option maxHeartbeats 1000000 in
theorem digitFollows_end (W : World) (b : Nat) (s : Src) (h : SrcAt W b s) (h1 : Ends s) :
    Calls Tryz.prog 319 #[.pointer (some ⟨b, 0, none⟩)] W fun e W' => e = .returned (.bool false) ∧ ∃ n, W' = W.drewN n := by
  have cM : ∀ n, Calls Tryz.prog 293 #[.pointer (some ⟨b, 0, none⟩)] (W.drewN n) fun e W' => e = .returned (.bool false) ∧ ∃ m, W' = (W.drewN n).drewN m := fun n => more_end _ b s (h.drewN n) h1
  clear h h1
  go_enter Tryz.func319, Tryz.ntmps319
  go_wp2
  go_quiet (first | (go_at_call 293; exact (cM _).quiet_of))
  go_wp2
  go_ret
  exact ⟨rfl, nq, rfl⟩
set_option maxRecDepth 100000 in
set_option maxHeartbeats 1000000 in
theorem digitFollows_byte (W : World) (b : Nat) (s : Src) (c : UInt8) (h : SrcAt W b s) (h1 : Here s c) :
    Calls Tryz.prog 319 #[.pointer (some ⟨b, 0, none⟩)] W fun e W' => e = .returned (.bool (decide (48 ≤ (c.toNat : Int) ∧ (c.toNat : Int) ≤ 57))) ∧ ∃ n, W' = W.drewN n := by
  have cM : ∀ n, Calls Tryz.prog 293 #[.pointer (some ⟨b, 0, none⟩)] (W.drewN n) fun e W' => e = .returned (.bool true) ∧ ∃ m, W' = (W.drewN n).drewN m := fun n => more_byte _ b s (h.drewN n) h1.lt h1.2
  have cD : ∀ n, Calls Tryz.prog 302 #[.int .u8 c.toNat] (W.drewN n) fun e W' => e = .returned (.bool (decide (48 ≤ (c.toNat : Int) ∧ (c.toNat : Int) ≤ 57))) ∧ W' = W.drewN n := fun n => isDigit_any c _
  obtain ⟨g, off, e1, e2, e3⟩ := h1.cell h
  have c0 : W.cell? ⟨b, 0, none⟩ = some (.slice (some ⟨g, off, none⟩) s.bs.length s.cap) := by rw [← e1]; exact cellOfHeap h.row 0
  have c3 : W.cell? ⟨b, 3, none⟩ = some (.int .i64 s.pos) := cellOfHeap h.row 3
  have hl := h1.lt
  have hl' : (s.pos : Int) < s.bs.length := by omega
  clear h h1 e1
  generalize decide (48 ≤ (c.toNat : Int) ∧ (c.toNat : Int) ≤ 57) = d at *
  go_enter Tryz.func319, Tryz.ntmps319
  go_wp2
  go_quiet (first | (go_at_call 293; exact (cM _).quiet_of) | (go_at_call 302; exact (cD _).quiet_of_same))
  go_wp2
  go_ret
  exact ⟨rfl, nq, rfl⟩
set_option maxRecDepth 100000 in
set_option maxHeartbeats 1000000 in
theorem digitFollows_size (W : World) (b : Nat) (s : Src) (h : SrcAt W b s) (h1 : Full s) :
    Calls Tryz.prog 319 #[.pointer (some ⟨b, 0, none⟩)] W fun e W' => Fails 8 s.pos e ∧ Below W.heap.size W W' := by
  have cM : Calls Tryz.prog 293 #[.pointer (some ⟨b, 0, none⟩)] W.drew fun e W' => Fails 8 s.pos e ∧ ∃ m, W' = W.drew.drewN m := more_size _ b s (h.drewN 1) h1.1 h1.2
  clear h h1
  go_enter Tryz.func319, Tryz.ntmps319
  go_wp2
  refine wp_region_held (S := fun _ => True) (by kernel_rfl) ?_
  refine wpAnyH_take (i := 0) (v := .pointer (some ⟨b, 0, none⟩)) rfl (by kernel_rfl) (by kernel_rfl) (by kernel_rfl) (fun _ _ _ h => h) (.inl ⟨rfl, fun W hW => rfl⟩) trivial ?_
  refine wpAnyH_ready (rs := [1]) (by kernel_rfl) (by simp) ?_
  refine AllReadyH.cons rfl (fun K hK => ?_) AllReadyH.nil
  go_simp
  refine cM.mono ?_
  rintro e w2 ⟨rfl, n, rfl⟩
  exact ⟨rfl, rfl, (Below.refl _ _).drew.trans (below_drewN' W.drew n)⟩
end Go.Proofs.YtllcbnfmihfaaaaGreatDoor
