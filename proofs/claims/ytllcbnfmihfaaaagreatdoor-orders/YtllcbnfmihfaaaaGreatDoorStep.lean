import Derived.Test.YtllcbnfmihfaaaaGreatDoorAsk
import Derived.Deep.RegionHeld3
namespace Go.Proofs.YtllcbnfmihfaaaaGreatDoor
open Go.RowKit

/-- The configurations of a script, in memory: the k-th is g k. -/
structure CfgsAt (w : World) (a : Option Addr) (n : Nat) (g : Nat → Cfg) : Prop where
  at_ : ∀ k, k < n → ∃ b off, a = some ⟨b, off, none⟩ ∧ b < w.heap.size ∧ ∀ k j, k < n → j < 11 → w.cell? ⟨b, off + k * 11 + j, none⟩ = (g k).arr[j]?
  each : ∀ k, k < n → CfgW w (g k)
theorem CfgsAt.below {w w' : World} {a : Option Addr} {n : Nat} {g : Nat → Cfg} (h : CfgsAt w a n g) (hb : Below w.heap.size w w') : CfgsAt w' a n g :=
  ⟨fun k hk => by
    obtain ⟨b, off, ha, hlt, h1⟩ := h.at_ k hk
    exact ⟨b, off, ha, Nat.lt_of_lt_of_le hlt hb.size, fun k j hk hj => (hb.cell (p := ⟨b, _, none⟩) hlt).trans (h1 k j hk hj)⟩,
   fun k hk => (h.each k hk).below hb⟩

def pickN (c : Int) (n : Nat) : Nat := ((if c < 0 then -(c + 1) else c) % (n : Int)).toNat
theorem pickN_lt (c : Int) (n : Nat) (h : 1 ≤ n) : pickN c n < n := by
  unfold pickN
  have e1 := Int.emod_nonneg (if c < 0 then -(c + 1) else c) (show (n : Int) ≠ 0 by omega)
  have e2 := Int.emod_lt_of_pos (if c < 0 then -(c + 1) else c) (show (0 : Int) < n by omega)
  omega
set_option maxHeartbeats 400000 in
theorem pick_at (c : Int) (n : Nat) (w : World) (h1 : 1 ≤ n) (hn : n ≤ maxLen) (hc : -9223372036854775808 ≤ c) (hc2 : c ≤ 9223372036854775807) :
    Calls Tryz.prog 56 #[.int .i64 c, .int .i64 n] w fun e w' => e = .returned (.int .i64 (pickN c n)) ∧ w' = w := by
  unfold maxLen at hn
  have hpos : (0 : Int) < n := by omega
  by_cases h : c < 0
  · have HF : Hid ((pickN c n : Int) = (-(c + 1)) % n) := by
      have e1 := Int.emod_nonneg (-(c + 1)) (show (n : Int) ≠ 0 by omega)
      show _ = _
      unfold pickN
      rw [if_pos h, Int.toNat_of_nonneg e1]
    go_enter Tryz.func56, Tryz.ntmps56
    go_wp2
    go_ret
    have e3 : -((c + 1).tmod n) = (-(c + 1)) % n := by rw [← Int.neg_tmod, Int.tmod_eq_emod_of_nonneg (by omega)]
    exact ⟨by rw [HF.out, ← e3]; rfl, rfl⟩
  · have HF : Hid ((pickN c n : Int) = c % n) := by
      have e1 := Int.emod_nonneg c (show (n : Int) ≠ 0 by omega)
      show _ = _
      unfold pickN
      rw [if_neg h, Int.toNat_of_nonneg e1]
    go_enter Tryz.func56, Tryz.ntmps56
    go_wp2
    go_ret
    exact ⟨by rw [HF.out]; rfl, rfl⟩

/-- What a step of a kind answers: true, and nothing old has turned. -/
def AskSays (kind : Int) : Prop := ∀ (c : Cfg) (o : OpD), o.kind = kind → ∀ w : World, CfgW w c → Glob w → Calls Tryz.prog 58 #[.agg c.arr, .agg o.arr] w fun e w' => e = .returned (.bool true) ∧ Below w.heap.size w w'

set_option maxRecDepth 100000 in
set_option maxHeartbeats 4000000 in
theorem step_none (B : Nat) (o : OpD) (kind : Int) (hk : o.kind = kind) (h12 : kind = 1 ∨ kind = 2) (a : Option Addr) (cap : Nat) (w : World) (hcs : w.cell? ⟨B, 0, none⟩ = some (.slice a 0 cap)) :
    Calls Tryz.prog 35 #[.pointer (some ⟨B, 0, none⟩), .agg o.arr] w fun e w' => e = .returned (.bool true) ∧ Below w.heap.size w w' := by
  have ok : o.arr[0]? = some (.int .i64 kind) := by rw [← hk]; rfl
  have hbl := block_lt_of_cell hcs
  clear hk
  rcases h12 with rfl | rfl
  all_goals
    go_enter Tryz.func35, Tryz.ntmps35
    go_wp2
    go_ret
    exact ⟨rfl, (Below.refl _ _).alloc (Nat.le_refl _) _⟩

set_option maxRecDepth 100000 in
set_option maxHeartbeats 4000000 in
theorem step_some (B : Nat) (o : OpD) (kind : Int) (hk : o.kind = kind) (h12 : kind = 1 ∨ kind = 2) (hsay : AskSays kind) (a : Option Addr) (n cap : Nat) (g : Nat → Cfg) (h1 : 1 ≤ n) (hn : n ≤ maxLen) (ha : -9223372036854775808 ≤ o.a ∧ o.a ≤ 9223372036854775807)
    (w : World) (hcs : w.cell? ⟨B, 0, none⟩ = some (.slice a n cap)) (hC : CfgsAt w a n g) (hg : Glob w) :
    Calls Tryz.prog 35 #[.pointer (some ⟨B, 0, none⟩), .agg o.arr] w fun e w' => e = .returned (.bool true) ∧ Below w.heap.size w w' := by
  have ok : o.arr[0]? = some (.int .i64 kind) := by rw [← hk]; rfl
  have oa : o.arr[1]? = some (.int .i64 o.a) := rfl
  have hbl := block_lt_of_cell hcs
  have HS : Hid (AskSays kind) := hsay
  have HG : Hid (Glob w) := hg
  have HC : Hid (CfgsAt w a n g) := hC
  have HK : Hid (o.kind = kind) := hk
  have HZ : Hid (o.arr.size = 7) := rfl
  have ha1 := ha.1
  have ha2 := ha.2
  have hne : ((n : Int) == 0) = false := beq_eq_false_iff_ne.2 (by omega)
  obtain ⟨b, off, rfl, hb, hcc⟩ := hC.at_ 0 (by omega)
  have hkl := pickN_lt o.a n h1
  have cPK := fun w => pick_at o.a n w h1 hn ha1 ha2
  have HCK : Hid (CfgW w (g (pickN o.a n))) := hC.each _ hkl
  generalize pickN o.a n = k at *
  have k0 : w.cell? ⟨b, off + k * 11, none⟩ = some (.int .i64 (g k).labels) := hcc k 0 hkl (by omega)
  have k1 : w.cell? ⟨b, off + k * 11 + 1, none⟩ = some (.slice (g k).ea (g k).L.length (g k).ecap) := hcc k 1 hkl (by omega)
  have k2 : w.cell? ⟨b, off + k * 11 + 2, none⟩ = some (.int .i64 (g k).dflt) := hcc k 2 hkl (by omega)
  have k3 : w.cell? ⟨b, off + k * 11 + 3, none⟩ = some (.string (g k).pol) := hcc k 3 hkl (by omega)
  have k4 : w.cell? ⟨b, off + k * 11 + 4, none⟩ = some (.int .i64 (g k).clr) := hcc k 4 hkl (by omega)
  have k5 : w.cell? ⟨b, off + k * 11 + 5, none⟩ = some (.int .i64 (g k).key) := hcc k 5 hkl (by omega)
  have k6 : w.cell? ⟨b, off + k * 11 + 6, none⟩ = some (.int .i64 (g k).inn) := hcc k 6 hkl (by omega)
  have k7 : w.cell? ⟨b, off + k * 11 + 7, none⟩ = some (.int .i64 (g k).out) := hcc k 7 hkl (by omega)
  have k8 : w.cell? ⟨b, off + k * 11 + 8, none⟩ = some (.int .i64 (g k).depth) := hcc k 8 hkl (by omega)
  have k9 : w.cell? ⟨b, off + k * 11 + 9, none⟩ = some (.int .i64 (g k).bytes) := hcc k 9 hkl (by omega)
  have k10 : w.cell? ⟨b, off + k * 11 + 10, none⟩ = some (.slice (g k).ba (g k).B.length (g k).bcap) := hcc k 10 hkl (by omega)
  generalize hgk : g k = c at *
  clear hgk
  have n0 := World.new_ne w _ hcs
  have n1 := World.new_ne w _ k0
  have hkl0 : (0 : Int) ≤ (k : Int) := by omega
  have hkl1 : (k : Int) < (n : Int) := by omega
  have HOP : Hid (((w.alloc (.cells o.arr 74)).alloc (.cells c.arr 45)).drew.heap[w.heap.size]? = some (.cells o.arr 74)) := (Below.heap_alloc _ _ _ (by simp)).trans (heap_new _ _)
  have HIO : Hid ((Tryz.prog.info? 74).map (·.size) = some o.arr.size) := by show _ = _; rw [HZ.out]; kernel_rfl
  have HB0 : Hid (Below w.heap.size w ((w.alloc (.cells o.arr 74)).alloc (.cells c.arr 45)).drew) := (((Below.refl _ _).alloc (Nat.le_refl _) _).alloc (by simp) _).drew
  have cA := HS.out c o HK.out ((w.alloc (.cells o.arr 74)).alloc (.cells c.arr 45)).drew (HCK.out.below HB0.out) (HG.out.below HB0.out)
  clear hcc hC hg hsay hk ha hn HC
  rcases h12 with rfl | rfl
  · go_enter Tryz.func35, Tryz.ntmps35
    go_wp2
    go_region_held3 (fun w' => w'.cell? ⟨B, 0, none⟩ = some (.slice (some ⟨b, off, none⟩) n cap) ∧ w'.cell? ⟨w.heap.size, 1, none⟩ = some (.int .i64 o.a) ∧ w'.cell? ⟨b, off + k * 11, none⟩ = some (.int .i64 c.labels) ∧ w'.cell? ⟨b, off + k * 11 + 1, none⟩ = some (.slice c.ea c.L.length c.ecap) ∧ w'.cell? ⟨b, off + k * 11 + 2, none⟩ = some (.int .i64 c.dflt) ∧ w'.cell? ⟨b, off + k * 11 + 3, none⟩ = some (.string c.pol) ∧ w'.cell? ⟨b, off + k * 11 + 4, none⟩ = some (.int .i64 c.clr) ∧ w'.cell? ⟨b, off + k * 11 + 5, none⟩ = some (.int .i64 c.key) ∧ w'.cell? ⟨b, off + k * 11 + 6, none⟩ = some (.int .i64 c.inn) ∧ w'.cell? ⟨b, off + k * 11 + 7, none⟩ = some (.int .i64 c.out) ∧ w'.cell? ⟨b, off + k * 11 + 8, none⟩ = some (.int .i64 c.depth) ∧ w'.cell? ⟨b, off + k * 11 + 9, none⟩ = some (.int .i64 c.bytes) ∧ w'.cell? ⟨b, off + k * 11 + 10, none⟩ = some (.slice c.ba c.B.length c.bcap)) (go_keep) (first | (go_at_call 56; refine (cPK _).mono ?_; rintro e w' ⟨rfl, rfl⟩))
    all_goals go_wp2_with (first | (refine wpList_load_row rfl 74 _ rfl _ rfl _ _ _ _ HOP.out Tryz.underlying74 rfl HIO.out ?_) | (go_at_call 58; refine cA.mono ?_; rintro e w2 ⟨rfl, hB2⟩))
    all_goals go_ret
    all_goals exact ⟨rfl, HB0.out.trans (hB2.mono (by simp; omega))⟩
  · go_enter Tryz.func35, Tryz.ntmps35
    go_wp2
    go_region_held3 (fun w' => w'.cell? ⟨B, 0, none⟩ = some (.slice (some ⟨b, off, none⟩) n cap) ∧ w'.cell? ⟨w.heap.size, 1, none⟩ = some (.int .i64 o.a) ∧ w'.cell? ⟨b, off + k * 11, none⟩ = some (.int .i64 c.labels) ∧ w'.cell? ⟨b, off + k * 11 + 1, none⟩ = some (.slice c.ea c.L.length c.ecap) ∧ w'.cell? ⟨b, off + k * 11 + 2, none⟩ = some (.int .i64 c.dflt) ∧ w'.cell? ⟨b, off + k * 11 + 3, none⟩ = some (.string c.pol) ∧ w'.cell? ⟨b, off + k * 11 + 4, none⟩ = some (.int .i64 c.clr) ∧ w'.cell? ⟨b, off + k * 11 + 5, none⟩ = some (.int .i64 c.key) ∧ w'.cell? ⟨b, off + k * 11 + 6, none⟩ = some (.int .i64 c.inn) ∧ w'.cell? ⟨b, off + k * 11 + 7, none⟩ = some (.int .i64 c.out) ∧ w'.cell? ⟨b, off + k * 11 + 8, none⟩ = some (.int .i64 c.depth) ∧ w'.cell? ⟨b, off + k * 11 + 9, none⟩ = some (.int .i64 c.bytes) ∧ w'.cell? ⟨b, off + k * 11 + 10, none⟩ = some (.slice c.ba c.B.length c.bcap)) (go_keep) (first | (go_at_call 56; refine (cPK _).mono ?_; rintro e w' ⟨rfl, rfl⟩))
    all_goals go_wp2_with (first | (refine wpList_load_row rfl 74 _ rfl _ rfl _ _ _ _ HOP.out Tryz.underlying74 rfl HIO.out ?_) | (go_at_call 58; refine cA.mono ?_; rintro e w2 ⟨rfl, hB2⟩))
    all_goals go_ret
    all_goals exact ⟨rfl, HB0.out.trans (hB2.mono (by simp; omega))⟩
end Go.Proofs.YtllcbnfmihfaaaaGreatDoor
