import Derived.Test.YtllcbnfmihfaaaaGreatDoorStep
namespace Go.Proofs.YtllcbnfmihfaaaaGreatDoor
open Go.RowKit

/-- The steps of a script, in memory: the k-th is h k. -/
structure OpsAt (w : World) (a : Option Addr) (n : Nat) (h : Nat → OpD) : Prop where
  at_ : ∀ k, k < n → ∃ b off, a = some ⟨b, off, none⟩ ∧ b < w.heap.size ∧ ∀ k j, k < n → j < 7 → w.cell? ⟨b, off + k * 7 + j, none⟩ = (h k).arr[j]?
  a1 : ∀ k, k < n → -9223372036854775808 ≤ (h k).a ∧ (h k).a ≤ 9223372036854775807
theorem OpsAt.below {w w' : World} {a : Option Addr} {n : Nat} {g : Nat → OpD} (h : OpsAt w a n g) (hb : Below w.heap.size w w') : OpsAt w' a n g :=
  ⟨fun k hk => by
    obtain ⟨b, off, ha, hlt, h1⟩ := h.at_ k hk
    exact ⟨b, off, ha, Nat.lt_of_lt_of_le hlt hb.size, fun k j hk hj => (hb.cell (p := ⟨b, _, none⟩) hlt).trans (h1 k j hk hj)⟩, h.a1⟩

theorem step_c (B : Nat) (o : OpD) (kind : Int) (hk : o.kind = kind) (h12 : kind = 1 ∨ kind = 2) (hsay : AskSays kind) (a : Option Addr) (n cap : Nat) (g : Nat → Cfg) (hn : n ≤ maxLen) (ha : -9223372036854775808 ≤ o.a ∧ o.a ≤ 9223372036854775807)
    (w : World) (hcs : w.cell? ⟨B, 0, none⟩ = some (.slice a n cap)) (hC : CfgsAt w a n g) (hg : Glob w) :
    Calls Tryz.prog 35 #[.pointer (some ⟨B, 0, none⟩), .agg o.arr] w fun e w' => e = .returned (.bool true) ∧ Below w.heap.size w w' := by
  rcases Nat.eq_zero_or_pos n with h0 | h0
  · subst h0
    exact step_none B o kind hk h12 a cap w hcs
  · exact step_some B o kind hk h12 hsay a n cap g h0 hn ha w hcs hC hg

/-- What a round of 'plays' stands on. -/
structure PlayAt (w W : World) (cs : Value) : Prop where
  below : Below w.heap.size w W
  own : W.heap[w.heap.size]? = some (.cells #[cs, .slice none 0 0, .slice none 0 0] 71)
theorem PlayAt.step {w W W' : World} {cs : Value} (h : PlayAt w W cs) (hb : Below W.heap.size W W') : PlayAt w W' cs :=
  ⟨h.below.trans (hb.mono h.below.size), (hb.block _ (Array.getElem?_eq_some_iff.1 h.own).1).trans h.own⟩

set_option maxRecDepth 100000 in
set_option maxHeartbeats 4000000 in
theorem plays_any (kind : Int) (h12 : kind = 1 ∨ kind = 2) (hsay : AskSays kind) (ca : Option Addr) (cn ccap : Nat) (g : Nat → Cfg) (hcn : cn ≤ maxLen) (sa : Option Addr) (sn scap : Nat) (h : Nat → OpD) (hsn : sn < 144115188075855872) (pa : Option Addr) (pcap : Nat)
    (w : World) (hC : CfgsAt w ca cn g) (hO : OpsAt w sa sn h) (hP : IntsAt w pa [kind]) (hg : Glob w) :
    Calls Tryz.prog 15 #[.slice ca cn ccap, .slice sa sn scap, .slice pa 1 pcap] w fun e w' => e = .returned (.bool true) ∧ Below w.heap.size w w' := by
  have HS : Hid (AskSays kind) := hsay
  have HC : Hid (CfgsAt w ca cn g) := hC
  have HO : Hid (OpsAt w sa sn h) := hO
  have HP : Hid (IntsAt w pa [kind]) := hP
  have HG : Hid (Glob w) := hg
  have H12 : Hid (kind = 1 ∨ kind = 2) := h12
  clear hsay hC hO hP hg h12
  have HT : Hid (PlayAt w (w.alloc (.cells #[.slice ca cn ccap, .slice none 0 0, .slice none 0 0] 71)) (.slice ca cn ccap)) := ⟨(Below.refl _ _).alloc (Nat.le_refl _) _, heap_new _ _⟩
  go_enter Tryz.func15, Tryz.ntmps15
  go_wp2
  generalize w.alloc (.cells #[.slice ca cn ccap, .slice none 0 0, .slice none 0 0] 71) = W0 at *
  go_loopg [8, 9, 10, 11, 12] sn (fun gh x1 x2 x3 x4 x5 wr => ∃ k : Nat, Hid (k + gh = sn) ∧ x1 = .int .i64 k ∧ Hid (PlayAt w wr (.slice ca cn ccap)))
  case atStart => exact ⟨0, by show _ = _; omega, rfl, HT⟩
  case round =>
    clear HT
    obtain ⟨k, hk, rfl, HX⟩ := hrel
    cases gk with
    | zero =>
      have hlt : ¬ (k : Int) < sn := by have := hk.out; omega
      have hl2 := cellOfHeap HX.out.own 2
      have cA := apart_none w.heap.size wr hl2
      clear hl2
      go_wp2_with (first | (go_at_call 37; refine cA.mono ?_; rintro e w2 ⟨rfl, rfl⟩))
      go_ret
      exact ⟨rfl, HX.out.below⟩
    | succ gh =>
      have hlt : (k : Int) < sn := by have := hk.out; omega
      have hlt2 : (k : Int) < 144115188075855872 := by omega
      obtain ⟨b, off, rfl, hbl, hcc⟩ := (HO.out.below HX.out.below).at_ k (by omega)
      have hao := HO.out.a1 k (by omega)
      have k0 : wr.cell? ⟨b, off + k * 7, none⟩ = some (.int .i64 (h k).kind) := hcc k 0 (by omega) (by omega)
      have k1 : wr.cell? ⟨b, off + k * 7 + 1, none⟩ = some (.int .i64 (h k).a) := hcc k 1 (by omega) (by omega)
      have k2 : wr.cell? ⟨b, off + k * 7 + 2, none⟩ = some (.int .i64 (h k).b) := hcc k 2 (by omega) (by omega)
      have k3 : wr.cell? ⟨b, off + k * 7 + 3, none⟩ = some (.int .i64 (h k).c) := hcc k 3 (by omega) (by omega)
      have k4 : wr.cell? ⟨b, off + k * 7 + 4, none⟩ = some (.int .i64 (h k).d) := hcc k 4 (by omega) (by omega)
      have k5 : wr.cell? ⟨b, off + k * 7 + 5, none⟩ = some (.string (h k).s) := hcc k 5 (by omega) (by omega)
      have k6 : wr.cell? ⟨b, off + k * 7 + 6, none⟩ = some (.slice (h k).pp (h k).pl (h k).pc) := hcc k 6 (by omega) (by omega)
      clear hcc
      generalize h k = o at *
      have HAO : Hid (-9223372036854775808 ≤ o.a ∧ o.a ≤ 9223372036854775807) := hao
      clear hao
      have hB1 : Below wr.heap.size wr (wr.alloc (.cells o.arr 74)) := (Below.refl _ _).alloc (Nat.le_refl _) _
      have HX1 : Hid (PlayAt w (wr.alloc (.cells o.arr 74)) (.slice ca cn ccap)) := HX.out.step hB1
      have cM := among_any pa pcap [kind] o.kind (by simp [maxLen]) (wr.alloc (.cells o.arr 74)) (HP.out.below HX1.out.below)
      have HN : Hid ((wr.alloc (.cells o.arr 74)).heap[wr.heap.size]? = some (.cells o.arr 74)) := heap_new _ _
      have HIO : Hid ((Tryz.prog.info? 74).map (·.size) = some o.arr.size) := by show _ = _; rw [show o.arr.size = 7 from rfl]; kernel_rfl
      clear hB1
      have hcs := cellOfHeap HX1.out.own 0
      by_cases hkk : o.kind = kind
      · have HKK : Hid (o.kind = kind) := hkk
        have HCS : Hid ((wr.alloc (.cells o.arr 74)).cell? ⟨w.heap.size, 0, none⟩ = some (.slice ca cn ccap)) := hcs
        have hM : amongB [kind] o.kind = true := by simp [amongB, hkk]
        rw [hM] at cM
        clear hM hkk hcs
        go_wp2_with (first
          | (go_at_call 34; refine cM.mono ?_; clear cM; rintro e w2 ⟨rfl, rfl⟩; clear k0 k1 k2 k3 k4 k5 k6 hlt2)
          | (refine wpList_load_row rfl 74 _ rfl _ rfl _ _ _ _ HN.out Tryz.underlying74 rfl HIO.out ?_)
          | fail)
        show Calls Tryz.prog 35 #[.pointer (some ⟨w.heap.size, 0, none⟩), .agg o.arr] (wr.alloc (.cells o.arr 74)) _
        refine (step_c w.heap.size o kind HKK.out H12.out HS.out ca cn ccap g hcn HAO.out (wr.alloc (.cells o.arr 74)) HCS.out (HC.out.below HX1.out.below) (HG.out.below HX1.out.below)).mono ?_
        rintro e w3 ⟨rfl, hB3⟩
        have HX3 : Hid (PlayAt w w3 (.slice ca cn ccap)) := HX1.out.step hB3
        have cL := looks_none w.heap.size w3 (cellOfHeap HX3.out.own 2)
        clear hB3
        go_wp2_with (first
          | (go_at_call 36; refine cL.mono ?_; clear cL; rintro e w4 ⟨rfl, rfl⟩))
        go_roundg gh
        case measure => omega
        case rel => exact ⟨k + 1, by show _ = _; have := hk.out; omega, by go_num, HX3⟩
      · have hM : amongB [kind] o.kind = false := by simp [amongB]; intro e; exact hkk e.symm
        rw [hM] at cM
        clear hM hkk hcs
        go_wp2_with (first
          | (go_at_call 34; refine cM.mono ?_; clear cM; rintro e w2 ⟨rfl, rfl⟩))
        go_roundg gh
        case measure => omega
        case rel => exact ⟨k + 1, by show _ = _; have := hk.out; omega, by go_num, HX1⟩

set_option maxRecDepth 100000 in
set_option maxHeartbeats 1000000 in
theorem checks_any (hsay : AskSays 1) (ca : Option Addr) (cn ccap : Nat) (g : Nat → Cfg) (hcn : cn ≤ maxLen) (sa : Option Addr) (sn scap : Nat) (h : Nat → OpD) (hsn : sn < 144115188075855872) (w : World) (hC : CfgsAt w ca cn g) (hO : OpsAt w sa sn h) (hg : Glob w) :
    Calls Tryz.prog 3 #[.slice ca cn ccap, .slice sa sn scap] w fun e w' => e = .returned (.bool true) ∧ Below w.heap.size w w' := by
  have hb : Below w.heap.size w (w.alloc (.cells #[.int .i64 1] 3)) := (Below.refl _ _).alloc (Nat.le_refl _) _
  have hP : IntsAt (w.alloc (.cells #[.int .i64 1] 3)) (some ⟨w.heap.size, 0, none⟩) [1] := ⟨fun i hi => ⟨w.heap.size, 0, rfl, by simp, fun j hj => by
    have : j = 0 := by simpa using hj
    subst this
    exact cellOfHeap (heap_new _ _) 0⟩⟩
  have cP := plays_any 1 (.inl rfl) hsay ca cn ccap g hcn sa sn scap h hsn (some ⟨w.heap.size, 0, none⟩) 1 _ (hC.below hb) (hO.below hb) hP (hg.below hb)
  have HB : Hid (Below w.heap.size w (w.alloc (.cells #[.int .i64 1] 3))) := hb
  clear hb hP hC hO hg hsay
  go_enter Tryz.func3, Tryz.ntmps3
  go_wp2_with (first | (go_at_call 15; refine cP.mono ?_; clear cP; rintro e w2 ⟨rfl, hB2⟩))
  go_ret
  exact ⟨rfl, HB.out.trans (hB2.mono (by simp))⟩
set_option maxRecDepth 100000 in
set_option maxHeartbeats 1000000 in
theorem orders_any (hsay : AskSays 2) (ca : Option Addr) (cn ccap : Nat) (g : Nat → Cfg) (hcn : cn ≤ maxLen) (sa : Option Addr) (sn scap : Nat) (h : Nat → OpD) (hsn : sn < 144115188075855872) (w : World) (hC : CfgsAt w ca cn g) (hO : OpsAt w sa sn h) (hg : Glob w) :
    Calls Tryz.prog 4 #[.slice ca cn ccap, .slice sa sn scap] w fun e w' => e = .returned (.bool true) ∧ Below w.heap.size w w' := by
  have hb : Below w.heap.size w (w.alloc (.cells #[.int .i64 2] 3)) := (Below.refl _ _).alloc (Nat.le_refl _) _
  have hP : IntsAt (w.alloc (.cells #[.int .i64 2] 3)) (some ⟨w.heap.size, 0, none⟩) [2] := ⟨fun i hi => ⟨w.heap.size, 0, rfl, by simp, fun j hj => by
    have : j = 0 := by simpa using hj
    subst this
    exact cellOfHeap (heap_new _ _) 0⟩⟩
  have cP := plays_any 2 (.inr rfl) hsay ca cn ccap g hcn sa sn scap h hsn (some ⟨w.heap.size, 0, none⟩) 1 _ (hC.below hb) (hO.below hb) hP (hg.below hb)
  have HB : Hid (Below w.heap.size w (w.alloc (.cells #[.int .i64 2] 3))) := hb
  clear hb hP hC hO hg hsay
  go_enter Tryz.func4, Tryz.ntmps4
  go_wp2_with (first | (go_at_call 15; refine cP.mono ?_; clear cP; rintro e w2 ⟨rfl, hB2⟩))
  go_ret
  exact ⟨rfl, HB.out.trans (hB2.mono (by simp))⟩
end Go.Proofs.YtllcbnfmihfaaaaGreatDoor
