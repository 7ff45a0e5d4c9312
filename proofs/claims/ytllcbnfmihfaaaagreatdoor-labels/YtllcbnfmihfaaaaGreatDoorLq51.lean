import Derived.Test.YtllcbnfmihfaaaaGreatDoorLq19
import Derived.Test.YtllcbnfmihfaaaaGreatDoorLq20
import Derived.Test.YtllcbnfmihfaaaaGreatDoorLq31
import Derived.Test.YtllcbnfmihfaaaaGreatDoorLq41
import Derived.Test.YtllcbnfmihfaaaaGreatDoorLq50
namespace Go.Proofs.YtllcbnfmihfaaaaGreatDoor
open Go.RowKit

/-- The path of a step, in memory. -/
structure OpP (w : World) (o : OpD) (ps : List (List UInt8 × Bool)) : Prop where
  len : o.pl = ps.length
  at_ : PthAt w o.pp ps
  none_ : o.pp = none → o.pl = 0 ∧ o.pc = 0
  keys : ∀ i (h : i < ps.length), ps[i].1.length ≤ maxLen
  bytes : (ps.length + 8) * 24 ≤ 281474976710656
theorem OpP.below {w w' : World} {o : OpD} {ps : List (List UInt8 × Bool)} (h : OpP w o ps) (hb : Below w.heap.size w w') : OpP w' o ps := ⟨h.len, h.at_.below hb, h.none_, h.keys, h.bytes⟩
theorem asked3 (c : Cfg) (o : OpD) (ps : List (List UInt8 × Bool)) (hk : o.kind = 3) (w : World) (hc : CfgW w c) (hg : Glob w) (hp : OpP w o ps) :
    Calls Tryz.prog 58 #[.agg c.arr, .agg o.arr] w fun e w' => e = .returned (.bool true) ∧ Below w.heap.size w w' := by
  cases hpp : o.pp with
  | none => exact asked_label_none c o hk hpp (hp.none_ hpp).1 (hp.none_ hpp).2 w hc hg
  | some ad => exact asked_label_some c o ps ad hk hpp hp.len w hc hg (hpp ▸ hp.at_) hp.keys hp.bytes
set_option maxRecDepth 100000 in
set_option maxHeartbeats 4000000 in
theorem step3_none (B : Nat) (o : OpD) (hk : o.kind = 3) (a : Option Addr) (cap : Nat) (w : World) (hcs : w.cell? ⟨B, 0, none⟩ = some (.slice a 0 cap)) :
    Calls Tryz.prog 35 #[.pointer (some ⟨B, 0, none⟩), .agg o.arr] w fun e w' => e = .returned (.bool true) ∧ Below w.heap.size w w' := by
  have ok : o.arr[0]? = some (.int .i64 3) := by rw [← hk]; rfl
  have hbl := block_lt_of_cell hcs
  clear hk
  go_enter Tryz.func35, Tryz.ntmps35
  go_wp2
  go_ret
  exact ⟨rfl, (Below.refl _ _).alloc (Nat.le_refl _) _⟩
set_option maxRecDepth 100000 in
set_option maxHeartbeats 4000000 in
theorem step3_some (B : Nat) (o : OpD) (ps : List (List UInt8 × Bool)) (hk : o.kind = 3) (a : Option Addr) (n cap : Nat) (g : Nat → Cfg) (h1 : 1 ≤ n) (hn : n ≤ maxLen) (ha : -9223372036854775808 ≤ o.a ∧ o.a ≤ 9223372036854775807)
    (w : World) (hcs : w.cell? ⟨B, 0, none⟩ = some (.slice a n cap)) (hC : CfgsAt w a n g) (hg : Glob w) (hop : OpP w o ps) :
    Calls Tryz.prog 35 #[.pointer (some ⟨B, 0, none⟩), .agg o.arr] w fun e w' => e = .returned (.bool true) ∧ Below w.heap.size w w' := by
  have ok : o.arr[0]? = some (.int .i64 3) := by rw [← hk]; rfl
  have oa : o.arr[1]? = some (.int .i64 o.a) := rfl
  have hbl := block_lt_of_cell hcs
  have HOO : Hid (OpP w o ps) := hop
  have HG : Hid (Glob w) := hg
  have HC : Hid (CfgsAt w a n g) := hC
  have HK : Hid (o.kind = 3) := hk
  have HZ : Hid (o.arr.size = 7) := rfl
  have ha1 := ha.1
  have ha2 := ha.2
  have hne : ((n : Int) == 0) = false := beq_eq_false_iff_ne.2 (by omega)
  obtain ⟨b, off, rfl, hb, hcc⟩ := hC.at_ 0 (by omega)
  have hkl := pickN_lt o.a n h1
  have cPK := fun w => pick_at o.a n w h1 hn ha1 ha2
  have HCK : Hid (CfgW w (g (pickN o.a n))) := hC.each _ hkl
  generalize pickN o.a n = k at *
  have k0 : w.cell? ⟨b, off + k * 11, none⟩ = some (.int .i64 (g k).labels) := hcc k 0 hkl (by omega)
  have k1 : w.cell? ⟨b, off + k * 11 + 1, none⟩ = some (.slice (g k).ea (g k).L.length (g k).ecap) := hcc k 1 hkl (by omega)
  have k2 : w.cell? ⟨b, off + k * 11 + 2, none⟩ = some (.int .i64 (g k).dflt) := hcc k 2 hkl (by omega)
  have k3 : w.cell? ⟨b, off + k * 11 + 3, none⟩ = some (.string (g k).pol) := hcc k 3 hkl (by omega)
  have k4 : w.cell? ⟨b, off + k * 11 + 4, none⟩ = some (.int .i64 (g k).clr) := hcc k 4 hkl (by omega)
  have k5 : w.cell? ⟨b, off + k * 11 + 5, none⟩ = some (.int .i64 (g k).key) := hcc k 5 hkl (by omega)
  have k6 : w.cell? ⟨b, off + k * 11 + 6, none⟩ = some (.int .i64 (g k).inn) := hcc k 6 hkl (by omega)
  have k7 : w.cell? ⟨b, off + k * 11 + 7, none⟩ = some (.int .i64 (g k).out) := hcc k 7 hkl (by omega)
  have k8 : w.cell? ⟨b, off + k * 11 + 8, none⟩ = some (.int .i64 (g k).depth) := hcc k 8 hkl (by omega)
  have k9 : w.cell? ⟨b, off + k * 11 + 9, none⟩ = some (.int .i64 (g k).bytes) := hcc k 9 hkl (by omega)
  have k10 : w.cell? ⟨b, off + k * 11 + 10, none⟩ = some (.slice (g k).ba (g k).B.length (g k).bcap) := hcc k 10 hkl (by omega)
  generalize hgk : g k = c at *
  clear hgk
  have n0 := World.new_ne w _ hcs
  have n1 := World.new_ne w _ k0
  have hkl0 : (0 : Int) ≤ (k : Int) := by omega
  have hkl1 : (k : Int) < (n : Int) := by omega
  have HOP : Hid (((w.alloc (.cells o.arr 74)).alloc (.cells c.arr 45)).drew.heap[w.heap.size]? = some (.cells o.arr 74)) := (Below.heap_alloc _ _ _ (by simp)).trans (heap_new _ _)
  have HIO : Hid ((Tryz.prog.info? 74).map (·.size) = some o.arr.size) := by show _ = _; rw [HZ.out]; kernel_rfl
  have HB0 : Hid (Below w.heap.size w ((w.alloc (.cells o.arr 74)).alloc (.cells c.arr 45)).drew) := (((Below.refl _ _).alloc (Nat.le_refl _) _).alloc (by simp) _).drew
  have cA := asked3 c o ps HK.out ((w.alloc (.cells o.arr 74)).alloc (.cells c.arr 45)).drew (HCK.out.below HB0.out) (HG.out.below HB0.out) (HOO.out.below HB0.out)
  clear hcc hC hg hop hk ha hn HC
  go_enter Tryz.func35, Tryz.ntmps35
  go_wp2
  go_region_held3 (fun w' => w'.cell? ⟨B, 0, none⟩ = some (.slice (some ⟨b, off, none⟩) n cap) ∧ w'.cell? ⟨w.heap.size, 1, none⟩ = some (.int .i64 o.a) ∧ w'.cell? ⟨b, off + k * 11, none⟩ = some (.int .i64 c.labels) ∧ w'.cell? ⟨b, off + k * 11 + 1, none⟩ = some (.slice c.ea c.L.length c.ecap) ∧ w'.cell? ⟨b, off + k * 11 + 2, none⟩ = some (.int .i64 c.dflt) ∧ w'.cell? ⟨b, off + k * 11 + 3, none⟩ = some (.string c.pol) ∧ w'.cell? ⟨b, off + k * 11 + 4, none⟩ = some (.int .i64 c.clr) ∧ w'.cell? ⟨b, off + k * 11 + 5, none⟩ = some (.int .i64 c.key) ∧ w'.cell? ⟨b, off + k * 11 + 6, none⟩ = some (.int .i64 c.inn) ∧ w'.cell? ⟨b, off + k * 11 + 7, none⟩ = some (.int .i64 c.out) ∧ w'.cell? ⟨b, off + k * 11 + 8, none⟩ = some (.int .i64 c.depth) ∧ w'.cell? ⟨b, off + k * 11 + 9, none⟩ = some (.int .i64 c.bytes) ∧ w'.cell? ⟨b, off + k * 11 + 10, none⟩ = some (.slice c.ba c.B.length c.bcap)) (go_keep) (first | (go_at_call 56; refine (cPK _).mono ?_; rintro e w' ⟨rfl, rfl⟩))
  all_goals go_wp2_with (first | (refine wpList_load_row rfl 74 _ rfl _ rfl _ _ _ _ HOP.out Tryz.underlying74 rfl HIO.out ?_) | (go_at_call 58; refine cA.mono ?_; rintro e w2 ⟨rfl, hB2⟩))
  all_goals go_ret
  all_goals exact ⟨rfl, HB0.out.trans (hB2.mono (by simp; omega))⟩
end Go.Proofs.YtllcbnfmihfaaaaGreatDoor
namespace Go.Proofs.YtllcbnfmihfaaaaGreatDoor
open Go.RowKit

theorem step3_c (B : Nat) (o : OpD) (ps : List (List UInt8 × Bool)) (hk : o.kind = 3) (a : Option Addr) (n cap : Nat) (g : Nat → Cfg) (hn : n ≤ maxLen) (ha : -9223372036854775808 ≤ o.a ∧ o.a ≤ 9223372036854775807)
    (w : World) (hcs : w.cell? ⟨B, 0, none⟩ = some (.slice a n cap)) (hC : CfgsAt w a n g) (hg : Glob w) (hop : OpP w o ps) :
    Calls Tryz.prog 35 #[.pointer (some ⟨B, 0, none⟩), .agg o.arr] w fun e w' => e = .returned (.bool true) ∧ Below w.heap.size w w' := by
  rcases Nat.eq_zero_or_pos n with h0 | h0
  · subst h0
    exact step3_none B o hk a cap w hcs
  · exact step3_some B o ps hk a n cap g h0 hn ha w hcs hC hg hop
set_option maxRecDepth 100000 in
set_option maxHeartbeats 4000000 in
theorem plays3_any (ca : Option Addr) (cn ccap : Nat) (g : Nat → Cfg) (hcn : cn ≤ maxLen) (sa : Option Addr) (sn scap : Nat) (h : Nat → OpD) (hsn : sn < 144115188075855872) (pa : Option Addr) (pcap : Nat)
    (w : World) (hC : CfgsAt w ca cn g) (hO : OpsAt w sa sn h) (hP : IntsAt w pa [3]) (hg : Glob w) (pf : Nat → List (List UInt8 × Bool)) (hF : ∀ k, k < sn → OpP w (h k) (pf k)) :
    Calls Tryz.prog 15 #[.slice ca cn ccap, .slice sa sn scap, .slice pa 1 pcap] w fun e w' => e = .returned (.bool true) ∧ Below w.heap.size w w' := by
  have HFF : Hid (∀ k, k < sn → OpP w (h k) (pf k)) := hF
  have HC : Hid (CfgsAt w ca cn g) := hC
  have HO : Hid (OpsAt w sa sn h) := hO
  have HP : Hid (IntsAt w pa [3]) := hP
  have HG : Hid (Glob w) := hg
  clear hC hO hP hg hF
  have HT : Hid (PlayAt w (w.alloc (.cells #[.slice ca cn ccap, .slice none 0 0, .slice none 0 0] 71)) (.slice ca cn ccap)) := ⟨(Below.refl _ _).alloc (Nat.le_refl _) _, heap_new _ _⟩
  go_enter Tryz.func15, Tryz.ntmps15
  go_wp2
  generalize w.alloc (.cells #[.slice ca cn ccap, .slice none 0 0, .slice none 0 0] 71) = W0 at *
  go_loopg [8, 9, 10, 11, 12] sn (fun gh x1 x2 x3 x4 x5 wr => ∃ k : Nat, Hid (k + gh = sn) ∧ x1 = .int .i64 k ∧ Hid (PlayAt w wr (.slice ca cn ccap)))
  case atStart => exact ⟨0, by show _ = _; omega, rfl, HT⟩
  case round =>
    clear HT
    obtain ⟨k, hk, rfl, HX⟩ := hrel
    cases gk with
    | zero =>
      have hlt : ¬ (k : Int) < sn := by have := hk.out; omega
      have hl2 := cellOfHeap HX.out.own 2
      have cA := apart_none w.heap.size wr hl2
      clear hl2
      go_wp2_with (first | (go_at_call 37; refine cA.mono ?_; rintro e w2 ⟨rfl, rfl⟩))
      go_ret
      exact ⟨rfl, HX.out.below⟩
    | succ gh =>
      have hlt : (k : Int) < sn := by have := hk.out; omega
      have hlt2 : (k : Int) < 144115188075855872 := by omega
      obtain ⟨b, off, rfl, hbl, hcc⟩ := (HO.out.below HX.out.below).at_ k (by omega)
      have hao := HO.out.a1 k (by omega)
      have k0 : wr.cell? ⟨b, off + k * 7, none⟩ = some (.int .i64 (h k).kind) := hcc k 0 (by omega) (by omega)
      have k1 : wr.cell? ⟨b, off + k * 7 + 1, none⟩ = some (.int .i64 (h k).a) := hcc k 1 (by omega) (by omega)
      have k2 : wr.cell? ⟨b, off + k * 7 + 2, none⟩ = some (.int .i64 (h k).b) := hcc k 2 (by omega) (by omega)
      have k3 : wr.cell? ⟨b, off + k * 7 + 3, none⟩ = some (.int .i64 (h k).c) := hcc k 3 (by omega) (by omega)
      have k4 : wr.cell? ⟨b, off + k * 7 + 4, none⟩ = some (.int .i64 (h k).d) := hcc k 4 (by omega) (by omega)
      have k5 : wr.cell? ⟨b, off + k * 7 + 5, none⟩ = some (.string (h k).s) := hcc k 5 (by omega) (by omega)
      have k6 : wr.cell? ⟨b, off + k * 7 + 6, none⟩ = some (.slice (h k).pp (h k).pl (h k).pc) := hcc k 6 (by omega) (by omega)
      clear hcc
      have HOO : Hid (OpP w (h k) (pf k)) := HFF.out k (by omega)
      generalize h k = o at *
      have HAO : Hid (-9223372036854775808 ≤ o.a ∧ o.a ≤ 9223372036854775807) := hao
      clear hao
      have hB1 : Below wr.heap.size wr (wr.alloc (.cells o.arr 74)) := (Below.refl _ _).alloc (Nat.le_refl _) _
      have HX1 : Hid (PlayAt w (wr.alloc (.cells o.arr 74)) (.slice ca cn ccap)) := HX.out.step hB1
      have cM := among_any pa pcap [3] o.kind (by simp [maxLen]) (wr.alloc (.cells o.arr 74)) (HP.out.below HX1.out.below)
      have HN : Hid ((wr.alloc (.cells o.arr 74)).heap[wr.heap.size]? = some (.cells o.arr 74)) := heap_new _ _
      have HIO : Hid ((Tryz.prog.info? 74).map (·.size) = some o.arr.size) := by show _ = _; rw [show o.arr.size = 7 from rfl]; kernel_rfl
      clear hB1
      have hcs := cellOfHeap HX1.out.own 0
      by_cases hkk : o.kind = 3
      · have HKK : Hid (o.kind = 3) := hkk
        have HCS : Hid ((wr.alloc (.cells o.arr 74)).cell? ⟨w.heap.size, 0, none⟩ = some (.slice ca cn ccap)) := hcs
        have hM : amongB [3] o.kind = true := by simp [amongB, hkk]
        rw [hM] at cM
        clear hM hkk hcs
        go_wp2_with (first
          | (go_at_call 34; refine cM.mono ?_; clear cM; rintro e w2 ⟨rfl, rfl⟩; clear k0 k1 k2 k3 k4 k5 k6 hlt2)
          | (refine wpList_load_row rfl 74 _ rfl _ rfl _ _ _ _ HN.out Tryz.underlying74 rfl HIO.out ?_)
          | fail)
        show Calls Tryz.prog 35 #[.pointer (some ⟨w.heap.size, 0, none⟩), .agg o.arr] (wr.alloc (.cells o.arr 74)) _
        refine (step3_c w.heap.size o (pf k) HKK.out ca cn ccap g hcn HAO.out (wr.alloc (.cells o.arr 74)) HCS.out (HC.out.below HX1.out.below) (HG.out.below HX1.out.below) (HOO.out.below HX1.out.below)).mono ?_
        rintro e w3 ⟨rfl, hB3⟩
        have HX3 : Hid (PlayAt w w3 (.slice ca cn ccap)) := HX1.out.step hB3
        have cL := looks_none w.heap.size w3 (cellOfHeap HX3.out.own 2)
        clear hB3
        go_wp2_with (first
          | (go_at_call 36; refine cL.mono ?_; clear cL; rintro e w4 ⟨rfl, rfl⟩))
        go_roundg gh
        case measure => omega
        case rel => exact ⟨k + 1, by show _ = _; have := hk.out; omega, by go_num, HX3⟩
      · have hM : amongB [3] o.kind = false := by simp [amongB]; intro e; exact hkk e.symm
        rw [hM] at cM
        clear hM hkk hcs
        go_wp2_with (first
          | (go_at_call 34; refine cM.mono ?_; clear cM; rintro e w2 ⟨rfl, rfl⟩))
        go_roundg gh
        case measure => omega
        case rel => exact ⟨k + 1, by show _ = _; have := hk.out; omega, by go_num, HX1⟩
set_option maxRecDepth 100000 in
set_option maxHeartbeats 4000000 in
theorem labels_any (ca : Option Addr) (cn ccap : Nat) (g : Nat → Cfg) (hcn : cn ≤ maxLen) (sa : Option Addr) (sn scap : Nat) (h : Nat → OpD) (hsn : sn < 144115188075855872) (w : World) (hC : CfgsAt w ca cn g) (hO : OpsAt w sa sn h) (hg : Glob w) (pf : Nat → List (List UInt8 × Bool)) (hF : ∀ k, k < sn → OpP w (h k) (pf k)) :
    Calls Tryz.prog 10 #[.slice ca cn ccap, .slice sa sn scap] w fun e w' => e = .returned (.bool true) ∧ Below w.heap.size w w' := by
  have hb : Below w.heap.size w (w.alloc (.cells #[.int .i64 3] 3)) := (Below.refl _ _).alloc (Nat.le_refl _) _
  have hP : IntsAt (w.alloc (.cells #[.int .i64 3] 3)) (some ⟨w.heap.size, 0, none⟩) [3] := ⟨fun i hi => ⟨w.heap.size, 0, rfl, by simp, fun j hj => by
    have : j = 0 := by simpa using hj
    subst this
    exact cellOfHeap (heap_new _ _) 0⟩⟩
  have cP := plays3_any ca cn ccap g hcn sa sn scap h hsn (some ⟨w.heap.size, 0, none⟩) 1 _ (hC.below hb) (hO.below hb) hP (hg.below hb) pf (fun k hk => (hF k hk).below hb)
  have HB : Hid (Below w.heap.size w (w.alloc (.cells #[.int .i64 3] 3))) := hb
  clear hb hP hC hO hg hF
  go_enter Tryz.func10, Tryz.ntmps10
  go_wp2_with (first | (go_at_call 15; refine cP.mono ?_; clear cP; rintro e w2 ⟨rfl, hB2⟩))
  go_ret
  exact ⟨rfl, HB.out.trans (hB2.mono (by simp))⟩
end Go.Proofs.YtllcbnfmihfaaaaGreatDoor
namespace Go.Proofs.YtllcbnfmihfaaaaGreatDoor
open Go.RowKit Go.Deep

theorem cellsStp : Tryz.prog.cellsOf 259 = 2 := by kernel_rfl
theorem bytesStp : Tryz.prog.bytesOf 259 = 24 := by kernel_rfl
theorem cellsBool : Tryz.prog.cellsOf 4 = 1 := by kernel_rfl
section
variable {H : Type} {enc : TypeId × Value → H} {w : World}

theorem steps_of {fuel : Nat} {v : Value} {x : DataW H × List MemPlace} (h : DataW.trod enc Tryz.prog w 0 (fun _ => true) true fuel 72 [v] = some x) (hw : (x.1.weights Tryz.prog 72).all (· ≤ reachBytes) = true) :
    ∃ (a : Option Addr) (cap : Nat) (L : List (List UInt8 × Bool)), v = .slice a L.length cap ∧ PthAt w a L ∧ (a = none → L.length = 0 ∧ cap = 0) ∧ (L.length + 8) * 24 ≤ 281474976710656 ∧ ∀ i (h : i < L.length), L[i].1.length ≤ maxLen := by
  rcases open_slice Tryz.underlying72 h with ⟨hv, _⟩ | ⟨a, len, cap, m, n, D, Pl, hv, _, hl, hm, hmm, rfl, hx⟩
  · cases hv
    exact ⟨none, 0, [], rfl, ⟨fun i hi => by simp at hi⟩, fun _ => ⟨rfl, rfl⟩, by decide, fun i hi => absurd hi (Nat.not_lt_zero i)⟩
  · cases hv
    have hmc : m = cap := by rw [hmm]; rfl
    subst hmc
    have hb : m * 24 ≤ reachBytes := by
      rw [List.all_eq_true] at hw
      have := hw (((List.range len).map D).length + ((List.range (m - len)).map fun j => D (len + j)).length |>.mul (Tryz.prog.bytesOf 259)) (by
        simp only [DataW.weights, Tryz.underlying72]
        exact List.mem_cons_self ..)
      rw [bytesStp] at this
      simp at this
      have e : len + (m - len) = m := by omega
      have h2 : (len + (m - len)) * 24 ≤ reachBytes := by simpa using this
      rwa [e] at h2
    have hz : ∀ i, i < m → ∃ z : List UInt8 × Bool, w.cell? (a.add (i * 2)) = some (.string ⟨z.1.toArray⟩) ∧ w.cell? ((a.add (i * 2)).add 1) = some (.bool z.2) ∧ z.1.length ≤ maxLen := fun i hi => by
      obtain ⟨cs', h1, h2⟩ := hx i hi
      rw [cellsStp] at h1
      obtain ⟨_, hlen, hc⟩ := World.cells?_some h1
      obtain ⟨xs, n', _, _, _, hxl, hf⟩ := DataW.trod_struct Tryz.underlying259 h2
      obtain ⟨c0, c1, rfl⟩ : ∃ c0 c1, cs' = [c0, c1] := by
        exact list2 hlen
      obtain ⟨y0, y1, rfl⟩ : ∃ y0 y1, xs = [y0, y1] := by
        clear h2 hf
        have hxl' : xs.length = 2 := hxl
        exact list2 hxl' 
      · have t0 := fld1 hf 0 rfl 9 0 rfl rfl cellsStr rfl rfl
        have t1 := fld1 hf 1 rfl 4 1 rfl rfl cellsBool rfl rfl
        obtain ⟨z0, e0, _, hz0⟩ := DataW.trod_string Tryz.underlying9 t0
        obtain ⟨z1, e1, _⟩ := DataW.trod_bool Tryz.underlying4 t1
        simp at e0 e1
        subst e0 e1
        refine ⟨(z0.data.toList, z1), ?_, ?_, ?_⟩
        · have := hc 0 (by omega)
          rw [add_add, Nat.add_zero] at this
          show _ = some (Value.string ⟨z0.data.toList.toArray⟩)
          rw [back]
          exact this
        · exact hc 1 (by omega)
        · have h3 : z0.data.toList.length = z0.size := Array.length_toList
          show z0.data.toList.length ≤ maxLen
          omega
    obtain ⟨Z, hZ⟩ := choose_lt hz
    refine ⟨some a, m, (List.range len).map Z, by simp, ⟨fun i hi => ?_⟩, fun hn => (by cases hn), ?_, fun i hi => ?_⟩
    · have hi' : i < len := by simpa using hi
      obtain ⟨b, off, rfl, hlt⟩ := spot_none (by have := (hZ 0 (by omega)).1; rwa [Nat.zero_mul] at this)
      have g := hZ i (by omega)
      rw [add_add, addr_add, addr_add] at g
      refine ⟨b, off, rfl, hlt, ?_, ?_⟩
      · rw [g.1]; simp
      · rw [Nat.add_assoc, g.2.1]; simp
    · have : reachBytes = 140737488351232 := rfl
      simp
      omega
    · have hi' : i < len := by simpa using hi
      have := (hZ i (by omega)).2.2
      simpa using this

set_option maxRecDepth 50000 in
theorem op_of3 {fuel : Nat} {cs : List Value} {x : DataW H × List MemPlace} (h : DataW.trod enc Tryz.prog w 0 (fun _ => true) true fuel 74 cs = some x) (hw : (x.1.weights Tryz.prog 74).all (· ≤ reachBytes) = true) :
    ∃ (o : OpD) (ps : List (List UInt8 × Bool)), cs = o.arr.toList ∧ (-9223372036854775808 ≤ o.a ∧ o.a ≤ 9223372036854775807) ∧ OpP w o ps := by
  obtain ⟨xs, n, _, rfl, hl, hlen, hf⟩ := DataW.trod_struct Tryz.underlying74 h
  rw [cellsOp] at hl
  match cs, hl, xs, hlen with
  | [v0, v1, v2, v3, v4, v5, v6], _, [y0, y1, y2, y3, y4, y5, y6], _ =>
    simp only [DataW.weights, Tryz.underlying74, List.map_cons, List.map_nil, DataW.weightsEach, List.all_append, Bool.and_eq_true] at hw
    have g0 := fld1 hf 0 rfl 3 0 rfl rfl cells3 rfl rfl
    have g1 := fld1 hf 1 rfl 3 1 rfl rfl cells3 rfl rfl
    have g2 := fld1 hf 2 rfl 3 2 rfl rfl cells3 rfl rfl
    have g3 := fld1 hf 3 rfl 3 3 rfl rfl cells3 rfl rfl
    have g4 := fld1 hf 4 rfl 3 4 rfl rfl cells3 rfl rfl
    have g5 := fld1 hf 5 rfl 9 5 rfl rfl cellsStr rfl rfl
    have g6 := fld1 hf 6 rfl 72 6 rfl rfl cellsPs rfl rfl
    obtain ⟨z0, e0, _⟩ := DataW.trod_int Tryz.underlying3 g0
    obtain ⟨z1, e1, _, wz⟩ := DataW.trod_int Tryz.underlying3 g1
    obtain ⟨z2, e2, _⟩ := DataW.trod_int Tryz.underlying3 g2
    obtain ⟨z3, e3, _⟩ := DataW.trod_int Tryz.underlying3 g3
    obtain ⟨z4, e4, _⟩ := DataW.trod_int Tryz.underlying3 g4
    obtain ⟨s5, e5, _⟩ := DataW.trod_string Tryz.underlying9 g5
    obtain ⟨pa, pc, ps, e6, hP, hPn, hPb, hPk⟩ := steps_of (v := v6) (by simpa using g6) hw.2.2.2.2.2.2.1
    simp at e0 e1 e2 e3 e4 e5
    subst e0 e1 e2 e3 e4 e5 e6
    have bd := bounds_i64 wz
    exact ⟨⟨z0, z1, z2, z3, z4, s5, pa, ps.length, pc⟩, ps, rfl, ⟨by simpa using bd.1, by simpa using bd.2⟩, ⟨rfl, hP, hPn, hPk, hPb⟩⟩
theorem ops_of3 {fuel : Nat} {v : Value} {x : DataW H × List MemPlace} (h : DataW.trod enc Tryz.prog w 0 (fun _ => true) true fuel 23 [v] = some x) (hw : (x.1.weights Tryz.prog 23).all (· ≤ reachBytes) = true) :
    ∃ (a : Option Addr) (n cap : Nat) (g : Nat → OpD) (pf : Nat → List (List UInt8 × Bool)), v = .slice a n cap ∧ OpsAt w a n g ∧ n < 144115188075855872 ∧ ∀ k, k < n → OpP w (g k) (pf k) := by
  rcases open_slice Tryz.underlying23 h with ⟨hv, _⟩ | ⟨a, len, cap, m, n, D, Pl, hv, _, hl, hm, hmm, rfl, hx⟩
  · cases hv
    exact ⟨none, 0, 0, fun _ => op0, fun _ => [], rfl, ⟨fun k hk => by omega, fun k hk => by omega⟩, by omega, fun k hk => by omega⟩
  · cases hv
    have hmc : m = cap := by rw [hmm]; rfl
    subst hmc
    rw [cellsOp] at hx
    have hb : m * 80 ≤ reachBytes := by
      rw [List.all_eq_true] at hw
      have := hw (((List.range len).map D).length + ((List.range (m - len)).map fun j => D (len + j)).length |>.mul (Tryz.prog.bytesOf 74)) (by
        simp only [DataW.weights, Tryz.underlying23]
        exact List.mem_cons_self ..)
      rw [bytesOp] at this
      simp at this
      have e : len + (m - len) = m := by omega
      have h2 : (len + (m - len)) * 80 ≤ reachBytes := by simpa using this
      rwa [e] at h2
    have hwd : ∀ i, i < len → ((D i).weights Tryz.prog 74).all (· ≤ reachBytes) = true := fun i hi => by
      rw [List.all_eq_true] at hw ⊢
      intro y hy
      refine hw y ?_
      simp only [DataW.weights, Tryz.underlying23, List.mem_cons, List.mem_append]
      exact .inr (.inl (weightsAll_mem (List.mem_map.2 ⟨i, List.mem_range.2 hi, rfl⟩) y hy))
    have hz : ∀ i, i < len → ∃ o : OpD × List (List UInt8 × Bool), ((-9223372036854775808 ≤ o.1.a ∧ o.1.a ≤ 9223372036854775807) ∧ OpP w o.1 o.2) ∧ ∀ j, j < 7 → w.cell? ((a.add (i * 7)).add j) = o.1.arr[j]? := fun i hi => by
      obtain ⟨cs', h1, h2⟩ := hx i (by omega)
      obtain ⟨_, hlen, hc⟩ := World.cells?_some h1
      obtain ⟨o, ps, rfl, ha1, ha2⟩ := op_of3 h2 (hwd i hi)
      exact ⟨(o, ps), ⟨ha1, ha2⟩, fun j hj => (hc j hj).trans (by simp)⟩
    have ih : Inhabited (OpD × List (List UInt8 × Bool)) := ⟨(op0, [])⟩
    obtain ⟨g, hg⟩ := choose_lt hz
    refine ⟨some a, len, m, fun k => (g k).1, fun k => (g k).2, rfl, ⟨fun k hk => ?_, fun k hk => (hg k hk).1.1⟩, by have : reachBytes = 140737488351232 := rfl; omega, fun k hk => (hg k hk).1.2⟩
    obtain ⟨b, off, rfl, hlt⟩ := spot_none (w := w) (a := a) (v := .int .i64 (g 0).1.kind) (by
      have := (hg 0 (by omega)).2 0 (by omega)
      rw [Nat.zero_mul, add_add] at this
      exact this)
    refine ⟨b, off, rfl, hlt, fun k j hk hj => ?_⟩
    have := (hg k hk).2 j hj
    rw [add_add, addr_add] at this
    rw [← this, Nat.add_assoc]
end
end Go.Proofs.YtllcbnfmihfaaaaGreatDoor
namespace Go.Proofs.YtllcbnfmihfaaaaGreatDoor
open Go.ChangeShapes Go.WideShapes Go.ChangeAt Go.RowKit Go.Lib

set_option maxRecDepth 100000 in
theorem labels_contract (H : Type) (enc : TypeId × Value → H) (W : World) (args : Array Value) (ds gs : List (DataW H)) (before : List MemPlace) (base : Nat)
    (hval : ∀ (j : Nat) t v, Tryz.f10.params[j]? = some t → args[j]? = some v → Value.okWide Tryz.prog W .any base t v)
    (hW : DataW.Whole enc Tryz.prog Tryz.f10.params.toList Rows.labelsSpec.vars false W args.toList ds gs before)
    (hwt : (DataW.weightsEach Tryz.prog (Tryz.f10.params.toList ++ []) (ds ++ gs)).all (· ≤ reachBytes) = true)
    (hL : laidMetH Tryz.prog Rows.labelsRow.laid W) (hS : W.ShapedOpen Tryz.prog) :
    Calls Tryz.prog 10 args W fun e W' => ∃ v, e = .returned v ∧ Rows.labelsSpec.post enc Tryz.prog Tryz.f10 false true false false W args v W' := by
  have hW' := hW
  obtain ⟨p, q, hA0, hV, rfl, hfz, hnd⟩ := hW
  have hA : DataW.TrodAll enc Tryz.prog W 0 (fun _ => true) true Tryz.f10.params.toList args.toList ds p := hA0
  rw [Tryz.params10] at hA hwt hval
  obtain ⟨v0, v1, d0, d1, p0, p1, rfl, rfl, rfl, h0, h1⟩ := trodAll_two hA
  obtain ⟨rfl, rfl⟩ := trodVars_none hV
  obtain ⟨a0, l0, c0, rfl⟩ := okWide_slice Tryz.underlying22 (hval 0 22 v0 rfl rfl)
  obtain ⟨a1, l1, c1, rfl⟩ := okWide_slice Tryz.underlying23 (hval 1 23 v1 rfl rfl)
  obtain ⟨n0, h0'⟩ := h0
  obtain ⟨n1, h1'⟩ := h1
  obtain ⟨hw0, hw1⟩ := weights2 hwt
  obtain ⟨ca, cn, ccap, g, ev0, hC, hcn⟩ := cfgs_of (v := .slice a0 l0 c0) (x := (d0, p0)) h0' hw0
  cases ev0
  obtain ⟨sa, sn, scap, h, pf, ev1, hO, hsn, hF⟩ := ops_of3 (v := .slice a1 l1 c1) (x := (d1, p1)) h1' hw1
  cases ev1
  refine (labels_any _ _ _ g hcn _ _ _ h hsn W hC hO (glob_of hL hS) pf hF).mono ?_
  rintro e W' ⟨rfl, hB⟩
  have hlt : ∀ x ∈ p0 ++ p1 ++ [], x.block < W.heap.size := fun x hx => hW'.lt x hx
  refine ⟨_, rfl, [d0, d1], [], p0 ++ p1 ++ [], [], p0 ++ p1, [], hW', trodAll_mk1 (shut_bool Tryz.underlying4 true), ?_, rfl, hB.frame _, fun h => by cases h⟩
  exact trodAll_mk2 (Below.trod Tryz.laidOut (by kernel_rfl) (of_decide_eq_true (by kernel_rfl)) ⟨n0, h0'⟩ hB (fun x hx => hlt x (by simp [hx]))) (Below.trod Tryz.laidOut (by kernel_rfl) (of_decide_eq_true (by kernel_rfl)) ⟨n1, h1'⟩ hB (fun x hx => hlt x (by simp [hx])))
theorem labels_reads (os : Os) {H : Type} (enc : TypeId × Value → H) : ∃ places, DataW.whole enc Tryz.prog ((laidW (World.holding Tryz.prog os ⟨#[], #[], []⟩)).forCall (fun _ _ => 0) ⟨#[], #[.slice none 0 0, .slice none 0 0], []⟩).memory Tryz.f10.params.toList Rows.labelsSpec.vars false #[Value.slice none 0 0, Value.slice none 0 0].toList 8 = some ([.nil, .nil], [], places) :=
  ⟨[], by kernel_rfl⟩

set_option maxRecDepth 100000 in
theorem labels_lifted (os : Os) (started : os.Started) (H : Type) (enc : TypeId × Value → H) (F : Stop.Interp) :
    ReturnsInHanded {} Tryz.checked os 10 .any ((OpenSpec.ofChange Rows.labelsSpec).preRow enc Tryz.prog Tryz.f10 Rows.labelsRow.domain false Rows.labelsRow.laid) (((OpenSpec.ofChange Rows.labelsSpec).at F).post enc Tryz.prog Tryz.f10 false true false false) := by
  obtain ⟨places, hx⟩ := labels_reads os enc
  refine returnsInHanded_of_row (C := Tryz.checked) (s := OpenSpec.ofChange Rows.labelsSpec) Tryz.own started (by kernel_rfl) Tryz.func10
    (witness_row_at (enc := enc) (C := Tryz.checked) false (laidW (World.holding Tryz.prog os ⟨#[], #[], []⟩)) #[.slice none 0 0, .slice none 0 0] rfl (by kernel_rfl) (by kernel_rfl) (by kernel_rfl)
      (OpenSpec.preRow_of_cond 8 hx (by kernel_rfl) (fun k hk => by cases hk) (by kernel_rfl) (laid_met os))) ?_
  intro W base args ds gs before hval hW _ _ hwt hL hS _
  exact labels_contract H enc W args ds gs before base hval hW hwt hL hS
end Go.Proofs.YtllcbnfmihfaaaaGreatDoor
namespace Go.Proofs.YtllcbnfmihfaaaaGreatDoor
open Go.ChangeShapes Go.WideShapes Go.ChangeAt Go.RowKit Go.Lib

theorem labels_k1 : (Rows.labelsRow.inPlace == Tryz.pinned.checked.prog.inPlace 10) = true := by kernel_rfl
theorem labels_k2 : (Rows.labelsRow.unfollowed == Tryz.pinned.checked.prog.unfollowed 10) = true := by kernel_rfl
theorem labels_k3 : (Rows.labelsRow.recurses == Tryz.pinned.checked.prog.recurses 10) = true := by kernel_rfl
theorem labels_k4 : (Rows.labelsRow.named == Tryz.pinned.checked.prog.varsNamed 10) = true := by kernel_rfl
theorem labels_facts : joinedFacts Tryz.pinned.checked.prog 10 Tryz.f10 (OpenSpec.ofChange Rows.labelsSpec).bare Rows.labelsRow = true := by
  unfold joinedFacts
  rw [labels_k1, labels_k2, labels_k3, labels_k4]
  kernel_rfl
theorem labels_said : Rows.LabelsSaid :=
  OpenClaim.holds_of_cond 10 Tryz.f10 rfl rfl rfl rfl rfl rfl rfl ⟨rfl, rfl, rfl, rfl, rfl⟩ rfl rfl rfl rfl rfl (by kernel_rfl) Tryz.func10 labels_facts
    (of_decide_eq_true (by kernel_rfl)) (by unfold Func.isWrapper; first | (rw [if_pos (by decide +kernel)]; kernel_rfl) | (rw [if_neg (by decide +kernel)]; exact ⟨rfl, rfl⟩))
    (fun os started H enc _ F => by rw [OpenClaim.pre_eq_preRow]; exact labels_lifted os started H enc F)

theorem labels_plain (f : FuncId) (fn : Func) (hf : Tryz.pinned.checked.prog.funcNamed Rows.labelsRow.func = some f) (hfn : Tryz.pinned.checked.prog.funcs[f]? = some fn) :
    true = Tryz.pinned.checked.prog.looks [] ∧ ∀ (j : Nat) t, fn.params[j]? = some t → Tryz.pinned.checked.prog.wantsStandIn t = false := by
  obtain rfl : f = 10 := Option.some.inj ((show Tryz.prog.funcNamed Rows.labelsRow.func = some 10 by kernel_rfl).symm.trans hf) |>.symm
  obtain rfl : fn = Tryz.f10 := (Option.some.inj (Tryz.func10.symm.trans hfn)).symm
  refine ⟨by kernel_rfl, fun j t ht => ?_⟩
  rw [Tryz.params10] at ht
  have hm : t ∈ #[(22 : TypeId), 23] := Array.mem_of_getElem? ht
  rcases (by simpa using hm : t = 22 ∨ t = 23) with rfl | rfl
  · exact (show Tryz.prog.wantsStandIn 22 = false by kernel_rfl)
  · exact (show Tryz.prog.wantsStandIn 23 = false by kernel_rfl)

theorem labels_card : Rows.LabelsCardSaid :=
  Claim7.holds_tied_plain_at .later [] _ _ _ _ labels_said (fun _ h => by cases h) (by kernel_rfl) (fun _ h => by cases h) labels_row_tie rfl ⟨rfl, rfl⟩ (by kernel_rfl) rfl labels_plain (by kernel_rfl)
#print axioms labels_card
end Go.Proofs.YtllcbnfmihfaaaaGreatDoor
