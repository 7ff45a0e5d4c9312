import Derived.ProofKit
import Derived.OpenShut
import Derived.Deep.Slices
import Derived.SizedLaws
import Derived.Test.YtllcbnfmihfaaaaGreatDoorShelf
import Derived.Lib.LaidU8T
import Derived.PinnedBridge
import Derived.Test.YtllcbnfmihfaaaaGreatDoorLq19
namespace Go.Proofs.YtllcbnfmihfaaaaGreatDoor
open Go.RowKit

/-- The steps of a script, in memory: the k-th is h k. -/
structure OpsAt (w : World) (a : Option Addr) (n : Nat) (h : Nat → OpD) : Prop where
  at_ : ∀ k, k < n → ∃ b off, a = some ⟨b, off, none⟩ ∧ b < w.heap.size ∧ ∀ k j, k < n → j < 7 → w.cell? ⟨b, off + k * 7 + j, none⟩ = (h k).arr[j]?
  a1 : ∀ k, k < n → -9223372036854775808 ≤ (h k).a ∧ (h k).a ≤ 9223372036854775807
theorem OpsAt.below {w w' : World} {a : Option Addr} {n : Nat} {g : Nat → OpD} (h : OpsAt w a n g) (hb : Below w.heap.size w w') : OpsAt w' a n g :=
  ⟨fun k hk => by
    obtain ⟨b, off, ha, hlt, h1⟩ := h.at_ k hk
    exact ⟨b, off, ha, Nat.lt_of_lt_of_le hlt hb.size, fun k j hk hj => (hb.cell (p := ⟨b, _, none⟩) hlt).trans (h1 k j hk hj)⟩, h.a1⟩

theorem step_c (B : Nat) (o : OpD) (kind : Int) (hk : o.kind = kind) (h12 : kind = 1 ∨ kind = 2) (hsay : AskSays kind) (a : Option Addr) (n cap : Nat) (g : Nat → Cfg) (hn : n ≤ maxLen) (ha : -9223372036854775808 ≤ o.a ∧ o.a ≤ 9223372036854775807)
    (w : World) (hcs : w.cell? ⟨B, 0, none⟩ = some (.slice a n cap)) (hC : CfgsAt w a n g) (hg : Glob w) :
    Calls Tryz.prog 35 #[.pointer (some ⟨B, 0, none⟩), .agg o.arr] w fun e w' => e = .returned (.bool true) ∧ Below w.heap.size w w' := by
  rcases Nat.eq_zero_or_pos n with h0 | h0
  · subst h0
    exact step_none B o kind hk h12 a cap w hcs
  · exact step_some B o kind hk h12 hsay a n cap g h0 hn ha w hcs hC hg

/-- What a round of 'plays' stands on. -/
structure PlayAt (w W : World) (cs : Value) : Prop where
  below : Below w.heap.size w W
  own : W.heap[w.heap.size]? = some (.cells #[cs, .slice none 0 0, .slice none 0 0] 71)
theorem PlayAt.step {w W W' : World} {cs : Value} (h : PlayAt w W cs) (hb : Below W.heap.size W W') : PlayAt w W' cs :=
  ⟨h.below.trans (hb.mono h.below.size), (hb.block _ (Array.getElem?_eq_some_iff.1 h.own).1).trans h.own⟩

set_option maxRecDepth 100000 in
set_option maxHeartbeats 4000000 in
theorem plays_any (kind : Int) (h12 : kind = 1 ∨ kind = 2) (hsay : AskSays kind) (ca : Option Addr) (cn ccap : Nat) (g : Nat → Cfg) (hcn : cn ≤ maxLen) (sa : Option Addr) (sn scap : Nat) (h : Nat → OpD) (hsn : sn < 144115188075855872) (pa : Option Addr) (pcap : Nat)
    (w : World) (hC : CfgsAt w ca cn g) (hO : OpsAt w sa sn h) (hP : IntsAt w pa [kind]) (hg : Glob w) :
    Calls Tryz.prog 15 #[.slice ca cn ccap, .slice sa sn scap, .slice pa 1 pcap] w fun e w' => e = .returned (.bool true) ∧ Below w.heap.size w w' := by
  have HS : Hid (AskSays kind) := hsay
  have HC : Hid (CfgsAt w ca cn g) := hC
  have HO : Hid (OpsAt w sa sn h) := hO
  have HP : Hid (IntsAt w pa [kind]) := hP
  have HG : Hid (Glob w) := hg
  have H12 : Hid (kind = 1 ∨ kind = 2) := h12
  clear hsay hC hO hP hg h12
  have HT : Hid (PlayAt w (w.alloc (.cells #[.slice ca cn ccap, .slice none 0 0, .slice none 0 0] 71)) (.slice ca cn ccap)) := ⟨(Below.refl _ _).alloc (Nat.le_refl _) _, heap_new _ _⟩
  go_enter Tryz.func15, Tryz.ntmps15
  go_wp2
  generalize w.alloc (.cells #[.slice ca cn ccap, .slice none 0 0, .slice none 0 0] 71) = W0 at *
  go_loopg [8, 9, 10, 11, 12] sn (fun gh x1 x2 x3 x4 x5 wr => ∃ k : Nat, Hid (k + gh = sn) ∧ x1 = .int .i64 k ∧ Hid (PlayAt w wr (.slice ca cn ccap)))
  case atStart => exact ⟨0, by show _ = _; omega, rfl, HT⟩
  case round =>
    clear HT
    obtain ⟨k, hk, rfl, HX⟩ := hrel
    cases gk with
    | zero =>
      have hlt : ¬ (k : Int) < sn := by have := hk.out; omega
      have hl2 := cellOfHeap HX.out.own 2
      have cA := apart_none w.heap.size wr hl2
      clear hl2
      go_wp2_with (first | (go_at_call 37; refine cA.mono ?_; rintro e w2 ⟨rfl, rfl⟩))
      go_ret
      exact ⟨rfl, HX.out.below⟩
    | succ gh =>
      have hlt : (k : Int) < sn := by have := hk.out; omega
      have hlt2 : (k : Int) < 144115188075855872 := by omega
      obtain ⟨b, off, rfl, hbl, hcc⟩ := (HO.out.below HX.out.below).at_ k (by omega)
      have hao := HO.out.a1 k (by omega)
      have k0 : wr.cell? ⟨b, off + k * 7, none⟩ = some (.int .i64 (h k).kind) := hcc k 0 (by omega) (by omega)
      have k1 : wr.cell? ⟨b, off + k * 7 + 1, none⟩ = some (.int .i64 (h k).a) := hcc k 1 (by omega) (by omega)
      have k2 : wr.cell? ⟨b, off + k * 7 + 2, none⟩ = some (.int .i64 (h k).b) := hcc k 2 (by omega) (by omega)
      have k3 : wr.cell? ⟨b, off + k * 7 + 3, none⟩ = some (.int .i64 (h k).c) := hcc k 3 (by omega) (by omega)
      have k4 : wr.cell? ⟨b, off + k * 7 + 4, none⟩ = some (.int .i64 (h k).d) := hcc k 4 (by omega) (by omega)
      have k5 : wr.cell? ⟨b, off + k * 7 + 5, none⟩ = some (.string (h k).s) := hcc k 5 (by omega) (by omega)
      have k6 : wr.cell? ⟨b, off + k * 7 + 6, none⟩ = some (.slice (h k).pp (h k).pl (h k).pc) := hcc k 6 (by omega) (by omega)
      clear hcc
      generalize h k = o at *
      have HAO : Hid (-9223372036854775808 ≤ o.a ∧ o.a ≤ 9223372036854775807) := hao
      clear hao
      have hB1 : Below wr.heap.size wr (wr.alloc (.cells o.arr 74)) := (Below.refl _ _).alloc (Nat.le_refl _) _
      have HX1 : Hid (PlayAt w (wr.alloc (.cells o.arr 74)) (.slice ca cn ccap)) := HX.out.step hB1
      have cM := among_any pa pcap [kind] o.kind (by simp [maxLen]) (wr.alloc (.cells o.arr 74)) (HP.out.below HX1.out.below)
      have HN : Hid ((wr.alloc (.cells o.arr 74)).heap[wr.heap.size]? = some (.cells o.arr 74)) := heap_new _ _
      have HIO : Hid ((Tryz.prog.info? 74).map (·.size) = some o.arr.size) := by show _ = _; rw [show o.arr.size = 7 from rfl]; kernel_rfl
      clear hB1
      have hcs := cellOfHeap HX1.out.own 0
      by_cases hkk : o.kind = kind
      · have HKK : Hid (o.kind = kind) := hkk
        have HCS : Hid ((wr.alloc (.cells o.arr 74)).cell? ⟨w.heap.size, 0, none⟩ = some (.slice ca cn ccap)) := hcs
        have hM : amongB [kind] o.kind = true := by simp [amongB, hkk]
        rw [hM] at cM
        clear hM hkk hcs
        go_wp2_with (first
          | (go_at_call 34; refine cM.mono ?_; clear cM; rintro e w2 ⟨rfl, rfl⟩; clear k0 k1 k2 k3 k4 k5 k6 hlt2)
          | (refine wpList_load_row rfl 74 _ rfl _ rfl _ _ _ _ HN.out Tryz.underlying74 rfl HIO.out ?_)
          | fail)
        show Calls Tryz.prog 35 #[.pointer (some ⟨w.heap.size, 0, none⟩), .agg o.arr] (wr.alloc (.cells o.arr 74)) _
        refine (step_c w.heap.size o kind HKK.out H12.out HS.out ca cn ccap g hcn HAO.out (wr.alloc (.cells o.arr 74)) HCS.out (HC.out.below HX1.out.below) (HG.out.below HX1.out.below)).mono ?_
        rintro e w3 ⟨rfl, hB3⟩
        have HX3 : Hid (PlayAt w w3 (.slice ca cn ccap)) := HX1.out.step hB3
        have cL := looks_none w.heap.size w3 (cellOfHeap HX3.out.own 2)
        clear hB3
        go_wp2_with (first
          | (go_at_call 36; refine cL.mono ?_; clear cL; rintro e w4 ⟨rfl, rfl⟩))
        go_roundg gh
        case measure => omega
        case rel => exact ⟨k + 1, by show _ = _; have := hk.out; omega, by go_num, HX3⟩
      · have hM : amongB [kind] o.kind = false := by simp [amongB]; intro e; exact hkk e.symm
        rw [hM] at cM
        clear hM hkk hcs
        go_wp2_with (first
          | (go_at_call 34; refine cM.mono ?_; clear cM; rintro e w2 ⟨rfl, rfl⟩))
        go_roundg gh
        case measure => omega
        case rel => exact ⟨k + 1, by show _ = _; have := hk.out; omega, by go_num, HX1⟩

set_option maxRecDepth 100000 in
set_option maxHeartbeats 1000000 in
theorem checks_any (hsay : AskSays 1) (ca : Option Addr) (cn ccap : Nat) (g : Nat → Cfg) (hcn : cn ≤ maxLen) (sa : Option Addr) (sn scap : Nat) (h : Nat → OpD) (hsn : sn < 144115188075855872) (w : World) (hC : CfgsAt w ca cn g) (hO : OpsAt w sa sn h) (hg : Glob w) :
    Calls Tryz.prog 3 #[.slice ca cn ccap, .slice sa sn scap] w fun e w' => e = .returned (.bool true) ∧ Below w.heap.size w w' := by
  have hb : Below w.heap.size w (w.alloc (.cells #[.int .i64 1] 3)) := (Below.refl _ _).alloc (Nat.le_refl _) _
  have hP : IntsAt (w.alloc (.cells #[.int .i64 1] 3)) (some ⟨w.heap.size, 0, none⟩) [1] := ⟨fun i hi => ⟨w.heap.size, 0, rfl, by simp, fun j hj => by
    have : j = 0 := by simpa using hj
    subst this
    exact cellOfHeap (heap_new _ _) 0⟩⟩
  have cP := plays_any 1 (.inl rfl) hsay ca cn ccap g hcn sa sn scap h hsn (some ⟨w.heap.size, 0, none⟩) 1 _ (hC.below hb) (hO.below hb) hP (hg.below hb)
  have HB : Hid (Below w.heap.size w (w.alloc (.cells #[.int .i64 1] 3))) := hb
  clear hb hP hC hO hg hsay
  go_enter Tryz.func3, Tryz.ntmps3
  go_wp2_with (first | (go_at_call 15; refine cP.mono ?_; clear cP; rintro e w2 ⟨rfl, hB2⟩))
  go_ret
  exact ⟨rfl, HB.out.trans (hB2.mono (by simp))⟩
set_option maxRecDepth 100000 in
set_option maxHeartbeats 1000000 in
theorem orders_any (hsay : AskSays 2) (ca : Option Addr) (cn ccap : Nat) (g : Nat → Cfg) (hcn : cn ≤ maxLen) (sa : Option Addr) (sn scap : Nat) (h : Nat → OpD) (hsn : sn < 144115188075855872) (w : World) (hC : CfgsAt w ca cn g) (hO : OpsAt w sa sn h) (hg : Glob w) :
    Calls Tryz.prog 4 #[.slice ca cn ccap, .slice sa sn scap] w fun e w' => e = .returned (.bool true) ∧ Below w.heap.size w w' := by
  have hb : Below w.heap.size w (w.alloc (.cells #[.int .i64 2] 3)) := (Below.refl _ _).alloc (Nat.le_refl _) _
  have hP : IntsAt (w.alloc (.cells #[.int .i64 2] 3)) (some ⟨w.heap.size, 0, none⟩) [2] := ⟨fun i hi => ⟨w.heap.size, 0, rfl, by simp, fun j hj => by
    have : j = 0 := by simpa using hj
    subst this
    exact cellOfHeap (heap_new _ _) 0⟩⟩
  have cP := plays_any 2 (.inr rfl) hsay ca cn ccap g hcn sa sn scap h hsn (some ⟨w.heap.size, 0, none⟩) 1 _ (hC.below hb) (hO.below hb) hP (hg.below hb)
  have HB : Hid (Below w.heap.size w (w.alloc (.cells #[.int .i64 2] 3))) := hb
  clear hb hP hC hO hg hsay
  go_enter Tryz.func4, Tryz.ntmps4
  go_wp2_with (first | (go_at_call 15; refine cP.mono ?_; clear cP; rintro e w2 ⟨rfl, hB2⟩))
  go_ret
  exact ⟨rfl, HB.out.trans (hB2.mono (by simp))⟩
end Go.Proofs.YtllcbnfmihfaaaaGreatDoor
namespace Go.Proofs.YtllcbnfmihfaaaaGreatDoor
open Go.RowKit Go.Deep

theorem cells3 : Tryz.prog.cellsOf 3 = 1 := by kernel_rfl
theorem cellsStr : Tryz.prog.cellsOf 9 = 1 := by kernel_rfl
theorem cellsEs : Tryz.prog.cellsOf 43 = 1 := by kernel_rfl
theorem cellsIs : Tryz.prog.cellsOf 25 = 1 := by kernel_rfl
theorem cellsPs : Tryz.prog.cellsOf 72 = 1 := by kernel_rfl
theorem cellsCfg : Tryz.prog.cellsOf 45 = 11 := by kernel_rfl
theorem cellsOp : Tryz.prog.cellsOf 74 = 7 := by kernel_rfl
theorem cellsEdge : Tryz.prog.cellsOf 101 = 2 := by kernel_rfl
theorem bytesEdge : Tryz.prog.bytesOf 101 = 16 := by kernel_rfl
theorem bytesInt : Tryz.prog.bytesOf 3 = 8 := by kernel_rfl
theorem bytesOp : Tryz.prog.bytesOf 74 = 80 := by kernel_rfl

theorem spot_none {w : World} {a : Addr} {v : Value} (h : w.cell? (a.add 0) = some v) : ∃ b off, a = ⟨b, off, none⟩ ∧ b < w.heap.size := by
  obtain ⟨b, off, spot⟩ := a
  have hspot : spot = none := by simpa [Addr.add] using World.cell?_spot h
  subst hspot
  rw [addr_add] at h
  exact ⟨b, off, rfl, block_lt_of_cell h⟩

theorem list2 {α : Type} {l : List α} (h : l.length = 2) : ∃ a b, l = [a, b] := by
  match l, h with
  | [a, b], _ => exact ⟨a, b, rfl⟩

section
variable {H : Type} {enc : TypeId × Value → H} {w : World}

/-- A slice of ints: its value; its list. -/
theorem ints_of {fuel : Nat} {v : Value} {x : DataW H × List MemPlace} (h : DataW.trod enc Tryz.prog w 0 (fun _ => true) true fuel 25 [v] = some x) (hw : (x.1.weights Tryz.prog 25).all (· ≤ reachBytes) = true) :
    ∃ (a : Option Addr) (cap : Nat) (B : List Int), v = .slice a B.length cap ∧ IntsAt w a B ∧ (a = none → B.length = 0 ∧ cap = 0) ∧ (B.length + 8) * 8 ≤ 281474976710656 := by
  rcases open_slice1 Tryz.underlying25 cells3 h with ⟨hv, _⟩ | ⟨a, len, cap, m, n, V, D, Pl, hv, _, hl, hm, hmm, rfl, hx⟩
  · cases hv
    exact ⟨none, 0, [], rfl, ⟨fun i hi => by simp at hi⟩, fun _ => ⟨rfl, rfl⟩, by decide⟩
  · cases hv
    have hmc : m = cap := by rw [hmm]; rfl
    subst hmc
    have hb : m * 8 ≤ reachBytes := by
      rw [List.all_eq_true] at hw
      have := hw (((List.range len).map D).length + ((List.range (m - len)).map fun j => D (len + j)).length |>.mul (Tryz.prog.bytesOf 3)) (by
        simp only [DataW.weights, Tryz.underlying25]
        exact List.mem_cons_self ..)
      rw [bytesInt] at this
      simp at this
      have e : len + (m - len) = m := by omega
      have h2 : (len + (m - len)) * 8 ≤ reachBytes := by simpa using this
      rwa [e] at h2
    have hz : ∀ i, i < m → ∃ z : Int, V i = .int .i64 z := fun i hi => by
      obtain ⟨z, hz, _⟩ := DataW.trod_int Tryz.underlying3 (hx i hi).2
      exact ⟨z, by simpa using hz⟩
    obtain ⟨Z, hZ⟩ := choose_lt hz
    refine ⟨some a, m, (List.range len).map Z, by simp, ⟨fun i hi => ?_⟩, fun hn => (by cases hn), ?_⟩
    · have hi' : i < len := by simpa using hi
      obtain ⟨b, off, rfl, hlt⟩ := spot_none (hx 0 (by omega)).1
      refine ⟨b, off, rfl, hlt, fun j hj => ?_⟩
      have hj' : j < len := by simpa using hj
      have := (hx j (by omega)).1
      rw [addr_add] at this
      rw [this, hZ j (by omega)]
      simp
    · have : reachBytes = 140737488351232 := rfl
      simp
      omega

/-- A field of one cell. -/
theorem fld1 {n : Nat} {cs : List Value} {xs : List (DataW H × List MemPlace)} {fs : Array Field}
    (hf : ∀ (i : Nat) (f : Field), fs[i]? = some f → DataW.trod enc Tryz.prog w 0 (fun _ => true) true n f.type ((cs.drop f.offset).take (Tryz.prog.cellsOf f.type)) = xs[i]?)
    (i : Nat) {f : Field} (h : fs[i]? = some f) (t : TypeId) (o : Nat) (ht : f.type = t) (ho : f.offset = o) (hc : Tryz.prog.cellsOf t = 1) {v : Value} (hv : cs[o]? = some v) {y : DataW H × List MemPlace} (hy : xs[i]? = some y) :
    DataW.trod enc Tryz.prog w 0 (fun _ => true) true n t [v] = some y := by
  subst ht ho
  have g := hf i f h
  rw [hc, hy] at g
  have e : (cs.drop f.offset).take 1 = [v] := by
    rw [List.getElem?_eq_some_iff] at hv
    obtain ⟨hl, rfl⟩ := hv
    rw [List.drop_eq_getElem_cons hl]
    rfl
  rwa [e] at g

/-- A slice of edges. -/
theorem edges_of {fuel : Nat} {v : Value} {x : DataW H × List MemPlace} (h : DataW.trod enc Tryz.prog w 0 (fun _ => true) true fuel 43 [v] = some x) (hw : (x.1.weights Tryz.prog 43).all (· ≤ reachBytes) = true) :
    ∃ (a : Option Addr) (cap : Nat) (L : List (Int × Int)), v = .slice a L.length cap ∧ EdgesAt w a L ∧ (a = none → L.length = 0 ∧ cap = 0) ∧ (L.length + 8) * 16 ≤ 281474976710656 := by
  rcases open_slice Tryz.underlying43 h with ⟨hv, _⟩ | ⟨a, len, cap, m, n, D, Pl, hv, _, hl, hm, hmm, rfl, hx⟩
  · cases hv
    exact ⟨none, 0, [], rfl, ⟨fun i hi => by simp at hi⟩, fun _ => ⟨rfl, rfl⟩, by decide⟩
  · cases hv
    have hmc : m = cap := by rw [hmm]; rfl
    subst hmc
    have hb : m * 16 ≤ reachBytes := by
      rw [List.all_eq_true] at hw
      have := hw (((List.range len).map D).length + ((List.range (m - len)).map fun j => D (len + j)).length |>.mul (Tryz.prog.bytesOf 101)) (by
        simp only [DataW.weights, Tryz.underlying43]
        exact List.mem_cons_self ..)
      rw [bytesEdge] at this
      simp at this
      have e : len + (m - len) = m := by omega
      have h2 : (len + (m - len)) * 16 ≤ reachBytes := by simpa using this
      rwa [e] at h2
    have hz : ∀ i, i < m → ∃ z : Int × Int, w.cell? (a.add (i * 2)) = some (.int .i64 z.1) ∧ w.cell? ((a.add (i * 2)).add 1) = some (.int .i64 z.2) := fun i hi => by
      obtain ⟨cs', h1, h2⟩ := hx i hi
      rw [cellsEdge] at h1
      obtain ⟨_, hlen, hc⟩ := World.cells?_some h1
      obtain ⟨xs, n', _, _, _, hxl, hf⟩ := DataW.trod_struct Tryz.underlying101 h2
      obtain ⟨c0, c1, rfl⟩ : ∃ c0 c1, cs' = [c0, c1] := by
        exact list2 hlen
      obtain ⟨y0, y1, rfl⟩ : ∃ y0 y1, xs = [y0, y1] := by
        clear h2 hf
        have hxl' : xs.length = 2 := hxl
        exact list2 hxl' 
      · have t0 := fld1 hf 0 rfl 3 0 rfl rfl cells3 rfl rfl
        have t1 := fld1 hf 1 rfl 3 1 rfl rfl cells3 rfl rfl
        obtain ⟨z0, e0, _⟩ := DataW.trod_int Tryz.underlying3 t0
        obtain ⟨z1, e1, _⟩ := DataW.trod_int Tryz.underlying3 t1
        simp at e0 e1
        subst e0 e1
        refine ⟨(z0, z1), ?_, ?_⟩
        · have := hc 0 (by omega)
          rw [add_add, Nat.add_zero] at this
          exact this
        · exact hc 1 (by omega)
    obtain ⟨Z, hZ⟩ := choose_lt hz
    refine ⟨some a, m, (List.range len).map Z, by simp, ⟨fun i hi => ?_⟩, fun hn => (by cases hn), ?_⟩
    · have hi' : i < len := by simpa using hi
      obtain ⟨b, off, rfl, hlt⟩ := spot_none (by have := (hZ 0 (by omega)).1; rwa [Nat.zero_mul] at this)
      have g := hZ i (by omega)
      rw [add_add, addr_add, addr_add] at g
      refine ⟨b, off, rfl, hlt, ?_, ?_⟩
      · rw [g.1]; simp
      · rw [Nat.add_assoc, g.2]; simp
    · have : reachBytes = 140737488351232 := rfl
      simp
      omega

/-- Any slice, as a value. -/
theorem slice_of {t e : TypeId} (ht : Tryz.prog.underlying t = some (.slice e)) {fuel : Nat} {v : Value} {x : DataW H × List MemPlace} (h : DataW.trod enc Tryz.prog w 0 (fun _ => true) true fuel t [v] = some x) : ∃ (a : Option Addr) (n cap : Nat), v = .slice a n cap := by
  rcases open_slice ht h with ⟨hv, _⟩ | ⟨a, len, cap, m, n, D, Pl, hv, _⟩
  · cases hv; exact ⟨none, 0, 0, rfl⟩
  · cases hv; exact ⟨some a, len, cap, rfl⟩

set_option maxRecDepth 50000 in
/-- A configuration's cells. -/
theorem cfg_of {fuel : Nat} {cs : List Value} {x : DataW H × List MemPlace} (h : DataW.trod enc Tryz.prog w 0 (fun _ => true) true fuel 45 cs = some x) (hw : (x.1.weights Tryz.prog 45).all (· ≤ reachBytes) = true) :
    ∃ c : Cfg, cs = c.arr.toList ∧ CfgW w c := by
  obtain ⟨xs, n, _, rfl, hl, hlen, hf⟩ := DataW.trod_struct Tryz.underlying45 h
  rw [cellsCfg] at hl
  match cs, hl, xs, hlen with
  | [v0, v1, v2, v3, v4, v5, v6, v7, v8, v9, v10], _, [y0, y1, y2, y3, y4, y5, y6, y7, y8, y9, y10], _ =>
    simp only [DataW.weights, Tryz.underlying45, List.map_cons, List.map_nil, DataW.weightsEach, List.all_append, Bool.and_eq_true] at hw
    have g0 := fld1 hf 0 rfl 3 0 rfl rfl cells3 rfl rfl
    have g1 := fld1 hf 1 rfl 43 1 rfl rfl cellsEs rfl rfl
    have g2 := fld1 hf 2 rfl 3 2 rfl rfl cells3 rfl rfl
    have g3 := fld1 hf 3 rfl 9 3 rfl rfl cellsStr rfl rfl
    have g4 := fld1 hf 4 rfl 3 4 rfl rfl cells3 rfl rfl
    have g5 := fld1 hf 5 rfl 3 5 rfl rfl cells3 rfl rfl
    have g6 := fld1 hf 6 rfl 3 6 rfl rfl cells3 rfl rfl
    have g7 := fld1 hf 7 rfl 3 7 rfl rfl cells3 rfl rfl
    have g8 := fld1 hf 8 rfl 3 8 rfl rfl cells3 rfl rfl
    have g9 := fld1 hf 9 rfl 3 9 rfl rfl cells3 rfl rfl
    have g10 := fld1 hf 10 rfl 25 10 rfl rfl cellsIs rfl rfl
    obtain ⟨z0, e0, _⟩ := DataW.trod_int Tryz.underlying3 g0
    obtain ⟨z2, e2, _⟩ := DataW.trod_int Tryz.underlying3 g2
    obtain ⟨s3, e3, _⟩ := DataW.trod_string Tryz.underlying9 g3
    obtain ⟨z4, e4, _⟩ := DataW.trod_int Tryz.underlying3 g4
    obtain ⟨z5, e5, _⟩ := DataW.trod_int Tryz.underlying3 g5
    obtain ⟨z6, e6, _⟩ := DataW.trod_int Tryz.underlying3 g6
    obtain ⟨z7, e7, _⟩ := DataW.trod_int Tryz.underlying3 g7
    obtain ⟨z8, e8, _⟩ := DataW.trod_int Tryz.underlying3 g8
    obtain ⟨z9, e9, _⟩ := DataW.trod_int Tryz.underlying3 g9
    obtain ⟨ea, ecap, L, e1, hE, hEn, hEb⟩ := edges_of (v := v1) (by simpa using g1) hw.2.1
    obtain ⟨ba, bcap, B, e10, hI, hIn, hIb⟩ := ints_of (v := v10) (by simpa using g10) hw.2.2.2.2.2.2.2.2.2.2.1
    simp at e0 e2 e3 e4 e5 e6 e7 e8 e9
    subst e0 e2 e3 e4 e5 e6 e7 e8 e9 e1 e10
    exact ⟨⟨z0, L, ea, ecap, z2, s3, z4, z5, z6, z7, z8, z9, B, ba, bcap⟩, rfl, hE, hI, hEn, hIn, hEb, hIb⟩

set_option maxRecDepth 50000 in
/-- A step's cells. -/
theorem op_of {fuel : Nat} {cs : List Value} {x : DataW H × List MemPlace} (h : DataW.trod enc Tryz.prog w 0 (fun _ => true) true fuel 74 cs = some x) :
    ∃ o : OpD, cs = o.arr.toList ∧ -9223372036854775808 ≤ o.a ∧ o.a ≤ 9223372036854775807 := by
  obtain ⟨xs, n, _, rfl, hl, hlen, hf⟩ := DataW.trod_struct Tryz.underlying74 h
  rw [cellsOp] at hl
  match cs, hl, xs, hlen with
  | [v0, v1, v2, v3, v4, v5, v6], _, [y0, y1, y2, y3, y4, y5, y6], _ =>
    have g0 := fld1 hf 0 rfl 3 0 rfl rfl cells3 rfl rfl
    have g1 := fld1 hf 1 rfl 3 1 rfl rfl cells3 rfl rfl
    have g2 := fld1 hf 2 rfl 3 2 rfl rfl cells3 rfl rfl
    have g3 := fld1 hf 3 rfl 3 3 rfl rfl cells3 rfl rfl
    have g4 := fld1 hf 4 rfl 3 4 rfl rfl cells3 rfl rfl
    have g5 := fld1 hf 5 rfl 9 5 rfl rfl cellsStr rfl rfl
    have g6 := fld1 hf 6 rfl 72 6 rfl rfl cellsPs rfl rfl
    obtain ⟨z0, e0, _⟩ := DataW.trod_int Tryz.underlying3 g0
    obtain ⟨z1, e1, _, wz⟩ := DataW.trod_int Tryz.underlying3 g1
    obtain ⟨z2, e2, _⟩ := DataW.trod_int Tryz.underlying3 g2
    obtain ⟨z3, e3, _⟩ := DataW.trod_int Tryz.underlying3 g3
    obtain ⟨z4, e4, _⟩ := DataW.trod_int Tryz.underlying3 g4
    obtain ⟨s5, e5, _⟩ := DataW.trod_string Tryz.underlying9 g5
    obtain ⟨pa, pn, pc, e6⟩ := slice_of (v := v6) Tryz.underlying72 (by simpa using g6)
    simp at e0 e1 e2 e3 e4 e5
    subst e0 e1 e2 e3 e4 e5 e6
    have bd := bounds_i64 wz
    exact ⟨⟨z0, z1, z2, z3, z4, s5, pa, pn, pc⟩, rfl, by simpa using bd.1, by simpa using bd.2⟩
end
end Go.Proofs.YtllcbnfmihfaaaaGreatDoor
namespace Go.Proofs.YtllcbnfmihfaaaaGreatDoor
open Go.RowKit Go.Deep Go.Shelf Go.Lib

def cfg0 : Cfg := ⟨0, [], none, 0, 0, ByteArray.empty, 0, 0, 0, 0, 0, 0, [], none, 0⟩
def op0 : OpD := ⟨0, 0, 0, 0, 0, ByteArray.empty, none, 0, 0⟩

section
variable {H : Type} {enc : TypeId × Value → H} {w : World}

theorem weightsAll_mem {P : Program} {e : TypeId} {d : DataW H} : ∀ {l : List (DataW H)}, d ∈ l → ∀ x, x ∈ d.weights P e → x ∈ DataW.weightsAll P e l
  | [], h, _, _ => by cases h
  | a :: r, h, x, hx => by
    simp only [DataW.weightsAll, List.mem_append]
    rcases List.mem_cons.1 h with rfl | h
    · exact .inl hx
    · exact .inr (weightsAll_mem h x hx)

theorem cfgs_of {fuel : Nat} {v : Value} {x : DataW H × List MemPlace} (h : DataW.trod enc Tryz.prog w 0 (fun _ => true) true fuel 22 [v] = some x) (hw : (x.1.weights Tryz.prog 22).all (· ≤ reachBytes) = true) :
    ∃ (a : Option Addr) (n cap : Nat) (g : Nat → Cfg), v = .slice a n cap ∧ CfgsAt w a n g ∧ n ≤ maxLen := by
  rcases open_slice Tryz.underlying22 h with ⟨hv, _⟩ | ⟨a, len, cap, m, n, D, Pl, hv, _, hl, hm, hmm, rfl, hx⟩
  · cases hv
    exact ⟨none, 0, 0, fun _ => cfg0, rfl, ⟨fun k hk => by omega, fun k hk => by omega⟩, Nat.zero_le _⟩
  · cases hv
    have hmc : m = cap := by rw [hmm]; rfl
    subst hmc
    rw [cellsCfg] at hx
    have hwd : ∀ i, i < len → ((D i).weights Tryz.prog 45).all (· ≤ reachBytes) = true := fun i hi => by
      rw [List.all_eq_true] at hw ⊢
      intro y hy
      refine hw y ?_
      simp only [DataW.weights, Tryz.underlying22, List.mem_cons, List.mem_append]
      exact .inr (.inl (weightsAll_mem (List.mem_map.2 ⟨i, List.mem_range.2 hi, rfl⟩) y hy))
    have hz : ∀ i, i < len → ∃ c : Cfg, CfgW w c ∧ ∀ j, j < 11 → w.cell? ((a.add (i * 11)).add j) = c.arr[j]? := fun i hi => by
      obtain ⟨cs', h1, h2⟩ := hx i (by omega)
      obtain ⟨_, hlen, hc⟩ := World.cells?_some h1
      obtain ⟨c, rfl, hcw⟩ := cfg_of h2 (hwd i hi)
      exact ⟨c, hcw, fun j hj => (hc j hj).trans (by simp)⟩
    have ih : Inhabited Cfg := ⟨cfg0⟩
    obtain ⟨g, hg⟩ := choose_lt hz
    refine ⟨some a, len, m, g, rfl, ⟨fun k hk => ?_, fun k hk => (hg k hk).1⟩, by omega⟩
    obtain ⟨b, off, rfl, hlt⟩ := spot_none (w := w) (a := a) (v := .int .i64 (g 0).labels) (by
      have := (hg 0 (by omega)).2 0 (by omega)
      rw [Nat.zero_mul, add_add] at this
      exact this)
    refine ⟨b, off, rfl, hlt, fun k j hk hj => ?_⟩
    have := (hg k hk).2 j hj
    rw [add_add, addr_add] at this
    rw [← this, Nat.add_assoc]

theorem ops_of {fuel : Nat} {v : Value} {x : DataW H × List MemPlace} (h : DataW.trod enc Tryz.prog w 0 (fun _ => true) true fuel 23 [v] = some x) (hw : (x.1.weights Tryz.prog 23).all (· ≤ reachBytes) = true) :
    ∃ (a : Option Addr) (n cap : Nat) (g : Nat → OpD), v = .slice a n cap ∧ OpsAt w a n g ∧ n < 144115188075855872 := by
  rcases open_slice Tryz.underlying23 h with ⟨hv, _⟩ | ⟨a, len, cap, m, n, D, Pl, hv, _, hl, hm, hmm, rfl, hx⟩
  · cases hv
    exact ⟨none, 0, 0, fun _ => op0, rfl, ⟨fun k hk => by omega, fun k hk => by omega⟩, by omega⟩
  · cases hv
    have hmc : m = cap := by rw [hmm]; rfl
    subst hmc
    rw [cellsOp] at hx
    have hb : m * 80 ≤ reachBytes := by
      rw [List.all_eq_true] at hw
      have := hw (((List.range len).map D).length + ((List.range (m - len)).map fun j => D (len + j)).length |>.mul (Tryz.prog.bytesOf 74)) (by
        simp only [DataW.weights, Tryz.underlying23]
        exact List.mem_cons_self ..)
      rw [bytesOp] at this
      simp at this
      have e : len + (m - len) = m := by omega
      have h2 : (len + (m - len)) * 80 ≤ reachBytes := by simpa using this
      rwa [e] at h2
    have hz : ∀ i, i < len → ∃ o : OpD, (-9223372036854775808 ≤ o.a ∧ o.a ≤ 9223372036854775807) ∧ ∀ j, j < 7 → w.cell? ((a.add (i * 7)).add j) = o.arr[j]? := fun i hi => by
      obtain ⟨cs', h1, h2⟩ := hx i (by omega)
      obtain ⟨_, hlen, hc⟩ := World.cells?_some h1
      obtain ⟨o, rfl, ha1, ha2⟩ := op_of h2
      exact ⟨o, ⟨ha1, ha2⟩, fun j hj => (hc j hj).trans (by simp)⟩
    have ih : Inhabited OpD := ⟨op0⟩
    obtain ⟨g, hg⟩ := choose_lt hz
    refine ⟨some a, len, m, g, rfl, ⟨fun k hk => ?_, fun k hk => (hg k hk).1⟩, by have : reachBytes = 140737488351232 := rfl; omega⟩
    obtain ⟨b, off, rfl, hlt⟩ := spot_none (w := w) (a := a) (v := .int .i64 (g 0).kind) (by
      have := (hg 0 (by omega)).2 0 (by omega)
      rw [Nat.zero_mul, add_add] at this
      exact this)
    refine ⟨b, off, rfl, hlt, fun k j hk hj => ?_⟩
    have := (hg k hk).2 j hj
    rw [add_add, addr_add] at this
    rw [← this, Nat.add_assoc]
end

/-! The package-level variables, off the row's list. -/
theorem Tryz.gSignsT : (Tryz.prog.globals[2]?).map (·.type) = some 337 := by kernel_rfl
theorem Tryz.x8 : U8Extra Tryz.prog Tryz.lays196_ren := ⟨by kernel_rfl, by kernel_rfl, by kernel_rfl, by kernel_rfl, by kernel_rfl, by kernel_rfl, by kernel_rfl⟩
theorem cellsSign : Tryz.prog.cellsOf 336 = 2 := by kernel_rfl
theorem cellsKind : Tryz.prog.cellsOf 233 = 1 := by kernel_rfl
theorem cellsSigns : Tryz.prog.cellsOf 337 = 6 := by kernel_rfl

theorem sign_of {W : World} {sp : Nat → Bool} {held : Bool} {fuel : Nat} {cs : List Value} {b : List UInt8} {k : Int} {p : List MemPlace} (h : DataW.trod (fun _ => ()) Tryz.prog W 0 sp held fuel 336 cs = some (.agg [.lit (.string b), .lit (.int .i64 k)], p)) : cs = [.string ⟨b.toArray⟩, .int .i64 k] := by
  obtain ⟨xs, n, _, hx, hl, hlen, hf⟩ := DataW.trod_struct Tryz.underlying336 h
  rw [cellsSign] at hl
  have hxl : xs.length = 2 := hlen
  obtain ⟨v0, v1, rfl⟩ := list2 hl
  obtain ⟨y0, y1, rfl⟩ := list2 hxl
  have t0 : DataW.trod (fun _ => ()) Tryz.prog W 0 sp held n 9 (([v0, v1].drop 0).take (Tryz.prog.cellsOf 9)) = some y0 := hf 0 _ rfl
  have t1 : DataW.trod (fun _ => ()) Tryz.prog W 0 sp held n 233 (([v0, v1].drop 1).take (Tryz.prog.cellsOf 233)) = some y1 := hf 1 _ rfl
  rw [cellsStr] at t0
  rw [cellsKind] at t1
  obtain ⟨s0, e0, hy0⟩ := DataW.trod_string Tryz.underlying9 t0
  obtain ⟨z1, e1, hy1⟩ := DataW.trod_int Tryz.underlying233 t1
  simp at e0 e1
  subst e0 e1
  obtain ⟨rfl, _⟩ := hy0
  obtain ⟨rfl, _⟩ := hy1
  simp only [List.map_cons, List.map_nil, Prod.mk.injEq, DataW.agg.injEq, List.cons.injEq, DataW.lit.injEq, Lit.string.injEq, Lit.int.injEq, and_true, true_and] at hx
  obtain ⟨⟨rfl, rfl⟩, _⟩ := hx
  simp
theorem arr_len {H : Type} {enc : TypeId × Value → H} {P : Program} {w : World} {base : Nat} {sp : Nat → Bool} {held : Bool} {fuel : Nat} {t e : TypeId} {n : Nat} {cs : List Value} {x : DataW H × List MemPlace} (ht : P.underlying t = some (.array n e)) (h : DataW.trod enc P w base sp held fuel t cs = some x) : cs.length = P.cellsOf t := by
  cases fuel with
  | zero => simp [DataW.trod] at h
  | succ fuel =>
    simp only [DataW.trod, ht] at h
    split at h
    · next hh => simpa using hh
    · cases h
theorem six {cs : List Value} (hl : cs.length = 6) {a0 a1 b0 b1 c0 c1 : Value} (h0 : (cs.drop (0 * 2)).take 2 = [a0, a1]) (h1 : (cs.drop (1 * 2)).take 2 = [b0, b1]) (h2 : (cs.drop (2 * 2)).take 2 = [c0, c1]) : cs = [a0, a1, b0, b1, c0, c1] := by
  match cs, hl with
  | [x0, x1, x2, x3, x4, x5], _ =>
    simp at h0 h1 h2
    obtain ⟨rfl, rfl⟩ := h0
    obtain ⟨rfl, rfl⟩ := h1
    obtain ⟨rfl, rfl⟩ := h2
    rfl
set_option maxRecDepth 100000 in
theorem glob_of {W : World} (hL : laidMetH Tryz.prog Rows.checksRow.laid W) (hS : W.ShapedOpen Tryz.prog) : Glob W := by
  have hL' : laidMet Tryz.prog Rows.checksRow.laid W := hL
  refine ⟨?_, ?_, Tryz.laysM145.s1_3 W hS⟩
  · obtain ⟨g, t, cs, fuel, p, hg, hty, hvar, hd⟩ := laidMet.reads hL' (d := Rows.laid_redact_policy_signs) (.tail _ (.tail _ (.tail _ (.tail _ (.tail _ (.tail _ (.head _)))))))
    obtain rfl : g = 2 := Option.some.inj (hg.symm.trans (by kernel_rfl))
    obtain rfl := Option.some.inj (Tryz.gSignsT.symm.trans hty)
    have hd' : DataW.trod (fun _ => ()) Tryz.prog W 0 (fun _ => true) false fuel 337 cs.toList = some (.agg [.agg [.lit (.string [42]), .lit (.int .i64 0)], .agg [.lit (.string [42, 42]), .lit (.int .i64 1)], .agg [.lit (.string [91, 93]), .lit (.int .i64 2)]], p) := hd
    obtain ⟨f0, d0, q0, hd0, h0⟩ := array_elem Tryz.underlying337 hd' 0 (by omega)
    obtain ⟨f1, d1, q1, hd1, h1⟩ := array_elem Tryz.underlying337 hd' 1 (by omega)
    obtain ⟨f2, d2, q2, hd2, h2⟩ := array_elem Tryz.underlying337 hd' 2 (by omega)
    cases hd0
    cases hd1
    cases hd2
    have r0 := sign_of h0
    have r1 := sign_of h1
    have r2 := sign_of h2
    rw [cellsSign] at r0 r1 r2
    have hcl : cs.toList.length = 6 := (arr_len Tryz.underlying337 hd').trans cellsSigns
    have hcs := six hcl r0 r1 r2
    unfold World.var? at hvar
    rw [hg] at hvar
    simp only [Option.bind_some] at hvar
    split at hvar
    · next cs' t fr hh =>
      cases hvar
      refine ⟨t, fr, ?_⟩
      rw [hh]
      have : cs = [Value.string ⟨[42].toArray⟩, .int .i64 0, .string ⟨[42, 42].toArray⟩, .int .i64 1, .string ⟨[91, 93].toArray⟩, .int .i64 2].toArray := by rw [← hcs]
      rw [this]
    · cases hvar
  · refine utf8Tabs_of_readsT (U8Types.of196 Tryz.lays196) Tryz.x8 ?_ ?_
    · rw [← Pinned.utf8First_eq]
      exact laidMet.reads hL' (.tail _ (.tail _ (.tail _ (.tail _ (.tail _ (.tail _ (.tail _ (.head _))))))))
    · have e : (Rows.laid_unicode_utf8_acceptRanges : DataW Unit) = acceptData := by kernel_rfl
      have hr := laidMet.reads hL' (d := Rows.laid_unicode_utf8_acceptRanges) (.tail _ (.tail _ (.tail _ (.head _))))
      rw [e] at hr
      exact hr
end Go.Proofs.YtllcbnfmihfaaaaGreatDoor
