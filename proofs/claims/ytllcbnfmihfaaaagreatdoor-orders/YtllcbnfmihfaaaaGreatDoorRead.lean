import Derived.Test.YtllcbnfmihfaaaaGreatDoorPlays
import Derived.ProofKit
import Derived.OpenShut
import Derived.Deep.Slices
import Derived.SizedLaws
namespace Go.Proofs.YtllcbnfmihfaaaaGreatDoor
open Go.RowKit Go.Deep

theorem cells3 : Tryz.prog.cellsOf 3 = 1 := by kernel_rfl
theorem cellsStr : Tryz.prog.cellsOf 9 = 1 := by kernel_rfl
theorem cellsEs : Tryz.prog.cellsOf 43 = 1 := by kernel_rfl
theorem cellsIs : Tryz.prog.cellsOf 25 = 1 := by kernel_rfl
theorem cellsPs : Tryz.prog.cellsOf 72 = 1 := by kernel_rfl
theorem cellsCfg : Tryz.prog.cellsOf 45 = 11 := by kernel_rfl
theorem cellsOp : Tryz.prog.cellsOf 74 = 7 := by kernel_rfl
theorem cellsEdge : Tryz.prog.cellsOf 101 = 2 := by kernel_rfl
theorem bytesEdge : Tryz.prog.bytesOf 101 = 16 := by kernel_rfl
theorem bytesInt : Tryz.prog.bytesOf 3 = 8 := by kernel_rfl
theorem bytesOp : Tryz.prog.bytesOf 74 = 80 := by kernel_rfl

theorem spot_none {w : World} {a : Addr} {v : Value} (h : w.cell? (a.add 0) = some v) : ∃ b off, a = ⟨b, off, none⟩ ∧ b < w.heap.size := by
  obtain ⟨b, off, spot⟩ := a
  have hspot : spot = none := by simpa [Addr.add] using World.cell?_spot h
  subst hspot
  rw [addr_add] at h
  exact ⟨b, off, rfl, block_lt_of_cell h⟩

theorem list2 {α : Type} {l : List α} (h : l.length = 2) : ∃ a b, l = [a, b] := by
  match l, h with
  | [a, b], _ => exact ⟨a, b, rfl⟩

section
variable {H : Type} {enc : TypeId × Value → H} {w : World}

/-- A slice of ints: its value; its list. -/
theorem ints_of {fuel : Nat} {v : Value} {x : DataW H × List MemPlace} (h : DataW.trod enc Tryz.prog w 0 (fun _ => true) true fuel 25 [v] = some x) (hw : (x.1.weights Tryz.prog 25).all (· ≤ reachBytes) = true) :
    ∃ (a : Option Addr) (cap : Nat) (B : List Int), v = .slice a B.length cap ∧ IntsAt w a B ∧ (a = none → B.length = 0 ∧ cap = 0) ∧ (B.length + 8) * 8 ≤ 281474976710656 := by
  rcases open_slice1 Tryz.underlying25 cells3 h with ⟨hv, _⟩ | ⟨a, len, cap, m, n, V, D, Pl, hv, _, hl, hm, hmm, rfl, hx⟩
  · cases hv
    exact ⟨none, 0, [], rfl, ⟨fun i hi => by simp at hi⟩, fun _ => ⟨rfl, rfl⟩, by decide⟩
  · cases hv
    have hmc : m = cap := by rw [hmm]; rfl
    subst hmc
    have hb : m * 8 ≤ reachBytes := by
      rw [List.all_eq_true] at hw
      have := hw (((List.range len).map D).length + ((List.range (m - len)).map fun j => D (len + j)).length |>.mul (Tryz.prog.bytesOf 3)) (by
        simp only [DataW.weights, Tryz.underlying25]
        exact List.mem_cons_self ..)
      rw [bytesInt] at this
      simp at this
      have e : len + (m - len) = m := by omega
      have h2 : (len + (m - len)) * 8 ≤ reachBytes := by simpa using this
      rwa [e] at h2
    have hz : ∀ i, i < m → ∃ z : Int, V i = .int .i64 z := fun i hi => by
      obtain ⟨z, hz, _⟩ := DataW.trod_int Tryz.underlying3 (hx i hi).2
      exact ⟨z, by simpa using hz⟩
    obtain ⟨Z, hZ⟩ := choose_lt hz
    refine ⟨some a, m, (List.range len).map Z, by simp, ⟨fun i hi => ?_⟩, fun hn => (by cases hn), ?_⟩
    · have hi' : i < len := by simpa using hi
      obtain ⟨b, off, rfl, hlt⟩ := spot_none (hx 0 (by omega)).1
      refine ⟨b, off, rfl, hlt, fun j hj => ?_⟩
      have hj' : j < len := by simpa using hj
      have := (hx j (by omega)).1
      rw [addr_add] at this
      rw [this, hZ j (by omega)]
      simp
    · have : reachBytes = 140737488351232 := rfl
      simp
      omega

/-- A field of one cell. -/
theorem fld1 {n : Nat} {cs : List Value} {xs : List (DataW H × List MemPlace)} {fs : Array Field}
    (hf : ∀ (i : Nat) (f : Field), fs[i]? = some f → DataW.trod enc Tryz.prog w 0 (fun _ => true) true n f.type ((cs.drop f.offset).take (Tryz.prog.cellsOf f.type)) = xs[i]?)
    (i : Nat) {f : Field} (h : fs[i]? = some f) (t : TypeId) (o : Nat) (ht : f.type = t) (ho : f.offset = o) (hc : Tryz.prog.cellsOf t = 1) {v : Value} (hv : cs[o]? = some v) {y : DataW H × List MemPlace} (hy : xs[i]? = some y) :
    DataW.trod enc Tryz.prog w 0 (fun _ => true) true n t [v] = some y := by
  subst ht ho
  have g := hf i f h
  rw [hc, hy] at g
  have e : (cs.drop f.offset).take 1 = [v] := by
    rw [List.getElem?_eq_some_iff] at hv
    obtain ⟨hl, rfl⟩ := hv
    rw [List.drop_eq_getElem_cons hl]
    rfl
  rwa [e] at g

/-- A slice of edges. -/
theorem edges_of {fuel : Nat} {v : Value} {x : DataW H × List MemPlace} (h : DataW.trod enc Tryz.prog w 0 (fun _ => true) true fuel 43 [v] = some x) (hw : (x.1.weights Tryz.prog 43).all (· ≤ reachBytes) = true) :
    ∃ (a : Option Addr) (cap : Nat) (L : List (Int × Int)), v = .slice a L.length cap ∧ EdgesAt w a L ∧ (a = none → L.length = 0 ∧ cap = 0) ∧ (L.length + 8) * 16 ≤ 281474976710656 := by
  rcases open_slice Tryz.underlying43 h with ⟨hv, _⟩ | ⟨a, len, cap, m, n, D, Pl, hv, _, hl, hm, hmm, rfl, hx⟩
  · cases hv
    exact ⟨none, 0, [], rfl, ⟨fun i hi => by simp at hi⟩, fun _ => ⟨rfl, rfl⟩, by decide⟩
  · cases hv
    have hmc : m = cap := by rw [hmm]; rfl
    subst hmc
    have hb : m * 16 ≤ reachBytes := by
      rw [List.all_eq_true] at hw
      have := hw (((List.range len).map D).length + ((List.range (m - len)).map fun j => D (len + j)).length |>.mul (Tryz.prog.bytesOf 101)) (by
        simp only [DataW.weights, Tryz.underlying43]
        exact List.mem_cons_self ..)
      rw [bytesEdge] at this
      simp at this
      have e : len + (m - len) = m := by omega
      have h2 : (len + (m - len)) * 16 ≤ reachBytes := by simpa using this
      rwa [e] at h2
    have hz : ∀ i, i < m → ∃ z : Int × Int, w.cell? (a.add (i * 2)) = some (.int .i64 z.1) ∧ w.cell? ((a.add (i * 2)).add 1) = some (.int .i64 z.2) := fun i hi => by
      obtain ⟨cs', h1, h2⟩ := hx i hi
      rw [cellsEdge] at h1
      obtain ⟨_, hlen, hc⟩ := World.cells?_some h1
      obtain ⟨xs, n', _, _, _, hxl, hf⟩ := DataW.trod_struct Tryz.underlying101 h2
      obtain ⟨c0, c1, rfl⟩ : ∃ c0 c1, cs' = [c0, c1] := by
        exact list2 hlen
      obtain ⟨y0, y1, rfl⟩ : ∃ y0 y1, xs = [y0, y1] := by
        clear h2 hf
        have hxl' : xs.length = 2 := hxl
        exact list2 hxl' 
      · have t0 := fld1 hf 0 rfl 3 0 rfl rfl cells3 rfl rfl
        have t1 := fld1 hf 1 rfl 3 1 rfl rfl cells3 rfl rfl
        obtain ⟨z0, e0, _⟩ := DataW.trod_int Tryz.underlying3 t0
        obtain ⟨z1, e1, _⟩ := DataW.trod_int Tryz.underlying3 t1
        simp at e0 e1
        subst e0 e1
        refine ⟨(z0, z1), ?_, ?_⟩
        · have := hc 0 (by omega)
          rw [add_add, Nat.add_zero] at this
          exact this
        · exact hc 1 (by omega)
    obtain ⟨Z, hZ⟩ := choose_lt hz
    refine ⟨some a, m, (List.range len).map Z, by simp, ⟨fun i hi => ?_⟩, fun hn => (by cases hn), ?_⟩
    · have hi' : i < len := by simpa using hi
      obtain ⟨b, off, rfl, hlt⟩ := spot_none (by have := (hZ 0 (by omega)).1; rwa [Nat.zero_mul] at this)
      have g := hZ i (by omega)
      rw [add_add, addr_add, addr_add] at g
      refine ⟨b, off, rfl, hlt, ?_, ?_⟩
      · rw [g.1]; simp
      · rw [Nat.add_assoc, g.2]; simp
    · have : reachBytes = 140737488351232 := rfl
      simp
      omega

/-- Any slice, as a value. -/
theorem slice_of {t e : TypeId} (ht : Tryz.prog.underlying t = some (.slice e)) {fuel : Nat} {v : Value} {x : DataW H × List MemPlace} (h : DataW.trod enc Tryz.prog w 0 (fun _ => true) true fuel t [v] = some x) : ∃ (a : Option Addr) (n cap : Nat), v = .slice a n cap := by
  rcases open_slice ht h with ⟨hv, _⟩ | ⟨a, len, cap, m, n, D, Pl, hv, _⟩
  · cases hv; exact ⟨none, 0, 0, rfl⟩
  · cases hv; exact ⟨some a, len, cap, rfl⟩

set_option maxRecDepth 50000 in
/-- A configuration's cells. -/
theorem cfg_of {fuel : Nat} {cs : List Value} {x : DataW H × List MemPlace} (h : DataW.trod enc Tryz.prog w 0 (fun _ => true) true fuel 45 cs = some x) (hw : (x.1.weights Tryz.prog 45).all (· ≤ reachBytes) = true) :
    ∃ c : Cfg, cs = c.arr.toList ∧ CfgW w c := by
  obtain ⟨xs, n, _, rfl, hl, hlen, hf⟩ := DataW.trod_struct Tryz.underlying45 h
  rw [cellsCfg] at hl
  match cs, hl, xs, hlen with
  | [v0, v1, v2, v3, v4, v5, v6, v7, v8, v9, v10], _, [y0, y1, y2, y3, y4, y5, y6, y7, y8, y9, y10], _ =>
    simp only [DataW.weights, Tryz.underlying45, List.map_cons, List.map_nil, DataW.weightsEach, List.all_append, Bool.and_eq_true] at hw
    have g0 := fld1 hf 0 rfl 3 0 rfl rfl cells3 rfl rfl
    have g1 := fld1 hf 1 rfl 43 1 rfl rfl cellsEs rfl rfl
    have g2 := fld1 hf 2 rfl 3 2 rfl rfl cells3 rfl rfl
    have g3 := fld1 hf 3 rfl 9 3 rfl rfl cellsStr rfl rfl
    have g4 := fld1 hf 4 rfl 3 4 rfl rfl cells3 rfl rfl
    have g5 := fld1 hf 5 rfl 3 5 rfl rfl cells3 rfl rfl
    have g6 := fld1 hf 6 rfl 3 6 rfl rfl cells3 rfl rfl
    have g7 := fld1 hf 7 rfl 3 7 rfl rfl cells3 rfl rfl
    have g8 := fld1 hf 8 rfl 3 8 rfl rfl cells3 rfl rfl
    have g9 := fld1 hf 9 rfl 3 9 rfl rfl cells3 rfl rfl
    have g10 := fld1 hf 10 rfl 25 10 rfl rfl cellsIs rfl rfl
    obtain ⟨z0, e0, _⟩ := DataW.trod_int Tryz.underlying3 g0
    obtain ⟨z2, e2, _⟩ := DataW.trod_int Tryz.underlying3 g2
    obtain ⟨s3, e3, _⟩ := DataW.trod_string Tryz.underlying9 g3
    obtain ⟨z4, e4, _⟩ := DataW.trod_int Tryz.underlying3 g4
    obtain ⟨z5, e5, _⟩ := DataW.trod_int Tryz.underlying3 g5
    obtain ⟨z6, e6, _⟩ := DataW.trod_int Tryz.underlying3 g6
    obtain ⟨z7, e7, _⟩ := DataW.trod_int Tryz.underlying3 g7
    obtain ⟨z8, e8, _⟩ := DataW.trod_int Tryz.underlying3 g8
    obtain ⟨z9, e9, _⟩ := DataW.trod_int Tryz.underlying3 g9
    obtain ⟨ea, ecap, L, e1, hE, hEn, hEb⟩ := edges_of (v := v1) (by simpa using g1) hw.2.1
    obtain ⟨ba, bcap, B, e10, hI, hIn, hIb⟩ := ints_of (v := v10) (by simpa using g10) hw.2.2.2.2.2.2.2.2.2.2.1
    simp at e0 e2 e3 e4 e5 e6 e7 e8 e9
    subst e0 e2 e3 e4 e5 e6 e7 e8 e9 e1 e10
    exact ⟨⟨z0, L, ea, ecap, z2, s3, z4, z5, z6, z7, z8, z9, B, ba, bcap⟩, rfl, hE, hI, hEn, hIn, hEb, hIb⟩

set_option maxRecDepth 50000 in
/-- A step's cells. -/
theorem op_of {fuel : Nat} {cs : List Value} {x : DataW H × List MemPlace} (h : DataW.trod enc Tryz.prog w 0 (fun _ => true) true fuel 74 cs = some x) :
    ∃ o : OpD, cs = o.arr.toList ∧ -9223372036854775808 ≤ o.a ∧ o.a ≤ 9223372036854775807 := by
  obtain ⟨xs, n, _, rfl, hl, hlen, hf⟩ := DataW.trod_struct Tryz.underlying74 h
  rw [cellsOp] at hl
  match cs, hl, xs, hlen with
  | [v0, v1, v2, v3, v4, v5, v6], _, [y0, y1, y2, y3, y4, y5, y6], _ =>
    have g0 := fld1 hf 0 rfl 3 0 rfl rfl cells3 rfl rfl
    have g1 := fld1 hf 1 rfl 3 1 rfl rfl cells3 rfl rfl
    have g2 := fld1 hf 2 rfl 3 2 rfl rfl cells3 rfl rfl
    have g3 := fld1 hf 3 rfl 3 3 rfl rfl cells3 rfl rfl
    have g4 := fld1 hf 4 rfl 3 4 rfl rfl cells3 rfl rfl
    have g5 := fld1 hf 5 rfl 9 5 rfl rfl cellsStr rfl rfl
    have g6 := fld1 hf 6 rfl 72 6 rfl rfl cellsPs rfl rfl
    obtain ⟨z0, e0, _⟩ := DataW.trod_int Tryz.underlying3 g0
    obtain ⟨z1, e1, _, wz⟩ := DataW.trod_int Tryz.underlying3 g1
    obtain ⟨z2, e2, _⟩ := DataW.trod_int Tryz.underlying3 g2
    obtain ⟨z3, e3, _⟩ := DataW.trod_int Tryz.underlying3 g3
    obtain ⟨z4, e4, _⟩ := DataW.trod_int Tryz.underlying3 g4
    obtain ⟨s5, e5, _⟩ := DataW.trod_string Tryz.underlying9 g5
    obtain ⟨pa, pn, pc, e6⟩ := slice_of (v := v6) Tryz.underlying72 (by simpa using g6)
    simp at e0 e1 e2 e3 e4 e5
    subst e0 e1 e2 e3 e4 e5 e6
    have bd := bounds_i64 wz
    exact ⟨⟨z0, z1, z2, z3, z4, s5, pa, pn, pc⟩, rfl, by simpa using bd.1, by simpa using bd.2⟩
end
end Go.Proofs.YtllcbnfmihfaaaaGreatDoor
