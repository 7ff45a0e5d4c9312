import Derived.Test.YtllcbnfmihfaaaaGreatDoorRead
import Derived.Test.YtllcbnfmihfaaaaGreatDoorShelf
import Derived.Lib.LaidU8T
import Derived.PinnedBridge
namespace Go.Proofs.YtllcbnfmihfaaaaGreatDoor
open Go.RowKit Go.Deep Go.Shelf Go.Lib

def cfg0 : Cfg := ⟨0, [], none, 0, 0, ByteArray.empty, 0, 0, 0, 0, 0, 0, [], none, 0⟩
def op0 : OpD := ⟨0, 0, 0, 0, 0, ByteArray.empty, none, 0, 0⟩

section
variable {H : Type} {enc : TypeId × Value → H} {w : World}

theorem weightsAll_mem {P : Program} {e : TypeId} {d : DataW H} : ∀ {l : List (DataW H)}, d ∈ l → ∀ x, x ∈ d.weights P e → x ∈ DataW.weightsAll P e l
  | [], h, _, _ => by cases h
  | a :: r, h, x, hx => by
    simp only [DataW.weightsAll, List.mem_append]
    rcases List.mem_cons.1 h with rfl | h
    · exact .inl hx
    · exact .inr (weightsAll_mem h x hx)

theorem cfgs_of {fuel : Nat} {v : Value} {x : DataW H × List MemPlace} (h : DataW.trod enc Tryz.prog w 0 (fun _ => true) true fuel 22 [v] = some x) (hw : (x.1.weights Tryz.prog 22).all (· ≤ reachBytes) = true) :
    ∃ (a : Option Addr) (n cap : Nat) (g : Nat → Cfg), v = .slice a n cap ∧ CfgsAt w a n g ∧ n ≤ maxLen := by
  rcases open_slice Tryz.underlying22 h with ⟨hv, _⟩ | ⟨a, len, cap, m, n, D, Pl, hv, _, hl, hm, hmm, rfl, hx⟩
  · cases hv
    exact ⟨none, 0, 0, fun _ => cfg0, rfl, ⟨fun k hk => by omega, fun k hk => by omega⟩, Nat.zero_le _⟩
  · cases hv
    have hmc : m = cap := by rw [hmm]; rfl
    subst hmc
    rw [cellsCfg] at hx
    have hwd : ∀ i, i < len → ((D i).weights Tryz.prog 45).all (· ≤ reachBytes) = true := fun i hi => by
      rw [List.all_eq_true] at hw ⊢
      intro y hy
      refine hw y ?_
      simp only [DataW.weights, Tryz.underlying22, List.mem_cons, List.mem_append]
      exact .inr (.inl (weightsAll_mem (List.mem_map.2 ⟨i, List.mem_range.2 hi, rfl⟩) y hy))
    have hz : ∀ i, i < len → ∃ c : Cfg, CfgW w c ∧ ∀ j, j < 11 → w.cell? ((a.add (i * 11)).add j) = c.arr[j]? := fun i hi => by
      obtain ⟨cs', h1, h2⟩ := hx i (by omega)
      obtain ⟨_, hlen, hc⟩ := World.cells?_some h1
      obtain ⟨c, rfl, hcw⟩ := cfg_of h2 (hwd i hi)
      exact ⟨c, hcw, fun j hj => (hc j hj).trans (by simp)⟩
    have ih : Inhabited Cfg := ⟨cfg0⟩
    obtain ⟨g, hg⟩ := choose_lt hz
    refine ⟨some a, len, m, g, rfl, ⟨fun k hk => ?_, fun k hk => (hg k hk).1⟩, by omega⟩
    obtain ⟨b, off, rfl, hlt⟩ := spot_none (w := w) (a := a) (v := .int .i64 (g 0).labels) (by
      have := (hg 0 (by omega)).2 0 (by omega)
      rw [Nat.zero_mul, add_add] at this
      exact this)
    refine ⟨b, off, rfl, hlt, fun k j hk hj => ?_⟩
    have := (hg k hk).2 j hj
    rw [add_add, addr_add] at this
    rw [← this, Nat.add_assoc]

theorem ops_of {fuel : Nat} {v : Value} {x : DataW H × List MemPlace} (h : DataW.trod enc Tryz.prog w 0 (fun _ => true) true fuel 23 [v] = some x) (hw : (x.1.weights Tryz.prog 23).all (· ≤ reachBytes) = true) :
    ∃ (a : Option Addr) (n cap : Nat) (g : Nat → OpD), v = .slice a n cap ∧ OpsAt w a n g ∧ n < 144115188075855872 := by
  rcases open_slice Tryz.underlying23 h with ⟨hv, _⟩ | ⟨a, len, cap, m, n, D, Pl, hv, _, hl, hm, hmm, rfl, hx⟩
  · cases hv
    exact ⟨none, 0, 0, fun _ => op0, rfl, ⟨fun k hk => by omega, fun k hk => by omega⟩, by omega⟩
  · cases hv
    have hmc : m = cap := by rw [hmm]; rfl
    subst hmc
    rw [cellsOp] at hx
    have hb : m * 80 ≤ reachBytes := by
      rw [List.all_eq_true] at hw
      have := hw (((List.range len).map D).length + ((List.range (m - len)).map fun j => D (len + j)).length |>.mul (Tryz.prog.bytesOf 74)) (by
        simp only [DataW.weights, Tryz.underlying23]
        exact List.mem_cons_self ..)
      rw [bytesOp] at this
      simp at this
      have e : len + (m - len) = m := by omega
      have h2 : (len + (m - len)) * 80 ≤ reachBytes := by simpa using this
      rwa [e] at h2
    have hz : ∀ i, i < len → ∃ o : OpD, (-9223372036854775808 ≤ o.a ∧ o.a ≤ 9223372036854775807) ∧ ∀ j, j < 7 → w.cell? ((a.add (i * 7)).add j) = o.arr[j]? := fun i hi => by
      obtain ⟨cs', h1, h2⟩ := hx i (by omega)
      obtain ⟨_, hlen, hc⟩ := World.cells?_some h1
      obtain ⟨o, rfl, ha1, ha2⟩ := op_of h2
      exact ⟨o, ⟨ha1, ha2⟩, fun j hj => (hc j hj).trans (by simp)⟩
    have ih : Inhabited OpD := ⟨op0⟩
    obtain ⟨g, hg⟩ := choose_lt hz
    refine ⟨some a, len, m, g, rfl, ⟨fun k hk => ?_, fun k hk => (hg k hk).1⟩, by have : reachBytes = 140737488351232 := rfl; omega⟩
    obtain ⟨b, off, rfl, hlt⟩ := spot_none (w := w) (a := a) (v := .int .i64 (g 0).kind) (by
      have := (hg 0 (by omega)).2 0 (by omega)
      rw [Nat.zero_mul, add_add] at this
      exact this)
    refine ⟨b, off, rfl, hlt, fun k j hk hj => ?_⟩
    have := (hg k hk).2 j hj
    rw [add_add, addr_add] at this
    rw [← this, Nat.add_assoc]
end

/-! The package-level variables, off the row's list. -/
theorem Tryz.gSignsT : (Tryz.prog.globals[2]?).map (·.type) = some 337 := by kernel_rfl
theorem Tryz.x8 : U8Extra Tryz.prog Tryz.lays196_ren := ⟨by kernel_rfl, by kernel_rfl, by kernel_rfl, by kernel_rfl, by kernel_rfl, by kernel_rfl, by kernel_rfl⟩
theorem cellsSign : Tryz.prog.cellsOf 336 = 2 := by kernel_rfl
theorem cellsKind : Tryz.prog.cellsOf 233 = 1 := by kernel_rfl
theorem cellsSigns : Tryz.prog.cellsOf 337 = 6 := by kernel_rfl

theorem sign_of {W : World} {sp : Nat → Bool} {held : Bool} {fuel : Nat} {cs : List Value} {b : List UInt8} {k : Int} {p : List MemPlace} (h : DataW.trod (fun _ => ()) Tryz.prog W 0 sp held fuel 336 cs = some (.agg [.lit (.string b), .lit (.int .i64 k)], p)) : cs = [.string ⟨b.toArray⟩, .int .i64 k] := by
  obtain ⟨xs, n, _, hx, hl, hlen, hf⟩ := DataW.trod_struct Tryz.underlying336 h
  rw [cellsSign] at hl
  have hxl : xs.length = 2 := hlen
  obtain ⟨v0, v1, rfl⟩ := list2 hl
  obtain ⟨y0, y1, rfl⟩ := list2 hxl
  have t0 : DataW.trod (fun _ => ()) Tryz.prog W 0 sp held n 9 (([v0, v1].drop 0).take (Tryz.prog.cellsOf 9)) = some y0 := hf 0 _ rfl
  have t1 : DataW.trod (fun _ => ()) Tryz.prog W 0 sp held n 233 (([v0, v1].drop 1).take (Tryz.prog.cellsOf 233)) = some y1 := hf 1 _ rfl
  rw [cellsStr] at t0
  rw [cellsKind] at t1
  obtain ⟨s0, e0, hy0⟩ := DataW.trod_string Tryz.underlying9 t0
  obtain ⟨z1, e1, hy1⟩ := DataW.trod_int Tryz.underlying233 t1
  simp at e0 e1
  subst e0 e1
  obtain ⟨rfl, _⟩ := hy0
  obtain ⟨rfl, _⟩ := hy1
  simp only [List.map_cons, List.map_nil, Prod.mk.injEq, DataW.agg.injEq, List.cons.injEq, DataW.lit.injEq, Lit.string.injEq, Lit.int.injEq, and_true, true_and] at hx
  obtain ⟨⟨rfl, rfl⟩, _⟩ := hx
  simp
theorem arr_len {H : Type} {enc : TypeId × Value → H} {P : Program} {w : World} {base : Nat} {sp : Nat → Bool} {held : Bool} {fuel : Nat} {t e : TypeId} {n : Nat} {cs : List Value} {x : DataW H × List MemPlace} (ht : P.underlying t = some (.array n e)) (h : DataW.trod enc P w base sp held fuel t cs = some x) : cs.length = P.cellsOf t := by
  cases fuel with
  | zero => simp [DataW.trod] at h
  | succ fuel =>
    simp only [DataW.trod, ht] at h
    split at h
    · next hh => simpa using hh
    · cases h
theorem six {cs : List Value} (hl : cs.length = 6) {a0 a1 b0 b1 c0 c1 : Value} (h0 : (cs.drop (0 * 2)).take 2 = [a0, a1]) (h1 : (cs.drop (1 * 2)).take 2 = [b0, b1]) (h2 : (cs.drop (2 * 2)).take 2 = [c0, c1]) : cs = [a0, a1, b0, b1, c0, c1] := by
  match cs, hl with
  | [x0, x1, x2, x3, x4, x5], _ =>
    simp at h0 h1 h2
    obtain ⟨rfl, rfl⟩ := h0
    obtain ⟨rfl, rfl⟩ := h1
    obtain ⟨rfl, rfl⟩ := h2
    rfl
set_option maxRecDepth 100000 in
theorem glob_of {W : World} (hL : laidMetH Tryz.prog Rows.checksRow.laid W) (hS : W.ShapedOpen Tryz.prog) : Glob W := by
  have hL' : laidMet Tryz.prog Rows.checksRow.laid W := hL
  refine ⟨?_, ?_, Tryz.laysM145.s1_3 W hS⟩
  · obtain ⟨g, t, cs, fuel, p, hg, hty, hvar, hd⟩ := laidMet.reads hL' (d := Rows.laid_redact_policy_signs) (.tail _ (.tail _ (.tail _ (.tail _ (.tail _ (.tail _ (.head _)))))))
    obtain rfl : g = 2 := Option.some.inj (hg.symm.trans (by kernel_rfl))
    obtain rfl := Option.some.inj (Tryz.gSignsT.symm.trans hty)
    have hd' : DataW.trod (fun _ => ()) Tryz.prog W 0 (fun _ => true) false fuel 337 cs.toList = some (.agg [.agg [.lit (.string [42]), .lit (.int .i64 0)], .agg [.lit (.string [42, 42]), .lit (.int .i64 1)], .agg [.lit (.string [91, 93]), .lit (.int .i64 2)]], p) := hd
    obtain ⟨f0, d0, q0, hd0, h0⟩ := array_elem Tryz.underlying337 hd' 0 (by omega)
    obtain ⟨f1, d1, q1, hd1, h1⟩ := array_elem Tryz.underlying337 hd' 1 (by omega)
    obtain ⟨f2, d2, q2, hd2, h2⟩ := array_elem Tryz.underlying337 hd' 2 (by omega)
    cases hd0
    cases hd1
    cases hd2
    have r0 := sign_of h0
    have r1 := sign_of h1
    have r2 := sign_of h2
    rw [cellsSign] at r0 r1 r2
    have hcl : cs.toList.length = 6 := (arr_len Tryz.underlying337 hd').trans cellsSigns
    have hcs := six hcl r0 r1 r2
    unfold World.var? at hvar
    rw [hg] at hvar
    simp only [Option.bind_some] at hvar
    split at hvar
    · next cs' t fr hh =>
      cases hvar
      refine ⟨t, fr, ?_⟩
      rw [hh]
      have : cs = [Value.string ⟨[42].toArray⟩, .int .i64 0, .string ⟨[42, 42].toArray⟩, .int .i64 1, .string ⟨[91, 93].toArray⟩, .int .i64 2].toArray := by rw [← hcs]
      rw [this]
    · cases hvar
  · refine utf8Tabs_of_readsT (U8Types.of196 Tryz.lays196) Tryz.x8 ?_ ?_
    · rw [← Pinned.utf8First_eq]
      exact laidMet.reads hL' (.tail _ (.tail _ (.tail _ (.tail _ (.tail _ (.tail _ (.tail _ (.head _))))))))
    · have e : (Rows.laid_unicode_utf8_acceptRanges : DataW Unit) = acceptData := by kernel_rfl
      have hr := laidMet.reads hL' (d := Rows.laid_unicode_utf8_acceptRanges) (.tail _ (.tail _ (.tail _ (.head _))))
      rw [e] at hr
      exact hr
end Go.Proofs.YtllcbnfmihfaaaaGreatDoor
