import Derived.Test.YtllcbnfmihfaaaaGreatDoorLq17
import Derived.Test.YtllcbnfmihfaaaaGreatDoorLq36
namespace Go.Proofs.YtllcbnfmihfaaaaGreatDoor
open Go.RowKit

/-- How the number of a set of places ends. -/
def NuSays (W0 : World) (A : Nat) (q : Aut) (sts : List ((Nat → Nat) × Int × Int)) (sv : Value) (mn : Nat) (mf : Lit → Option Nat) (Y : Nat → Nat) (W : World) (e : Ending) (W' : World) : Prop :=
  ∃ (i : Nat) (sts' : List ((Nat → Nat) × Int × Int)) (sa' : Option Addr) (sc' : Nat) (nf' : Lit → Option Nat), e = .returned (.int .i64 i) ∧ AuFr A q sv W W' ∧ AuAt W0 A q sts' (.slice sa' sts'.length sc') nf' mn mf W' ∧ (∀ (j : Nat) (x : (Nat → Nat) × Int × Int), sts[j]? = some x → sts'[j]? = some x) ∧ sts'.length ≤ sts.length + 1 ∧ ∃ x, sts'[i]? = some x ∧ ∀ r, r < 16 → x.1 r = Y r
theorem number_any (W0 : World) (A : Nat) (q : Aut) (sts : List ((Nat → Nat) × Int × Int)) (sa : Option Addr) (sc : Nat) (nf : Lit → Option Nat) (mn : Nat) (mf : Lit → Option Nat) (W : World) (h : AuAt W0 A q sts (.slice sa sts.length sc) nf mn mf W) (Y : Nat → Nat) (hY : ∀ r, Y r < 512) (hsm : sts.length < 100000) :
    Calls Tryz.prog 86 #[.pointer (some ⟨A, 0, none⟩), .agg (plA Y)] W (NuSays W0 A q sts (.slice sa sts.length sc) mn mf Y W) := by
  obtain ⟨l, hl⟩ := pl_key Y (fun r => by have := hY r; omega)
  cases hi : nf l with
  | some i =>
    refine (number_known W0 A q sts _ nf mn mf W h Y l hl i hi).mono ?_
    rintro e W' ⟨rfl, hB⟩
    obtain ⟨x, hx, hk⟩ := h.num' l i hi
    exact ⟨i, sts, sa, sc, nf, rfl, ⟨hB.size, fun j hj _ _ _ _ => hB.block j hj⟩, h.next hB, fun _ _ hh => hh, Nat.le_succ _, x, hx, plA_inj (Value.agg.inj (pl_law.inj hk hl))⟩
  | none =>
    refine (number_new W0 A q sts sa sc nf mn mf W h Y hY l hl hi hsm).mono ?_
    rintro e W' ⟨rfl, hF, sa', sc', nf', hA⟩
    refine ⟨sts.length, sts ++ [(Y, jdg q.dflt q.rs Y 0)], sa', sc', nf', rfl, hF, ?_, fun j x hj => ?_, ?_, (Y, jdg q.dflt q.rs Y 0), by simp, fun _ _ => rfl⟩
    · rw [List.length_append]
      exact hA
    · rw [List.getElem?_append_left (List.getElem?_eq_some_iff.1 hj).1]
      exact hj
    · rw [List.length_append]
      exact Nat.le_refl _
end Go.Proofs.YtllcbnfmihfaaaaGreatDoor
namespace Go.Proofs.YtllcbnfmihfaaaaGreatDoor
open Go.RowKit

theorem stK : Maps.Keyed Tryz.prog 9 := Maps.string_keyed Tryz.underlying9
theorem st_keyM (l : List UInt8) (hb : l.length ≤ maxLen) : keyOf Tryz.prog 9 (.string ⟨l.toArray⟩) = some (.string l) := by
  have hs : (⟨l.toArray⟩ : ByteArray).size ≤ maxLen := by
    show l.toArray.size ≤ maxLen
    rw [List.size_toArray]
    exact hb
  simp [keyOf, mapKey, Tryz.underlying9, hs]
theorem st_key (l : List UInt8) (hb : l.length ≤ 1000000000) : keyOf Tryz.prog 9 (.string ⟨l.toArray⟩) = some (.string l) := st_keyM l (by unfold maxLen; omega)
/-- The letter of a step. -/
def ltrF (lf : Lit → Option Nat) (key : List UInt8) (ix : Bool) : Nat := if ix = true then 1 else (lf (.string key)).getD 0
set_option maxRecDepth 100000 in
set_option maxHeartbeats 1000000 in
theorem letterOf_any (W0 : World) (A : Nat) (q : Aut) (sts : List ((Nat → Nat) × Int × Int)) (sv : Value) (nf : Lit → Option Nat) (mn : Nat) (mf : Lit → Option Nat) (W : World) (h : AuAt W0 A q sts sv nf mn mf W) (key : List UInt8) (ix : Bool) (hb : key.length ≤ maxLen) :
    Calls Tryz.prog 194 #[.pointer (some ⟨A, 0, none⟩), .agg #[.string ⟨key.toArray⟩, .bool ix]] W fun e W' => e = .returned (.int .i64 (ltrF q.lf key ix)) ∧ Below W.heap.size W W' := by
  have hA : A < W.heap.size := (Array.getElem?_eq_some_iff.1 h.row).1
  have c2 : W.cell? ⟨A, 2, none⟩ = some (.map (some q.lm)) := cellOfHeap h.row 2
  have HL : Hid (ImAt (W.alloc (.cells #[.string ⟨key.toArray⟩, .bool ix] 259)) 9 q.lm q.ln q.lf) := h.letters.kept (World.grownBy_alloc W _ none) (by simp)
  have hlk := im_look HL.out stK Tryz.underlying159 (st_keyM key hb)
  clear h
  cases ix with
  | true =>
    clear hlk HL
    go_enter Tryz.func194, Tryz.ntmps194
    go_wp2
    go_ret
    exact ⟨rfl, (Below.refl _ _).alloc (Nat.le_refl _) _⟩
  | false =>
    obtain ⟨x, hx⟩ : ∃ x, x = (q.lf (.string key)).getD 0 := ⟨_, rfl⟩
    have HX0 : Hid (ltrF q.lf key false = x) := by rw [hx]; rfl
    have HX : Hid ((q.lf (.string key)).getD 0 = x) := hx.symm
    rw [HX0.out]
    clear hx HX0 hlk
    go_enter Tryz.func194, Tryz.ntmps194
    go_wp2
    have hS : (fun Z : World => Z.cell? ⟨A, 2, none⟩ = some (.map (some q.lm)) ∧ Z.cell? ⟨W.heap.size, 0, none⟩ = some (.string ⟨key.toArray⟩) ∧ ImAt Z 9 q.lm q.ln q.lf) { (W.alloc (.cells #[.string ⟨key.toArray⟩, .bool false] 259)) with drawn := (W.alloc (.cells #[.string ⟨key.toArray⟩, .bool false] 259)).drawn + 1 } := ⟨((((Below.refl W.heap.size W).alloc (Nat.le_refl _) (.cells #[.string ⟨key.toArray⟩, .bool false] 259)).cell (p := ⟨A, 2, none⟩) hA).trans c2 :), cellOfHeap (heap_new W _) 0, HL.out⟩
    refine wp_region_held (S := fun Z => Z.cell? ⟨A, 2, none⟩ = some (.map (some q.lm)) ∧ Z.cell? ⟨W.heap.size, 0, none⟩ = some (.string ⟨key.toArray⟩) ∧ ImAt Z 9 q.lm q.ln q.lf) (by kernel_rfl) ?_
    refine tkH 0 7 (.pointer (some ⟨A, 0, none⟩)) rfl (by kernel_rfl) (fun _ _ _ h => h) (fun Z hZ => by kernel_rfl) hS ?_
    refine tkH 1 8 (.pointer (some ⟨A, 0, none⟩)) rfl (by kernel_rfl) (fun _ _ _ h => h) (fun Z hZ => by kernel_rfl) hS ?_
    refine tkH 2 9 (.pointer (some ⟨A, 2, none⟩)) rfl (by kernel_rfl) (fun _ _ _ h => h) (fun Z hZ => by kernel_rfl) hS ?_
    refine tkH 3 10 (.map (some q.lm)) rfl (by kernel_rfl) (fun _ _ _ h => h) (fun Z hZ => ?y3) hS ?_
    case y3 => (have z1 := hZ.1; go_simp)
    refine tkH 4 11 (.pointer (some ⟨W.heap.size, 0, none⟩)) rfl (by kernel_rfl) (fun _ _ _ h => h) (fun Z hZ => by kernel_rfl) hS ?_
    refine tkH 5 12 (.string ⟨key.toArray⟩) rfl (by kernel_rfl) (fun _ _ _ h => h) (fun Z hZ => ?y5) hS ?_
    case y5 => (have z2 := hZ.2.1; go_simp)
    refine tkH 6 13 (.int .i64 x) rfl (by kernel_rfl) (fun _ _ _ h => h) (fun Z hZ => ?y6) hS ?_
    case y6 => (have z3 := im_look hZ.2.2 stK Tryz.underlying159 (st_keyM key hb); rw [HX.out] at z3; go_simp)
    refine tkH 7 4 (.int .i64 x) rfl (by kernel_rfl) (fun _ _ _ h => h) (fun Z hZ => by kernel_rfl) hS ?_
    refine wpAnyH_done (by kernel_rfl) ?_ _
    go_simp
    go_wp2
    go_ret
    exact ⟨rfl, ((Below.refl _ _).alloc (Nat.le_refl _) _).drew⟩
end Go.Proofs.YtllcbnfmihfaaaaGreatDoor
namespace Go.Proofs.YtllcbnfmihfaaaaGreatDoor
open Go.RowKit

theorem run_loadVar_at {P : Program} (w : World) (g o : Nat) (ty : TypeId) (O : Array Value) (d : TypeDesc) (hc : ∀ (j : Nat) (u : Value), O[j]? = some u → w.cell? ⟨g, o + j, none⟩ = some u)
    (hu : P.underlying ty = some d) (hd : (match d with | .struct _ | .array _ _ => true | _ => false) = true) (hi : (P.info? ty).map (·.size) = some O.size) :
    (loadVar ty ⟨g, o, none⟩).run P w = .ok (.agg O) w := by
  have hl : (loadCells ⟨g, o, none⟩ O.toList.length).run P w = .ok O.toList.toArray w :=
    run_loadCells_list (P := P) w ⟨g, o, none⟩ O.toList (fun j u hv => by
      have hadd : (⟨g, o, none⟩ : Addr).add j = ⟨g, o + j, none⟩ := by unfold Addr.add; split <;> simp_all
      rw [hadd]
      exact hc j u (by simpa using hv))
  cases hq : P.info? ty with
  | none => simp [hq] at hi
  | some i =>
    have hs : i.size = O.size := by simpa [hq] using hi
    have hagg : (isAgg ty).run P w = .ok true w := by
      unfold isAgg
      rw [Sem.run_bind, run_underlying hu w]
      cases d <;> simp_all
    simp only [Array.length_toList, Array.toArray_toList] at hl
    simp [loadVar, Sem.run_bind, hagg, sizeOf, typeInfo, hq, hs, hl]
theorem wp_load_at {P : Program} {o : Oper} {a : Act} {w : World} {K : Act → World → Prop} {Q : Exit → Act → World → Prop} (ty : TypeId) (x : Operand) (ho : o.op = .load ty x)
    (g k : Nat) (hx : a.eval x = .pointer (some ⟨g, k, none⟩)) (O : Array Value) (d : TypeDesc) (hc : ∀ (j : Nat) (u : Value), O[j]? = some u → w.cell? ⟨g, k + j, none⟩ = some u)
    (hu : P.underlying ty = some d) (hd : (match d with | .struct _ | .array _ _ => true | _ => false) = true) (hi : (P.info? ty).map (·.size) = some O.size)
    (h : K (a.put o.dst (.agg O)) w) : o.wp P a w K Q := by
  unfold Oper.wp execOp
  simp only [ho, hx, Instr.loadAt, Instr.sureAddr, Sem.run_bind, Sem.run_pure, Result.andThen_ok, run_loadVar_at w g k ty O d hc hu hd hi]
  exact h
/-- A part of a row loaded, guarded or not. -/
theorem wpList_load_at {P : Program} {ops : Array Oper} {rest : List Oper} {o : Oper} {a : Act} {w : World} {Q : Exit → Act → World → Prop} (ty : TypeId) (x : Operand) (ho : o.op = .load ty x) (hgd : Region.wanted o (yielded ops a.tmps) = true)
    (g k : Nat) (hx : a.eval x = .pointer (some ⟨g, k, none⟩)) (O : Array Value) (d : TypeDesc) (hc : ∀ (j : Nat) (u : Value), O[j]? = some u → w.cell? ⟨g, k + j, none⟩ = some u)
    (hu : P.underlying ty = some d) (hd : (match d with | .struct _ | .array _ _ => true | _ => false) = true) (hi : (P.info? ty).map (·.size) = some O.size)
    (h : wpList P ops Q rest (a.put o.dst (.agg O)) w) : wpList P ops Q (o :: rest) a w :=
  wpList_step fun K hK => by rw [if_pos hgd]; exact wp_load_at ty x ho g k hx O d hc hu hd hi (hK _ _ h)
theorem yatA {P : Program} {ev : Operand → Value} {W : World} {o : Oper} (ty : TypeId) (x : Operand) (ho : o.op = .load ty x)
    (g k : Nat) (hx : ev x = .pointer (some ⟨g, k, none⟩)) (O : Array Value) (d : TypeDesc) (hc : ∀ (j : Nat) (u : Value), O[j]? = some u → W.cell? ⟨g, k + j, none⟩ = some u)
    (hu : P.underlying ty = some d) (hd : (match d with | .struct _ | .array _ _ => true | _ => false) = true) (hi : (P.info? ty).map (·.size) = some O.size) :
    (execOp ev o).run P W = .ok (.value (.agg O)) W := by
  unfold execOp
  simp only [ho, hx, Instr.loadAt, Instr.sureAddr, Sem.run_bind, Sem.run_pure, Result.andThen_ok, run_loadVar_at W g k ty O d hc hu hd hi]
theorem stC_eq (x : (Nat → Nat) × Int × Int) : stC x = (stA x.1 x.2).toList := by simp [stC, stA]
theorem stA_size (Y : Nat → Nat) (x : Int × Int) : (stA Y x).size = 18 := by simp [stA, plA_size]
theorem stA_all (Y : Nat → Nat) (x : Int × Int) : (stA Y x).all (·.oneCell') = true := by rw [← Array.all_toList, List.all_eq_true]; exact stA_one Y x
theorem flat_at (sts : List ((Nat → Nat) × Int × Int)) : ∀ (i j : Nat) (x : (Nat → Nat) × Int × Int), sts[i]? = some x → j < 18 → (sts.flatMap stC)[i * 18 + j]? = (stA x.1 x.2)[j]? := by
  induction sts with
  | nil => intro i j x h; simp at h
  | cons y ys ih =>
    intro i j x h hj
    have hl : (stC y).length = 18 := by rw [stC_eq, Array.length_toList, stA_size]
    rw [List.flatMap_cons]
    cases i with
    | zero =>
      have e : y = x := by simpa using h
      subst e
      rw [List.getElem?_append_left (by omega), stC_eq]
      simp
    | succ i =>
      rw [List.getElem?_append_right (by omega), hl, show (i + 1) * 18 + j - 18 = i * 18 + j by omega]
      exact ih i j x (by simpa using h) hj
/-- Where a state lies. -/
theorem AuAt.state_at {W0 : World} {A : Nat} {q : Aut} {sts : List ((Nat → Nat) × Int × Int)} {sv : Value} {nf : Lit → Option Nat} {mn : Nat} {mf : Lit → Option Nat} {W : World} (h : AuAt W0 A q sts sv nf mn mf W) {i : Nat} {x : (Nat → Nat) × Int × Int} (hx : sts[i]? = some x) :
    ∃ g cap, sv = .slice (some ⟨g, 0, none⟩) sts.length cap ∧ g < W.heap.size ∧ g ≠ A ∧ ∀ (j : Nat) (u : Value), (stA x.1 x.2)[j]? = some u → W.cell? ⟨g, i * 18 + j, none⟩ = some u := by
  have hi : i < sts.length := (List.getElem?_eq_some_iff.1 hx).1
  rcases h.states.2 with ⟨_, h0⟩ | ⟨g, cap, cur, hv, hb, hg, hn, hm, hs, ht⟩
  · omega
  · refine ⟨g, cap, hv, (Array.getElem?_eq_some_iff.1 hg).1, (h.own g (by rw [hv]; rfl)).1, fun j u hu => ?_⟩
    have hj : j < 18 := by rw [← stA_size x.1 x.2]; exact (Array.getElem?_eq_some_iff.1 hu).1
    rw [cell_of_row W g (i * 18 + j) cur _ _ hg]
    have e := flat_at sts i j x hx hj
    rw [hu, ← ht, List.getElem?_take_of_lt (by omega)] at e
    simpa using e
theorem infoSt2 (Y : Nat → Nat) (x : Int × Int) : (Tryz.prog.info? 240).map (·.size) = some (stA Y x).size := by rw [stA_size]; kernel_rfl
set_option maxRecDepth 100000 in
set_option maxHeartbeats 2000000 in
theorem verdict_any (W0 : World) (A : Nat) (q : Aut) (sts : List ((Nat → Nat) × Int × Int)) (sv : Value) (nf : Lit → Option Nat) (mn : Nat) (mf : Lit → Option Nat) (W : World) (h : AuAt W0 A q sts sv nf mn mf W) (i : Nat) (x : (Nat → Nat) × Int × Int) (hx : sts[i]? = some x) :
    Calls Tryz.prog 154 #[.pointer (some ⟨A, 0, none⟩), .int .i64 i] W fun e W' => e = .returned (.tuple #[.int .i64 x.2.1, .int .i64 x.2.2]) ∧ Below W.heap.size W W' := by
  have hA : A < W.heap.size := (Array.getElem?_eq_some_iff.1 h.row).1
  obtain ⟨g, cap, rfl, hgl, hgA, hc⟩ := h.state_at hx
  have c20 : W.cell? ⟨A, 20, none⟩ = some (.slice (some ⟨g, 0, none⟩) sts.length cap) := cellOfHeap h.row 20
  have hil : (i : Int) < (sts.length : Int) := by have := (List.getElem?_eq_some_iff.1 hx).1; omega
  have HC : Hid (∀ (j : Nat) (u : Value), (stA x.1 x.2)[j]? = some u → W.cell? ⟨g, i * 18 + j, none⟩ = some u) := hc
  clear h hc hx
  go_enter Tryz.func154, Tryz.ntmps154
  go_wp2_with (first
    | (refine wpList_load_at 240 (.tmp 12) rfl (by simp [go_sem]) g (i * 18) rfl (stA x.1 x.2) _ HC.out Tryz.underlying240 rfl (infoSt2 x.1 x.2) ?_)
    | (refine wpList_store_row rfl 240 _ _ rfl W.heap.size (stA x.1 x.2) rfl rfl 240 #[.int .u16 0, .int .u16 0, .int .u16 0, .int .u16 0, .int .u16 0, .int .u16 0, .int .u16 0, .int .u16 0, .int .u16 0, .int .u16 0, .int .u16 0, .int .u16 0, .int .u16 0, .int .u16 0, .int .u16 0, .int .u16 0, .int .i64 0, .int .i64 0] (heap_new W _) (infoSt2 x.1 x.2) (by rw [stA_size]; rfl) (stA_all x.1 x.2) ?_; rw [World.setRow_alloc_new]))
  have HB : Hid (Below W.heap.size W (W.alloc (.cells (stA x.1 x.2) 240))) := (Below.refl _ _).alloc (Nat.le_refl _) _
  have r1 : (W.alloc (.cells (stA x.1 x.2) 240)).cell? ⟨W.heap.size, 16, none⟩ = some (.int .i64 x.2.1) := cellOfHeap (heap_new W _) 16
  have r2 : (W.alloc (.cells (stA x.1 x.2) 240)).cell? ⟨W.heap.size, 17, none⟩ = some (.int .i64 x.2.2) := cellOfHeap (heap_new W _) 17
  generalize W.alloc (.cells (stA x.1 x.2) 240) = V at *
  go_quiet (fail)
  go_wp2
  refine bodyPost_ret (results_tmp2 Tryz.results154 _ _ _) rfl ⟨rfl, HB.out.trans ⟨rfl, rfl, rfl, Nat.le_refl _, fun _ _ => rfl⟩⟩
end Go.Proofs.YtllcbnfmihfaaaaGreatDoor
namespace Go.Proofs.YtllcbnfmihfaaaaGreatDoor
open Go.RowKit

theorem wf64 (x : Nat) (h : x < 1000000000) : (Lit.int .i64 (x : Int)).wf = true := by
  have h1 : IntKind.i64.min = -9223372036854775808 := by kernel_rfl
  have h2 : IntKind.i64.max = 9223372036854775807 := by kernel_rfl
  simp [Lit.wf, h1, h2]
  omega
def mvA (f x : Nat) : Array Value := #[.int .i64 f, .int .i64 x]
theorem mv_key (f x : Nat) (hf : f < 1000000000) (hx : x < 1000000000) : ∃ l, keyOf Tryz.prog 320 (.agg (mvA f x)) = some l := by
  obtain ⟨d, hd⟩ : ∃ d, Tryz.prog.types.size + 1 = d + 2 := ⟨Tryz.prog.types.size - 1, by have : 1 ≤ Tryz.prog.types.size := Nat.le_of_ble_eq_true (by kernel_rfl); omega⟩
  have h1 : Tryz.prog.keyType 320 = true := by kernel_rfl
  have h2 : Tryz.prog.cellsOf 320 = 2 := by kernel_rfl
  have h3 : Tryz.prog.cellsOf 3 = 1 := by kernel_rfl
  have hfm : (Value.agg (mvA f x)).formed Tryz.prog 320 = true := by
    simp only [Value.formed, Tryz.underlying320]
    rw [h2]
    rfl
  have hone : ∀ y : Nat, y < 1000000000 → Tryz.prog.keyLits (d + 1) 3 [.int .i64 y] = some [.int .i64 y] := by
    intro y hy
    unfold Program.keyLits
    simp only [Tryz.underlying3]
    rw [if_pos ⟨trivial, wf64 _ hy⟩]
  have hl : Tryz.prog.keyLits (d + 2) 320 (mvA f x).toList = some [.int .i64 f, .int .i64 x] := by
    unfold Program.keyLits
    simp only [Tryz.underlying320]
    rw [if_pos ⟨by rw [h2]; rfl, by kernel_rfl⟩]
    simp only [List.mapM_cons, List.mapM_nil, h3, mvA]
    have e1 := hone f hf
    have e2 := hone x hx
    simp [e1, e2]
  refine ⟨.string (keyBytes [.int .i64 f, .int .i64 x]), ?_⟩
  unfold keyOf
  simp only [Tryz.underlying320]
  have e : (Value.agg (mvA f x)).cells = mvA f x := rfl
  rw [h1, hfm, hd, if_pos (by rfl), e, hl, Option.map_some]
/-- What the moves that were asked for say. -/
def MvOK (q : Aut) (sts : List ((Nat → Nat) × Int × Int)) (mf : Lit → Option Nat) : Prop :=
  ∀ (f x : Nat) (l : Lit) (k : Nat), keyOf Tryz.prog 320 (.agg (mvA f x)) = some l → mf l = some k → ∃ s t Y, sts[f]? = some s ∧ sts[k]? = some t ∧ WdY q.rs.length q.st (gonP q.st (q.tk x) s.1 q.rs.length) Y ∧ ∀ r, r < 16 → t.1 r = Y r
/-- How a step ends. -/
def NxSays (W0 : World) (A : Nat) (q : Aut) (sts : List ((Nat → Nat) × Int × Int)) (P : Nat → Nat) (x mn : Nat) (e : Ending) (W' : World) : Prop :=
  ∃ (i : Nat) (sts' : List ((Nat → Nat) × Int × Int)) (sa' : Option Addr) (sc' : Nat) (nf' : Lit → Option Nat) (mn' : Nat) (mf' : Lit → Option Nat), e = .returned (.int .i64 i) ∧ AuAt W0 A q sts' (.slice sa' sts'.length sc') nf' mn' mf' W' ∧ MvOK q sts' mf' ∧ mn' ≤ mn + 1 ∧ (∀ (j : Nat) (x : (Nat → Nat) × Int × Int), sts[j]? = some x → sts'[j]? = some x) ∧ sts'.length ≤ sts.length + 1 ∧ ∃ t Y, sts'[i]? = some t ∧ WdY q.rs.length q.st (gonP q.st (q.tk x) P q.rs.length) Y ∧ ∀ r, r < 16 → t.1 r = Y r
set_option maxRecDepth 100000 in
set_option maxHeartbeats 2000000 in
theorem next_known (W0 : World) (A : Nat) (q : Aut) (sts : List ((Nat → Nat) × Int × Int)) (sv : Value) (nf : Lit → Option Nat) (mn : Nat) (mf : Lit → Option Nat) (W : World) (h : AuAt W0 A q sts sv nf mn mf W) (f : Nat) (key : List UInt8) (ix : Bool) (hb : key.length ≤ maxLen) (x : Nat) (hx : ltrF q.lf key ix = x) (l : Lit) (hl : keyOf Tryz.prog 320 (.agg (mvA f x)) = some l) (i : Nat) (hi : mf l = some i) :
    Calls Tryz.prog 153 #[.pointer (some ⟨A, 0, none⟩), .int .i64 f, .agg #[.string ⟨key.toArray⟩, .bool ix]] W fun e W' => e = .returned (.int .i64 i) ∧ Below W.heap.size W W' := by
  have HA : Hid (AuAt W0 A q sts sv nf mn mf (W.alloc (.cells #[.string ⟨key.toArray⟩, .bool ix] 259))) := h.next ((Below.refl _ _).alloc (Nat.le_refl _) _)
  have HW : Hid (Below W.heap.size W (W.alloc (.cells #[.string ⟨key.toArray⟩, .bool ix] 259))) := (Below.refl _ _).alloc (Nat.le_refl _) _
  have cL := letterOf_any W0 A q sts sv nf mn mf _ HA.out key ix hb
  rw [hx] at cL
  clear h
  go_enter Tryz.func153, Tryz.ntmps153
  go_wp2_with (first
    | (go_at_call 194; refine cL.mono ?_; clear cL; rintro e w2 ⟨rfl, hB2⟩; have HA2 : Hid (AuAt W0 A q sts sv nf mn mf w2) := HA.out.next hB2; have HW2 : Hid (Below W.heap.size W w2) := HW.out.trans (hB2.mono HW.out.size); clear hB2 HA HW))
  have HA3 : Hid (AuAt W0 A q sts sv nf mn mf (w2.alloc (.cells (mvA f x) 320))) := HA2.out.next ((Below.refl _ _).alloc (Nat.le_refl _) _)
  have HW3 : Hid (Below W.heap.size W (w2.alloc (.cells (mvA f x) 320))) := HW2.out.alloc HW2.out.size _
  have HB3 : Hid ((w2.alloc (.cells (mvA f x) 320)).heap[w2.heap.size]? = some (.cells (mvA f x) 320)) := heap_new _ _
  have hS : (fun Z : World => Z.cell? ⟨A, 22, none⟩ = some (.map (some q.mb)) ∧ Z.heap[w2.heap.size]? = some (.cells (mvA f x) 320) ∧ ImAt Z 320 q.mb mn mf) { (w2.alloc (.cells (mvA f x) 320)) with drawn := (w2.alloc (.cells (mvA f x) 320)).drawn + 1 } := ⟨cellOfHeap HA3.out.row 22, HB3.out, HA3.out.moves⟩
  refine wp_region_held (S := fun Z => Z.cell? ⟨A, 22, none⟩ = some (.map (some q.mb)) ∧ Z.heap[w2.heap.size]? = some (.cells (mvA f x) 320) ∧ ImAt Z 320 q.mb mn mf) (by kernel_rfl) ?_
  refine tkH 0 16 (.pointer (some ⟨A, 0, none⟩)) rfl (by kernel_rfl) (fun _ _ _ h => h) (fun Z hZ => by kernel_rfl) hS ?_
  refine tkH 1 17 (.pointer (some ⟨A, 0, none⟩)) rfl (by kernel_rfl) (fun _ _ _ h => h) (fun Z hZ => by kernel_rfl) hS ?_
  refine tkH 2 18 (.pointer (some ⟨A, 22, none⟩)) rfl (by kernel_rfl) (fun _ _ _ h => h) (fun Z hZ => by kernel_rfl) hS ?_
  refine tkH 3 19 (.map (some q.mb)) rfl (by kernel_rfl) (fun _ _ _ h => h) (fun Z hZ => ?y3) hS ?_
  case y3 => (have z1 := hZ.1; go_simp)
  refine tkH 4 20 (.agg (mvA f x)) rfl (by kernel_rfl) (fun _ _ _ h => h) (fun Z hZ => ?y4) hS ?_
  case y4 => exact yrowA 320 (.tmp 7) rfl w2.heap.size rfl _ _ _ _ hZ.2.1 Tryz.underlying320 rfl (by kernel_rfl)
  refine tkH 5 21 (.tuple #[.int .i64 i, .bool true]) rfl (by kernel_rfl) (fun _ _ _ h => h) (fun Z hZ => ?y5) hS ?_
  case y5 => (have z2 := im_look_ok hZ.2.2 mvK Tryz.underlying161 hl; rw [hi] at z2; go_simp)
  refine tkH 6 15 (.tuple #[.int .i64 i, .bool true]) rfl (by kernel_rfl) (fun _ _ _ h => h) (fun Z hZ => by kernel_rfl) hS ?_
  refine tkH 7 22 (.int .i64 i) rfl (by kernel_rfl) (fun _ _ _ h => h) (fun Z hZ => by kernel_rfl) hS ?_
  refine tkH 8 23 (.bool true) rfl (by kernel_rfl) (fun _ _ _ h => h) (fun Z hZ => by kernel_rfl) hS ?_
  refine tkH 9 8 (.int .i64 i) rfl (by kernel_rfl) (fun _ _ _ h => h) (fun Z hZ => by kernel_rfl) hS ?_
  refine tkH 10 9 (.bool true) rfl (by kernel_rfl) (fun _ _ _ h => h) (fun Z hZ => by kernel_rfl) hS ?_
  refine wpAnyH_done (by kernel_rfl) ?_ _
  go_simp
  go_wp2
  go_ret
  exact ⟨rfl, HW3.out.drew⟩
end Go.Proofs.YtllcbnfmihfaaaaGreatDoor
