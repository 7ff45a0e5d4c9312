import Derived.Test.YtllcbnfmihfaaaaGreatDoorLq17
import Derived.Test.YtllcbnfmihfaaaaGreatDoorLq27
import Derived.Test.YtllcbnfmihfaaaaGreatDoorLq32
import Derived.Test.YtllcbnfmihfaaaaGreatDoorLq39
namespace Go.Proofs.YtllcbnfmihfaaaaGreatDoor
open Go.RowKit Go.Shelf

set_option maxRecDepth 100000 in
set_option maxHeartbeats 4000000 in
theorem check_any : Says2 98 chkE chkN := by
  intro c w hc hg
  have HS : Hid (c.arr.size = 11) := c.size
  have HX : Hid (BoxAt w c (w.alloc (.cells c.arr 45))) := boxAt_mk w c
  have cR := cfgRead_any c _ (HX.out.cfg hc) (hg.below HX.out.below)
  rw [(pro_chk c).1, (pro_chk c).2] at cR
  clear hc hg
  go_enter Tryz.func98, Tryz.ntmps98
  go_wp2_with (first
    | (refine wpList_load_row rfl 45 _ rfl _ rfl _ _ _ _ HX.out.box Tryz.underlying45 rfl (infoCfg HS.out) ?_)
    | fail)
  refine cR.mono ?_
  clear cR
  rintro e w2 ⟨A, rfl, hA, hB2⟩
  have HA1 : Hid (A.size = 38) := hA.1
  have HA2 : Hid (A.all (·.oneCell') = true) := hA.2.1
  have HZ : Hid (zSet.size = A.size) := by show _ = _; rw [hA.1]; exact zSet_size
  have HX2 : Hid (BoxAt w c w2) := HX.out.step hB2
  clear hA hB2 HX
  go_wp2_with (first
    | (refine wpList_allocSet rfl rfl _ rfl w2.heap.size rfl ?_)
    | (refine wpList_store_row rfl 110 _ _ rfl w2.heap.size A rfl rfl 110 zSet (heap_new w2 _) (infoSet' HA1.out) HZ.out HA2.out ?_; rw [World.setRow_alloc_new]))
  go_ret2
  exact ⟨rfl, HX2.out.below.alloc HX2.out.below.size _⟩
end Go.Proofs.YtllcbnfmihfaaaaGreatDoor
namespace Go.Proofs.YtllcbnfmihfaaaaGreatDoor
open Go.RowKit

/-- The row of an automaton that is being made. -/
def autD (q : Aut) (st : Nat → Nat) (tv sv : Value) : Array Value := #[.slice q.ra q.rs.length q.rc, .int .i64 q.dflt, .map (some q.lm)] ++ plA st ++ #[tv, sv, .map (some q.nb), .map (some q.mb)]
theorem autD_all (q : Aut) (sv : Value) : autC q sv = autD q q.st (.slice (some ⟨q.tb, 0, none⟩) q.L q.tc) sv := by kernel_rfl
theorem autD_take (q : Aut) (st : Nat → Nat) (tv sv tv' : Value) : (autD q st tv sv).setIfInBounds 19 tv' = autD q st tv' sv := by kernel_rfl
theorem autD_stay (q : Aut) (st : Nat → Nat) (tv sv : Value) (r v : Nat) (hr : r < 16) : (autD q st tv sv).setIfInBounds (3 + r) (.int .u16 v) = autD q (fun i => if i = r then v else st i) tv sv := by
  have h := congrArg Array.toList (plA_set st r v)
  rw [Array.toList_setIfInBounds] at h
  apply Array.ext'
  unfold autD
  rw [Array.toList_setIfInBounds]
  simp only [Array.toList_append]
  rw [List.set_append_left _ _ (by have := plA_size st; simp; omega), List.set_append_right _ _ (by simp), ← h]
  have e : 3 + r - [Value.slice q.ra q.rs.length q.rc, Value.int IntKind.i64 q.dflt, Value.map (some q.lm)].length = r := by simp
  rw [e]
theorem autD_at (q : Aut) (st : Nat → Nat) (tv sv : Value) (r : Nat) (hr : r < 16) : (autD q st tv sv)[3 + r]? = some (.int .u16 (st r)) := by
  have hs := plA_size st
  unfold autD
  rw [Array.getElem?_append_left (by simp; omega), Array.getElem?_append_right (by simp)]
  have e : 3 + r - #[Value.slice q.ra q.rs.length q.rc, Value.int IntKind.i64 q.dflt, Value.map (some q.lm)].size = r := by simp
  rw [e]
  exact plA_at st r hr
/-- The cells of what the letters take. -/
structure TkC (cur : Array Value) (L : Nat) (tk : Nat → Nat → Nat) : Prop where
  size : cur.size = L * 16
  at_ : ∀ x r, x < L → r < 16 → cur[x * 16 + r]? = some (.int .u16 (tk x r))
theorem TkC.set {cur : Array Value} {L : Nat} {tk : Nat → Nat → Nat} (h : TkC cur L tk) (x r v : Nat) (hx : x < L) (hr : r < 16) : TkC (cur.setIfInBounds (x * 16 + r) (.int .u16 v)) L (fun y i => if y = x ∧ i = r then v else tk y i) := by
  refine ⟨by rw [Array.size_setIfInBounds, h.size], fun y i hy hi => ?_⟩
  rw [Array.getElem?_setIfInBounds]
  by_cases e : y = x ∧ i = r
  · rw [if_pos (by rw [e.1, e.2]), if_pos (by rw [h.size]; omega), if_pos e]
  · rw [if_neg (by omega), if_neg e]
    exact h.at_ y i hy hi
/-- Where the laying of patterns stands. -/
structure LyAt (W : World) (A tb L : Nat) (q : Aut) (sv : Value) (st : Nat → Nat) (tk : Nat → Nat → Nat) (V : World) : Prop where
  row : V.heap[A]? = some (.cells (autD q st (.slice (some ⟨tb, 0, none⟩) L L) sv) 168)
  tks : ∃ cur, V.heap[tb]? = some (.cells cur 164) ∧ TkC cur L tk
  os : V.os = W.os
  tape : V.tape = W.tape
  output : V.output = W.output
  size : W.heap.size ≤ V.heap.size
  block : ∀ k, k < W.heap.size → k ≠ A → V.heap[k]? = W.heap[k]?
theorem LyAt.next {W V V' : World} {A tb L : Nat} {q : Aut} {sv : Value} {st : Nat → Nat} {tk : Nat → Nat → Nat} (h : LyAt W A tb L q sv st tk V) (hb : Below V.heap.size V V') : LyAt W A tb L q sv st tk V' := by
  obtain ⟨cur, t1, t2⟩ := h.tks
  exact ⟨(hb.block _ (Array.getElem?_eq_some_iff.1 h.row).1).trans h.row, ⟨cur, (hb.block _ (Array.getElem?_eq_some_iff.1 t1).1).trans t1, t2⟩, hb.os.trans h.os, hb.tape.trans h.tape, hb.output.trans h.output, Nat.le_trans h.size hb.size, fun k h1 h2 => (hb.block k (Nat.lt_of_lt_of_le h1 h.size)).trans (h.block k h1 h2)⟩
theorem size_dsc (V : World) (p : Addr) (v : Value) : (V.drew.setCell p v).heap.size = V.heap.size := by
  have e : (V.drew.setCell p v).heap.size = V.drew.heap.size := by simp [World.setCell]
  exact e
/-- A stay more. -/
theorem LyAt.stays {W V : World} {A tb L : Nat} {q : Aut} {sv : Value} {st : Nat → Nat} {tk : Nat → Nat → Nat} (h : LyAt W A tb L q sv st tk V) (hne : A ≠ tb) (r v : Nat) (hr : r < 16) :
    LyAt W A tb L q sv (fun i => if i = r then v else st i) tk (V.drew.setCell ⟨A, 3 + r, none⟩ (.int .u16 v)) := by
  obtain ⟨cur, t1, t2⟩ := h.tks
  have h1 := heap_setCell_same V.drew A (3 + r) _ _ (.int .u16 v) h.row
  rw [autD_stay q st _ sv r v hr] at h1
  refine ⟨h1, ⟨cur, (Below.heap_setCell V.drew _ _ _ (by simpa using hne.symm)).trans t1, t2⟩, h.os, h.tape, h.output, by rw [size_dsc]; exact h.size, fun k h2 h3 => (Below.heap_setCell V.drew _ _ _ (by simpa using h3)).trans (h.block k h2 h3)⟩
/-- A letter that takes more. -/
theorem LyAt.took {W V : World} {A tb L : Nat} {q : Aut} {sv : Value} {st : Nat → Nat} {tk : Nat → Nat → Nat} (h : LyAt W A tb L q sv st tk V) (hne : A ≠ tb) (htb : W.heap.size ≤ tb) (x r v : Nat) (hx : x < L) (hr : r < 16) :
    LyAt W A tb L q sv st (fun y i => if y = x ∧ i = r then v else tk y i) (V.drew.setCell ⟨tb, x * 16 + r, none⟩ (.int .u16 v)) := by
  obtain ⟨cur, t1, t2⟩ := h.tks
  exact ⟨(Below.heap_setCell V.drew _ _ _ (by simpa using hne)).trans h.row, ⟨_, heap_setCell_same V.drew tb (x * 16 + r) _ _ (.int .u16 v) t1, t2.set x r v hx hr⟩, h.os, h.tape, h.output, by rw [size_dsc]; exact h.size, fun k h2 h3 => (Below.heap_setCell V.drew _ _ _ (by simp; omega)).trans (h.block k h2 h3)⟩
end Go.Proofs.YtllcbnfmihfaaaaGreatDoor
namespace Go.Proofs.YtllcbnfmihfaaaaGreatDoor
open Go.RowKit

theorem autD_2 (q : Aut) (st : Nat → Nat) (tv sv : Value) : (autD q st tv sv)[2]? = some (.map (some q.lm)) := by kernel_rfl
theorem autD_19 (q : Aut) (st : Nat → Nat) (tv sv : Value) : (autD q st tv sv)[19]? = some tv := by kernel_rfl
theorem Tryz.infoPlc : (Tryz.prog.info? 164).map (fun i => (i.zero, i.size, i.bytes)) = some (some (.agg (plA zPl)), 16, 32) := by kernel_rfl
theorem mk_tk (n : Nat) (h : n ≤ 128) (w : World) : (Instr.makeSlice 165 (.int .i64 (wrap64 (2 + (n : Int)))) (.int .i64 (wrap64 (2 + (n : Int))))).run Tryz.prog w = .ok (.slice (some ⟨w.heap.size, 0, none⟩) (2 + n) (2 + n)) (w.alloc (.cells (madeCells (plA zPl) ((2 + n) * 16)) 164)) := by
  obtain ⟨i, hi, h0, h1, h2⟩ := info_parts Tryz.infoPlc
  have e : ((2 + n : Nat) : Int).toNat = 2 + n := Int.toNat_natCast _
  have hr := run_makeSlice (P := Tryz.prog) (w := w) 165 164 i (.agg (plA zPl)) Tryz.underlying165 hi h0 .i64 .i64 ((2 + n : Nat) : Int) ((2 + n : Nat) : Int) (by omega) (Int.le_refl _) (by rw [e, h1]; omega) (by rw [h2]; omega) (by omega)
  rw [e, h1] at hr
  rw [wr2 n h]
  exact hr
end Go.Proofs.YtllcbnfmihfaaaaGreatDoor
namespace Go.Proofs.YtllcbnfmihfaaaaGreatDoor
open Go.RowKit

theorem made_tk (L : Nat) : TkC (madeCells (plA zPl) (L * 16)) L (fun _ _ => 0) := by
  refine ⟨size_madeCells _ _, fun x r hx hr => ?_⟩
  have hlt : x * 16 + r < L * 16 := by omega
  have hm : (x * 16 + r) % 16 < 16 := Nat.mod_lt _ (by omega)
  have h := plA_at zPl ((x * 16 + r) % 16) hm
  have e : (plA zPl)[(x * 16 + r) % (plA zPl).size]! = .int .u16 0 := by
    rw [plA_size, getElem!_def, h]
    rfl
  unfold madeCells
  rw [Array.getElem?_map, Array.getElem?_range, if_pos hlt, Option.map_some, e]
  rfl
/-- The letters' slice is made and laid into the row. -/
theorem lyAt_start {W : World} {A L : Nat} {q : Aut} {sv : Value} (hrow : W.heap[A]? = some (.cells (autD q (fun _ => 0) (.slice none 0 0) sv) 168)) :
    LyAt W A W.heap.size L q sv (fun _ => 0) (fun _ _ => 0) ((W.alloc (.cells (madeCells (plA zPl) (L * 16)) 164)).setCell ⟨A, 19, none⟩ (.slice (some ⟨W.heap.size, 0, none⟩) L L)) := by
  have lA := (Array.getElem?_eq_some_iff.1 hrow).1
  have h1 := heap_setCell_same (W.alloc (.cells (madeCells (plA zPl) (L * 16)) 164)) A 19 _ _ (.slice (some ⟨W.heap.size, 0, none⟩) L L) ((Below.heap_alloc W _ A lA).trans hrow)
  rw [autD_take] at h1
  refine ⟨h1, ⟨_, (Below.heap_setCell _ _ _ _ (by simp; omega)).trans (heap_new W _), made_tk L⟩, rfl, rfl, rfl, ?_, fun k h2 h3 => (Below.heap_setCell _ _ _ _ (by simpa using h3)).trans (Below.heap_alloc W _ k h2)⟩
  have e : ((W.alloc (.cells (madeCells (plA zPl) (L * 16)) 164)).setCell ⟨A, 19, none⟩ (.slice (some ⟨W.heap.size, 0, none⟩) L L)).heap.size = (W.alloc (.cells (madeCells (plA zPl) (L * 16)) 164)).heap.size := by simp [World.setCell]
  rw [e, World.size_alloc]
  omega
end Go.Proofs.YtllcbnfmihfaaaaGreatDoor
namespace Go.Proofs.YtllcbnfmihfaaaaGreatDoor
open Go.RowKit

theorem autD_0 (q : Aut) (st : Nat → Nat) (tv sv : Value) : (autD q st tv sv)[0]? = some (.slice q.ra q.rs.length q.rc) := by kernel_rfl
theorem LyAt.low {W0 W V : World} {A tb L : Nat} {q : Aut} {sv : Value} {st : Nat → Nat} {tk : Nat → Nat → Nat} (h : LyAt W A tb L q sv st tk V) (h0 : Below W0.heap.size W0 W) (hA : W0.heap.size ≤ A) : Below W0.heap.size W0 V :=
  ⟨h.os.trans h0.os, h.tape.trans h0.tape, h.output.trans h0.output, Nat.le_trans h0.size h.size, fun i hi => (h.block i (Nat.lt_of_lt_of_le hi h0.size) (by omega)).trans (h0.block i hi)⟩
theorem LyAt.names {W V : World} {A tb L : Nat} {q : Aut} {sv : Value} {st : Nat → Nat} {tk : Nat → Nat → Nat} {lm : Nat} {ks : List (List UInt8)} (h : LyAt W A tb L q sv st tk V) (hm : ImK W lm ks) (hne : A ≠ lm) : ImK V lm ks :=
  hm.kept (row := some A) ⟨h.os, h.tape, h.output, h.size, fun i hi hn => h.block i hi (by simpa using hn)⟩ (by simpa using hne.symm)
theorem LyAt.c2 {W V : World} {A tb L : Nat} {q : Aut} {sv : Value} {st : Nat → Nat} {tk : Nat → Nat → Nat} (h : LyAt W A tb L q sv st tk V) : V.cell? ⟨A, 2, none⟩ = some (.map (some q.lm)) := (cell_of_row V A 2 _ _ _ h.row).trans (autD_2 _ _ _ _)
theorem LyAt.c19 {W V : World} {A tb L : Nat} {q : Aut} {sv : Value} {st : Nat → Nat} {tk : Nat → Nat → Nat} (h : LyAt W A tb L q sv st tk V) : V.cell? ⟨A, 19, none⟩ = some (.slice (some ⟨tb, 0, none⟩) L L) := (cell_of_row V A 19 _ _ _ h.row).trans (autD_19 _ _ _ _)
theorem LyAt.cs {W V : World} {A tb L : Nat} {q : Aut} {sv : Value} {st : Nat → Nat} {tk : Nat → Nat → Nat} (h : LyAt W A tb L q sv st tk V) (r : Nat) (hr : r < 16) : V.cell? ⟨A, 3 + r, none⟩ = some (.int .u16 (st r)) ∧ V.frozen? ⟨A, 3 + r, none⟩ = false :=
  ⟨(cell_of_row V A (3 + r) _ _ _ h.row).trans (autD_at _ _ _ _ r hr), frozen_of_row V A (3 + r) _ _ h.row⟩
theorem LyAt.ct {W V : World} {A tb L : Nat} {q : Aut} {sv : Value} {st : Nat → Nat} {tk : Nat → Nat → Nat} (h : LyAt W A tb L q sv st tk V) (x r : Nat) (hx : x < L) (hr : r < 16) : V.cell? ⟨tb, x * 16 + r, none⟩ = some (.int .u16 (tk x r)) ∧ V.frozen? ⟨tb, x * 16 + r, none⟩ = false := by
  obtain ⟨cur, h1, h2⟩ := h.tks
  exact ⟨(cell_of_row V tb (x * 16 + r) _ _ _ h1).trans (h2.at_ x r hx hr), frozen_of_row V tb (x * 16 + r) _ _ h1⟩
theorem stU_true (st : Nat → Nat) (k j : Nat) : (fun i => if i = k then st k ||| 2 ^ j else st i) = stU st k j true := by
  funext i
  unfold stU
  by_cases h : i = k
  · subst h
    rw [if_pos rfl, if_pos ⟨rfl, rfl⟩]
  · rw [if_neg h, if_neg (fun e => h e.1)]
theorem stU_false (st : Nat → Nat) (k j : Nat) : stU st k j false = st := by
  funext i
  unfold stU
  rw [if_neg (by simp)]
theorem LyAt.alike {W V : World} {A tb L : Nat} {q : Aut} {sv : Value} {st : Nat → Nat} {tk tk' : Nat → Nat → Nat} (h : LyAt W A tb L q sv st tk V) (he : ∀ x r, x < L → tk' x r = tk x r) : LyAt W A tb L q sv st tk' V := by
  obtain ⟨cur, h1, h2, h3⟩ := h.tks
  exact ⟨h.row, ⟨cur, h1, h2, fun x r hx hr => by rw [he x r hx]; exact h3 x r hx hr⟩, h.os, h.tape, h.output, h.size, h.block⟩
/-- One letter took the place. -/
def tk1 (tk : Nat → Nat → Nat) (x k j : Nat) : Nat → Nat → Nat := fun y i => if y = x ∧ i = k then tk x k ||| 2 ^ j else tk y i
theorem LyAt.one {W V : World} {A tb L : Nat} {q : Aut} {sv : Value} {st : Nat → Nat} {tk : Nat → Nat → Nat} (h : LyAt W A tb L q sv st tk V) (hne : A ≠ tb) (htb : W.heap.size ≤ tb) (x k j : Nat) (hx : x < L) (hk : k < 16) :
    LyAt W A tb L q sv st (tk1 tk x k j) (V.drew.setCell ⟨tb, x * 16 + k, none⟩ (.int .u16 ((tk x k ||| 2 ^ j : Nat) : Int))) := h.took hne htb x k (tk x k ||| 2 ^ j) hx hk
/-- The letters below m took the place. -/
def tkm (tk : Nat → Nat → Nat) (m k j : Nat) : Nat → Nat → Nat := fun y => if y < m then stU (tk y) k j true else tk y
theorem tkm_zero (tk : Nat → Nat → Nat) (k j : Nat) : tkm tk 0 k j = tk := by
  funext y
  unfold tkm
  rw [if_neg (by omega)]
theorem tkm_succ (tk : Nat → Nat → Nat) (m k j : Nat) : tk1 (tkm tk m k j) m k j = tkm tk (m + 1) k j := by
  funext y i
  unfold tk1 tkm
  by_cases h : y = m
  · subst h
    rw [if_pos (by omega : y < y + 1)]
    by_cases hi : i = k
    · subst hi
      rw [if_pos ⟨rfl, rfl⟩, if_neg (by omega : ¬ y < y)]
      unfold stU
      rw [if_pos ⟨rfl, rfl⟩]
    · rw [if_neg (fun e => hi e.2), if_neg (by omega : ¬ y < y)]
      unfold stU
      rw [if_neg (fun e => hi e.1)]
  · rw [if_neg (fun e => h e.1)]
    by_cases h2 : y < m
    · rw [if_pos h2, if_pos (by omega : y < m + 1)]
    · rw [if_neg h2, if_neg (by omega : ¬ y < m + 1)]
theorem tk1_eq (tk : Nat → Nat → Nat) (x k j : Nat) (y : Nat) : tk1 tk x k j y = stU (tk y) k j (y == x) := by
  funext i
  unfold tk1 stU
  by_cases h : y = x
  · subst h
    by_cases hi : i = k
    · subst hi
      rw [if_pos ⟨rfl, rfl⟩, if_pos ⟨rfl, by simp⟩]
    · rw [if_neg (fun e => hi e.2), if_neg (fun e => hi e.1)]
  · rw [if_neg (fun e => h e.1), if_neg (fun e => h (by simpa using e.2))]
end Go.Proofs.YtllcbnfmihfaaaaGreatDoor
namespace Go.Proofs.YtllcbnfmihfaaaaGreatDoor
open Go.RowKit

theorem fb_all {n : Nat} : ∀ (q : List (List UInt8)) (i : Nat), firstBad n q i < 0 → i ≤ 16 → (∀ x ∈ q, ruleB n x = true) ∧ i + q.length ≤ 16
  | [], i, _, hi => ⟨fun x hx => absurd hx (by simp), by simpa using hi⟩
  | x :: q, i, h, _ => by
    unfold firstBad at h
    split at h
    · next hc =>
      obtain ⟨h1, h2⟩ := fb_all q (i + 1) h (by omega)
      refine ⟨fun y hy => ?_, by rw [List.length_cons]; omega⟩
      rcases List.mem_cons.1 hy with rfl | hy
      · exact hc.1
      · exact h1 y hy
    · omega
theorem pat_small {l : List UInt8} (h : patB l = true) : (patR l).length ≤ 8 := by
  unfold patB at h
  unfold patR
  cases h0 : (l == [46]) with
  | true => simp
  | false =>
    rw [h0, Bool.false_or, Bool.and_eq_true] at h
    have := of_decide_eq_true h.2
    simpa using this
theorem patR_size {l s : List UInt8} (h : s ∈ patR l) : s.length ≤ l.length := by
  unfold patR at h
  split at h
  · cases h
  · exact splitL_size 47 l s h
theorem rul_small {n : Nat} {l : List UInt8} (h : ruleB n l = true) : (rulR l).1.length ≤ 8 ∧ ∀ s ∈ (rulR l).1, s.length ≤ l.length := by
  have hp := rule_parts h
  have hr := rulR_eq hp
  have hb : ruleL n [(Lib.cut l [32]).1, (Lib.cut (Lib.cut l [32]).2.1 [32]).1, (Lib.cut (Lib.cut l [32]).2.1 [32]).2.1] = true := by
    rw [← hp]
    exact h
  unfold ruleL at hb
  rw [Bool.and_eq_true] at hb
  rw [hr]
  have hsz : (Lib.cut l [32]).1.length ≤ l.length := splitL_size 32 l _ (by rw [hp]; simp)
  exact ⟨pat_small hb.1, fun s hs => Nat.le_trans (patR_size hs) hsz⟩
theorem pol_small {n : Nat} {l : List UInt8} (h : polE n l = 0) : (polR l).length ≤ 16 ∧ ∀ r ∈ polR l, r.1.length ≤ 8 ∧ ∀ s ∈ r.1, s.length ≤ 2000 := by
  have hv : rulesV n l < 0 := by
    unfold polE at h
    split at h
    · cases h
    · omega
  unfold rulesV at hv
  unfold polR
  split at hv
  · omega
  · next hb =>
    split at hv
    · next h0 =>
      rw [if_pos h0]
      exact ⟨by simp, fun r hr => by cases hr⟩
    · next h0 =>
      rw [if_neg h0]
      obtain ⟨h1, h2⟩ := fb_all (splitL 10 l) 0 hv (by omega)
      refine ⟨by rw [List.length_map]; omega, fun r hr => ?_⟩
      obtain ⟨x, hx, rfl⟩ := List.mem_map.1 hr
      obtain ⟨k1, k2⟩ := rul_small (h1 x hx)
      refine ⟨k1, fun s hs => ?_⟩
      have := k2 s hs
      have := splitL_size 10 l x hx
      omega
/-- What an automaton asks of the rules. -/
theorem pol_rs {n : Nat} {l : List UInt8} (h : polE n l = 0) : ((polR l).map enS).length ≤ 16 ∧ (∀ i (h : i < ((polR l).map enS).length), ((polR l).map enS)[i].1.length ≤ 8) ∧ ∀ i (h : i < ((polR l).map enS).length) j (h2 : j < ((polR l).map enS)[i].1.length), ((polR l).map enS)[i].1[j].1 ≤ 3 ∧ ((polR l).map enS)[i].1[j].2.length ≤ 1000000000 := by
  obtain ⟨h1, h2⟩ := pol_small h
  refine ⟨by rw [List.length_map]; exact h1, fun i hi => ?_, fun i hi j hj => ?_⟩
  · rw [List.getElem_map]
    have hi' : i < (polR l).length := by rwa [List.length_map] at hi
    show ((polR l)[i].1.map sgS).length ≤ 8
    rw [List.length_map]
    exact (h2 _ (List.getElem_mem _)).1
  · have hi' : i < (polR l).length := by rwa [List.length_map] at hi
    have e : ((polR l).map enS)[i] = enS (polR l)[i] := List.getElem_map _
    have hj' : j < (polR l)[i].1.length := by
      rw [List.getElem_map] at hj
      have : ((polR l)[i].1.map sgS).length = (polR l)[i].1.length := List.length_map _
      exact this ▸ hj
    have e2 : ((polR l).map enS)[i].1[j] = sgS ((polR l)[i].1[j]) := by
      have : (((polR l).map enS)[i].1)[j]? = ((enS (polR l)[i]).1)[j]? := by rw [e]
      rw [List.getElem?_eq_getElem hj] at this
      have e3 : ((enS (polR l)[i]).1)[j]? = some (sgS ((polR l)[i].1[j])) := by
        show ((polR l)[i].1.map sgS)[j]? = _
        rw [List.getElem?_map, List.getElem?_eq_getElem hj']
        rfl
      rw [e3] at this
      injection this
    rw [e2]
    have := (h2 _ (List.getElem_mem hi')).2 _ (List.getElem_mem hj')
    have := sgS_len (polR l)[i].1[j]
    exact ⟨sgS_kind _, by omega⟩
end Go.Proofs.YtllcbnfmihfaaaaGreatDoor
