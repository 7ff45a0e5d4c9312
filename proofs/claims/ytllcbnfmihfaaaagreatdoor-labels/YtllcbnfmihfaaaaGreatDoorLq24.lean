import Derived.RangeFuncBox
import Derived.Deep.RegionHeld3
import Derived.Test.YtllcbnfmihfaaaaGreatDoorLq14
import Derived.Test.YtllcbnfmihfaaaaGreatDoorLq17
import Derived.Test.YtllcbnfmihfaaaaGreatDoorLq22
import Derived.Test.YtllcbnfmihfaaaaGreatDoorLq23
namespace Go.Proofs.YtllcbnfmihfaaaaGreatDoor
open Go.RowKit Go.Shelf
attribute [local go_sem] Oper.semAt_some

/-- What a round may do to memory: nothing below N turns, no block that is no cells, nothing from k up to k + 3. -/
structure Tr (N k : Nat) (W W' : World) : Prop where
  below : Below N W W'
  keep : KeepsOthers W W'
  mid : KeepR k (k + 3) W W'
theorem Tr.refl (N k : Nat) (W : World) : Tr N k W W := ⟨Below.refl _ _, KeepsOthers.refl _, KeepR.refl _ _ _⟩
theorem Tr.trans {N k : Nat} {A B C : World} (h : Tr N k A B) (g : Tr N k B C) : Tr N k A C := ⟨h.below.trans g.below, h.keep.trans g.keep, h.mid.trans g.mid⟩
theorem Tr.alloc (N k : Nat) (W : World) (o : Obj) (hN : N ≤ W.heap.size) (hk : k + 3 ≤ W.heap.size) : Tr N k W (W.alloc o) :=
  ⟨(Below.refl _ _).alloc hN _, KeepsOthers.alloc _ _, ⟨by simp, fun i _ h => Below.heap_alloc _ _ _ (by omega)⟩⟩
theorem Tr.set (N k : Nat) (W : World) (p : Nat) (v : Value) (hN : N ≤ p) (hk : p < k ∨ k + 3 ≤ p) : Tr N k W (W.setCell ⟨p, 0, none⟩ v) :=
  ⟨(Below.refl _ _).trans ⟨rfl, rfl, rfl, by simp [World.setCell], fun i hi => heap_setCell_other W _ _ _ (by simp; omega)⟩, KeepsOthers.setCell _ _ _, ⟨by simp [World.setCell], fun i h1 h2 => heap_setCell_other W _ _ _ (by simp; omega)⟩⟩
theorem Tr.below' {N k : Nat} {W W' : World} (h : Below W.heap.size W W') (hN : N ≤ W.heap.size) (hk : k + 3 ≤ W.heap.size) : Tr N k W W' :=
  ⟨h.mono hN, ⟨h.size, fun i o ho _ => (h.block i (Array.getElem?_eq_some_iff.1 ho).1).trans ho⟩, ⟨h.size, fun i _ h2 => h.block i (by omega)⟩⟩
theorem Tr.grown {N k : Nat} {W W' : World} {base : Nat} {e : TypeId} {size : Nat} {v : Value} {n : Nat} {xs : List Value} (ho : W.ownsRow base e size v n xs) (hg : W.grownBy W' v.ownBlock) (hb : base ≤ W.heap.size) (hN : N ≤ base) (hk : k + 3 ≤ base) : Tr N k W W' := by
  have key : ∀ g, v.ownBlock = some g → base ≤ g := fun g h => by
    rcases ho.2 with ⟨h0, _⟩ | ⟨g', cap, cur, rfl, hb', _⟩
    · subst h0; cases h
    · cases h; exact hb'
  refine ⟨⟨hg.os, hg.tape, hg.output, hg.size, fun i hi => hg.block i (by omega) (fun h => by have := key i h.symm; omega)⟩, KeepsOthers.of_grownBy hg (fun j o hj hjo => ?_), ⟨hg.size, fun i _ h2 => hg.block i (by omega) (fun h => by have := key i h.symm; omega)⟩⟩
  rcases ho.2 with ⟨h0, _⟩ | ⟨g', cap, cur, rfl, hb', hh, _⟩
  · subst h0; cases hj
  · cases hj
    rw [hh] at hjo
    cases hjo
    rfl

/-- What readPattern's loop stands on behind the pieces pre. -/
structure PatI (w : World) (pre : List Str) (W : World) : Prop where
  below : Below w.heap.size w W
  r0 : Boxed W w.heap.size 228 (.slice none 0 0)
  r1 : Boxed W (w.heap.size + 1) 4 (.bool false)
  pat : ∃ ao cap xs, Boxed W (w.heap.size + 2) 228 (.slice ao pre.length cap) ∧ W.ownsRow (w.heap.size + 6) 235 2 (.slice ao pre.length cap) pre.length xs
  le : pre.length ≤ 8
  all : pre.all (fun x => segB (lst x)) = true
  size : w.heap.size + 6 ≤ W.heap.size
theorem PatI.own {w : World} {pre : List Str} {W W' : World} {row : Nat} (h : PatI w pre W) (hg : W.grownBy W' (some row)) (h1 : row = w.heap.size + 3 ∨ (w.heap.size + 6 ≤ row ∧ ∃ o, W.heap[row]? = some o ∧ o.isCells = false)) : PatI w pre W' := by
  obtain ⟨ao, cap, xs, hp, ho⟩ := h.pat
  refine ⟨h.below.trans ⟨hg.os, hg.tape, hg.output, hg.size, fun i hi => hg.block i (by have := h.size; omega) (by intro e; cases e; omega)⟩, h.r0.kept hg (by intro e; cases e; omega), h.r1.kept hg (by intro e; cases e; omega), ⟨ao, cap, xs, hp.kept hg (by intro e; cases e; omega), ho.kept hg ?_⟩, h.le, h.all, Nat.le_trans h.size hg.size⟩
  rcases ho.2 with ⟨h0, _⟩ | ⟨g', cap', cur, h0, hb', hh, _⟩
  · left; rw [h0]; rfl
  · right
    rw [h0]
    intro e
    cases e
    rcases h1 with h1 | ⟨_, o, ho', hc⟩
    · have h1' : g' = w.heap.size + 3 := h1
      omega
    · rw [hh] at ho'
      cases ho'
      cases hc
/-- How a round leaves it for good. -/
structure PatX (w : World) (pre : List Str) (c : Code) (W : World) : Prop where
  ret : c = .ret
  below : Below w.heap.size w W
  r0 : Boxed W w.heap.size 228 (.slice none 0 0)
  r1 : Boxed W (w.heap.size + 1) 4 (.bool false)
  bad : 8 < pre.length ∨ pre.all (fun x => segB (lst x)) = false
  size : w.heap.size + 6 ≤ W.heap.size
theorem PatX.own {w : World} {pre : List Str} {c : Code} {W W' : World} {row : Nat} (h : PatX w pre c W) (hg : W.grownBy W' (some row)) (h1 : w.heap.size + 2 ≤ row) : PatX w pre c W' :=
  ⟨h.ret, h.below.trans ⟨hg.os, hg.tape, hg.output, hg.size, fun i hi => hg.block i (by have := h.size; omega) (by intro e; cases e; omega)⟩, h.r0.kept hg (by intro e; cases e; omega), h.r1.kept hg (by intro e; cases e; omega), h.bad, Nat.le_trans h.size hg.size⟩
/-- 'return nil, false'. -/
theorem PatI.out {w : World} {pre post : List Str} {W : World} (h : PatI w pre W) (hb : 8 < post.length ∨ post.all (fun x => segB (lst x)) = false) : PatX w post .ret ((W.setCell ⟨w.heap.size, 0, none⟩ (.slice none 0 0)).setCell ⟨w.heap.size + 1, 0, none⟩ (.bool false)) := by
  have t1 := Tr.set w.heap.size (w.heap.size + 3) W w.heap.size (.slice none 0 0) (Nat.le_refl _) (by omega)
  have t2 := Tr.set w.heap.size (w.heap.size + 3) (W.setCell ⟨w.heap.size, 0, none⟩ (.slice none 0 0)) (w.heap.size + 1) (.bool false) (by omega) (by omega)
  refine ⟨rfl, h.below.trans (t1.trans t2).below, ?_, ?_, hb, ?_⟩
  · exact (h.r0.set _).kept (grownBy_setCell' _ _ _) (by intro e; injection e with e; omega)
  · exact Boxed.set _ (h.r1.kept (grownBy_setCell' _ _ _) (by intro e; injection e with e; omega))
  · simp [World.setCell]; exact h.size
theorem PatI.alloc {w : World} {pre : List Str} {W : World} (h : PatI w pre W) (o : Obj) : PatI w pre (W.alloc o) := h.own (World.grownBy_alloc W o (some (w.heap.size + 3))) (.inl rfl)
theorem PatI.belowS {w : World} {pre : List Str} {W W' : World} (h : PatI w pre W) (hb : Below W.heap.size W W') : PatI w pre W' :=
  h.own (row := w.heap.size + 3) ⟨hb.os, hb.tape, hb.output, hb.size, fun i hi _ => hb.block i hi⟩ (.inl rfl)
theorem out_tr (w W : World) : Tr w.heap.size (w.heap.size + 3) W ((W.setCell ⟨w.heap.size, 0, none⟩ (.slice none 0 0)).setCell ⟨w.heap.size + 1, 0, none⟩ (.bool false)) :=
  (Tr.set _ _ W w.heap.size _ (Nat.le_refl _) (by omega)).trans (Tr.set _ _ _ (w.heap.size + 1) _ (by omega) (by omega))

/-- The three signs. -/
def sgL : Nat → List UInt8
  | 0 => [42]
  | 1 => [42, 42]
  | _ => [91, 93]
theorem Tryz.infoSeg : (Tryz.prog.info? 235).map (fun i => (i.zero, i.size, i.bytes)) = some (some (.agg #[.int .i64 0, .string ByteArray.empty]), 2, 24) := by kernel_rfl

theorem patI_nil (w : World) (s : ByteArray) (W0 : World) (hW0 : ((((((w.alloc (.cells #[.slice none 0 0] 228)).alloc (.cells #[.bool false] 4)).alloc (.cells #[.slice none 0 0] 228)).alloc (.cells #[.string s] 9)).alloc (.cells #[.string ⟨#[47]⟩] 9)).alloc (.cells #[.int .i64 0] 3)) = W0) : PatI w [] W0 := by
  subst hW0
  refine ⟨?_, ?_, ?_, ⟨none, 0, [], ?_, World.ownsRow_nil _ _ _ _⟩, Nat.zero_le _, rfl, by simp⟩
  · exact ((((((Below.refl _ _).alloc (Nat.le_refl _) _).alloc (by simp) _).alloc (by simp; omega) _).alloc (by simp; omega) _).alloc (by simp; omega) _).alloc (by simp; omega) _
  · exact (((((Boxed.new w _ _).alloc _).alloc _).alloc _).alloc _).alloc _
  · have := Boxed.new (w.alloc (.cells #[.slice none 0 0] 228)) 4 (.bool false)
    rw [World.size_alloc] at this
    exact (((this.alloc _).alloc _).alloc _).alloc _
  · have := Boxed.new ((w.alloc (.cells #[.slice none 0 0] 228)).alloc (.cells #[.bool false] 4)) 228 (.slice none 0 0)
    rw [World.size_alloc, World.size_alloc] at this
    exact ((this.alloc _).alloc _).alloc _
theorem splAt_mk (w : World) (s : ByteArray) (W0 : World) (hW0 : ((((((w.alloc (.cells #[.slice none 0 0] 228)).alloc (.cells #[.bool false] 4)).alloc (.cells #[.slice none 0 0] 228)).alloc (.cells #[.string s] 9)).alloc (.cells #[.string ⟨#[47]⟩] 9)).alloc (.cells #[.int .i64 0] 3)) = W0) : SplAt (w.heap.size + 3) 47 W0 s := by
  subst hW0
  generalize hA : ((w.alloc (.cells #[.slice none 0 0] 228)).alloc (.cells #[.bool false] 4)).alloc (.cells #[.slice none 0 0] 228) = A
  have hs : w.heap.size + 3 = A.heap.size := by rw [← hA]; simp
  rw [hs]
  refine ⟨?_, ?_, ?_⟩
  · exact ((Below.heap_alloc _ _ _ (by simp; omega)).trans (Below.heap_alloc _ _ _ (by simp))).trans (heap_new A _)
  · refine (Below.heap_alloc _ _ _ (by simp)).trans ?_
    have := heap_new (A.alloc (.cells #[.string s] 9)) (.cells #[.string ⟨#[47]⟩] 9)
    rwa [World.size_alloc] at this
  · have := heap_new ((A.alloc (.cells #[.string s] 9)).alloc (.cells #[.string ⟨#[47]⟩] 9)) (.cells #[.int .i64 0] 3)
    rwa [World.size_alloc, World.size_alloc] at this

theorem own_block {W : World} {base : Nat} {e : TypeId} {size : Nat} {v : Value} {n : Nat} {xs : List Value} (ho : W.ownsRow base e size v n xs) {g : Nat} (h : v.ownBlock = some g) : base ≤ g := by
  rcases ho.2 with ⟨h0, _⟩ | ⟨g', cap, cur, rfl, hb', _⟩
  · subst h0; cases h
  · cases h; exact hb'
/-- A piece more. -/
theorem PatI.push {w W w5 : World} {pre : List Str} {v v' : Value} {xs ys : List Value} (x : Str) (h : PatI w pre W) (hp : Boxed W (w.heap.size + 2) 228 v) (ho : W.ownsRow (w.heap.size + 6) 235 2 v pre.length xs)
    (ho' : w5.ownsRow (w.heap.size + 6) 235 2 v' (pre.length + 1) ys) (hg : W.grownBy w5 v.ownBlock) (h8 : pre.length < 8) (hs : segB (lst x) = true) :
    PatI w (pre ++ [x]) (w5.setCell ⟨w.heap.size + 1 + 1, 0, none⟩ v') ∧ Tr w.heap.size (w.heap.size + 3) W (w5.setCell ⟨w.heap.size + 1 + 1, 0, none⟩ v') := by
  have key := fun g h => own_block ho (g := g) h
  have t1 : Tr w.heap.size (w.heap.size + 3) W w5 := Tr.grown ho hg h.size (by omega) (by omega)
  have t2 := Tr.set w.heap.size (w.heap.size + 3) w5 (w.heap.size + 2) v' (by omega) (by omega)
  have g2 := grownBy_setCell' w5 (w.heap.size + 2) v'
  have hp5 : Boxed w5 (w.heap.size + 2) 228 v := hp.kept hg (fun e => by have := key _ e.symm; omega)
  obtain ⟨g, cap, rfl⟩ := ownsRow_succ ho'
  refine ⟨⟨h.below.trans (t1.trans t2).below, ?_, ?_, ⟨some ⟨g, 0, none⟩, cap, ys, ?_, ?_⟩, ?_, ?_, ?_⟩, t1.trans t2⟩
  · exact (h.r0.kept hg (fun e => by have := key _ e.symm; omega)).kept g2 (by intro e; injection e with e; omega)
  · exact (h.r1.kept hg (fun e => by have := key _ e.symm; omega)).kept g2 (by intro e; injection e with e; omega)
  · rw [List.length_append]; exact hp5.set _
  · rw [List.length_append]
    refine ho'.kept g2 (.inr (fun e => ?_))
    have := own_block ho' e
    omega
  · rw [List.length_append]; simp; omega
  · rw [List.all_append, h.all]; simp [hs]
  · exact Nat.le_trans h.size (t1.trans t2).below.size
theorem pat_fin {w W V w5 : World} {pre : List Str} {x : Str} {v v' : Value} {xs ys : List Value} (h : PatI w pre V) (ht : Tr w.heap.size (w.heap.size + 3) W V) (hp : Boxed V (w.heap.size + 2) 228 v) (ho : V.ownsRow (w.heap.size + 6) 235 2 v pre.length xs)
    (ho' : w5.ownsRow (w.heap.size + 6) 235 2 v' (pre.length + 1) ys) (hg : V.grownBy w5 v.ownBlock) (h8 : ¬ (pre.length : Int) = 8) (hs : segB (lst x) = true) :
    KeepsOthers W (w5.setCell ⟨w.heap.size + 1 + 1, 0, none⟩ v') ∧ KeepR (w.heap.size + 3) (w.heap.size + 3 + 3) W (w5.setCell ⟨w.heap.size + 1 + 1, 0, none⟩ v') ∧ PatI w (pre ++ [x]) (w5.setCell ⟨w.heap.size + 1 + 1, 0, none⟩ v') := by
  obtain ⟨h1, h2⟩ := h.push x hp ho ho' hg (by have := h.le; omega) hs
  exact ⟨(ht.trans h2).keep, (ht.trans h2).mid, h1⟩
theorem seg_sign {x : Str} {i : Nat} (h : (x.1.toList == sgL i) = true) : segB (lst x) = true := by
  have e : lst x = sgL i := by unfold lst; rw [← Lib.toList_data]; exact eq_of_beq h
  rw [e]
  unfold segB
  match i with
  | 0 => simp [sgL]
  | 1 => simp [sgL]
  | _ + 2 => simp [sgL]
theorem seg_lit {x : Str} (h : ∀ i, i < 3 → (x.1.toList == sgL i) = false) : segB (lst x) = litB x.1.data.toList := by
  have e : lst x = x.1.toList := by unfold lst; rw [← Lib.toList_data]
  have h0 := h 0 (by omega)
  have h1 := h 1 (by omega)
  have h2 := h 2 (by omega)
  simp only [sgL] at h0 h1 h2
  unfold segB
  rw [e, h0, h1, h2, Lib.toList_data]
  simp
theorem cell_row_new2 (w : World) (o : Obj) (cs : Array Value) (t : TypeId) : ∀ (j : Nat) (u : Value), cs.toList[j]? = some u → ((w.alloc o).alloc (.cells cs t)).cell? ((⟨w.heap.size + 1, 0, none⟩ : Addr).add j) = some u := fun j u hu => by
  have := cell_of_row ((w.alloc o).alloc (.cells cs t)) (w.heap.size + 1) j cs t (0, 0) (by have := heap_new (w.alloc o) (.cells cs t); rwa [World.size_alloc] at this)
  rw [addr_add, Nat.zero_add, this]
  simpa using hu
theorem cell_row_new1 (w : World) (cs : Array Value) (t : TypeId) : ∀ (j : Nat) (u : Value), cs.toList[j]? = some u → (w.alloc (.cells cs t)).cell? ((⟨w.heap.size, 0, none⟩ : Addr).add j) = some u := fun j u hu => by
  rw [addr_add, Nat.zero_add, cell_of_row _ _ _ _ _ _ (heap_new _ _)]
  simpa using hu
theorem pat_yes {s : ByteArray} {hs : s.size ≤ 2000} {xs : List Str} (hd : (s.toList == [46]) = false) (h : xs.map lst = splitL 47 (lst ⟨s, hs⟩)) (h8 : xs.length ≤ 8) (ha : xs.all (fun x => segB (lst x)) = true) : patB s.data.toList = true := by
  have h' : splitL 47 s.data.toList = xs.map lst := h.symm
  unfold patB
  rw [h', ← Lib.toList_data, hd, List.length_map, decide_eq_true h8, List.all_map]
  simpa [Function.comp] using ha
theorem pat_no {s : ByteArray} {hs : s.size ≤ 2000} {pre : List Str} {r : List (List UInt8)} (hd : (s.toList == [46]) = false) (h : splitL 47 (lst ⟨s, hs⟩) = pre.map lst ++ r) (hb : 8 < pre.length ∨ pre.all (fun x => segB (lst x)) = false) : patB s.data.toList = false := by
  have h' : splitL 47 s.data.toList = pre.map lst ++ r := h
  unfold patB
  rw [h', ← Lib.toList_data, hd, List.all_append, List.all_map]
  rcases hb with hb | hb
  · rw [decide_eq_false (by rw [List.length_append, List.length_map]; omega)]; simp
  · have : (pre.all (segB ∘ lst)) = false := hb
    rw [this]; simp
theorem sgn_ix0 (V : World) : (Instr.index 337 (.agg #[.string ⟨#[42]⟩, .int .i64 0, .string ⟨#[42, 42]⟩, .int .i64 1, .string ⟨#[91, 93]⟩, .int .i64 2]) (.int .i64 0)).run Tryz.prog V = .ok (.agg #[.string ⟨#[42]⟩, .int .i64 0]) V := by kernel_rfl
theorem sgn_ix1 (V : World) : (Instr.index 337 (.agg #[.string ⟨#[42]⟩, .int .i64 0, .string ⟨#[42, 42]⟩, .int .i64 1, .string ⟨#[91, 93]⟩, .int .i64 2]) (.int .i64 1)).run Tryz.prog V = .ok (.agg #[.string ⟨#[42, 42]⟩, .int .i64 1]) V := by kernel_rfl
theorem sgn_ix2 (V : World) : (Instr.index 337 (.agg #[.string ⟨#[42]⟩, .int .i64 0, .string ⟨#[42, 42]⟩, .int .i64 1, .string ⟨#[91, 93]⟩, .int .i64 2]) (.int .i64 2)).run Tryz.prog V = .ok (.agg #[.string ⟨#[91, 93]⟩, .int .i64 2]) V := by kernel_rfl

/-- A drawn region by hand: all orders come to one state. -/
theorem anyIn_via {F : Fence} {n : Nat} {P : Program} {md : Region.Mode} {ops : Array Oper} {Q : Exit → Act → World → Prop} {fuel : Nat} {listed : Array Bool} {a : Act} {w : World} (L : Array Bool) (fu : Nat) (vs : World → List (Nat × Value)) (T : World → Prop) (wd : World → World)
    (hr : (∀ V, T V → wpAnyIn F n P md ops Q fu L ((vs V).foldl (fun a p => a.put (some p.1) p.2) a) (wd V)) → wpAnyIn F n P md ops Q fuel listed a w)
    (ht : ∀ V, T V → wpAnyIn F n P md ops Q fu L ((vs V).foldl (fun a p => a.put (some p.1) p.2) a) (wd V)) : wpAnyIn F n P md ops Q fuel listed a w := hr ht
/-- append, as an operation of such a region. -/
theorem opIn_append_own {F : Fence} {nF : Nat} {P : Program} {w : World} {o : Oper} {a : Act} {K : Act → World → Prop} {Q : Exit → Act → World → Prop} (s x : Operand) (t : TypeId)
    (ho : o.op = .call { callee := .builtin .append, args := #[s, x], argTypes := #[t, t] })
    (base : Nat) (e : TypeId) (i : TypeInfo) (z : Value) (size bytes : Nat) (ht : P.underlying t = some (.slice e)) (hi : P.info? e = some i) (hz : i.zero = some z)
    (hsize : i.size = size) (hby : i.bytes = bytes) (hzs : z.cells.size = size) (hsz : 0 < size)
    (v : Value) (n : Nat) (xs : List Value) (hs : a.eval s = v) (hown : w.ownsRow base e size v n xs)
    (ad : Addr) (m c : Nat) (news : List Value) (hx : a.eval x = .slice (some ad) m c) (hl : news.length = m * size) (hnews : ∀ j u, news[j]? = some u → w.cell? (ad.add j) = some u) (h1 : ∀ u ∈ news, u.oneCell' = true)
    (h63 : n + m ≤ maxLen) (hbytes : (n + m) * bytes ≤ 140737488355328) (hbase : base ≤ w.heap.size)
    (h : ∀ v' w', w'.ownsRow base e size v' (n + m) (xs ++ news) → w.grownBy w' v.ownBlock → K (a.put o.dst v') w') : o.wpIn F nF P a w K Q := by
  obtain ⟨v', w', hr, h2, h3, _⟩ := run_append_own (P := P) w base t o.type e i z size bytes ht hi hz hsize hby hzs hsz v n xs hown ad m c news hl hnews h1 h63 hbytes hbase
  unfold Oper.wpIn
  refine ⟨by simp [Oper.about, ho, resolve, Target.leads, Sem.run_pure], ?_⟩
  rw [Oper.semAt_plain F _ _ (by rw [ho]; intro c hc'; cases hc')]
  simp [execOp, ho, resolve, invoke, builtin, hs, hx, hr, Result.andThen]
  exact h v' w' h2 h3

set_option maxRecDepth 100000 in
set_option maxHeartbeats 4000000 in
theorem readPattern_any (s : ByteArray) (w : World) (hs : s.size ≤ 2000) (hgl : Glob w) :
    Calls Tryz.prog 185 #[.string s] w fun e w' => ∃ a n cap, e = .returned (.tuple #[.slice a n cap, .bool (patB s.data.toList)]) ∧ Below w.heap.size w w' := by
  obtain ⟨i0, hi, hz0, hz1, hz2⟩ := info_parts Tryz.infoSeg
  cases hd : (s.toList == [46])
  · have HG : Hid (Glob w) := hgl
    have HD : Hid ((s.toList == [46]) = false) := hd
    refine (callsIn_wide (n := 10)).1 ?_
    refine callsIn_of_wp_marks Tryz.func185 rfl trivial ?_ rfl
    simp only [Tryz.ntmps185, List.size_toArray, List.length_cons, List.length_nil, Nat.reduceAdd, Nat.reduceSub, Array.replicate_succ, Array.replicate_zero, List.push_toArray, List.append_toArray, List.nil_append, List.cons_append]
    gi_wp2
    refine wpIn_wide.2 (wp_scope_straight ((wpIn_wide (n := 10)).1 ?_))
    gi_wp2_with fail
    refine wpIn_label ?_
    gi_wp2_with fail
    refine ⟨trivial, (callsIn_wide.2 (splitSeq_any s ⟨#[47]⟩ _)).mono ?_⟩
    rintro e w' ⟨rfl, rfl⟩
    simp only [World.size_alloc]
    gi_wp2
    obtain ⟨W0, hW0⟩ : ∃ W0, ((((((w.alloc (.cells #[.slice none 0 0] 228)).alloc (.cells #[.bool false] 4)).alloc (.cells #[.slice none 0 0] 228)).alloc (.cells #[.string s] 9)).alloc (.cells #[.string ⟨#[47]⟩] 9)).alloc (.cells #[.int .i64 0] 3)) = W0 := ⟨_, rfl⟩
    have hsz : W0.heap.size = w.heap.size + 6 := by rw [← hW0]; simp
    have hI0 : PatI w [] W0 := patI_nil w s W0 hW0
    have hA0 : SplAt (w.heap.size + 3) 47 W0 s := splAt_mk w s W0 hW0
    rw [hW0]
    refine wpIn_rangeFunc_st rfl (by omega) (gf := 213) (lb := #[.pointer (some ⟨w.heap.size + 1 + 1 + 1 + 1, 0, none⟩), .pointer (some ⟨w.heap.size + 1 + 1 + 1, 0, none⟩), .pointer (some ⟨w.heap.size + 1 + 1 + 1 + 1 + 1, 0, none⟩)]) rfl trivial (enters_of Tryz.func213 (by kernel_rfl) rfl)
      (st := w.heap.size + 3) (by omega) (lo := w.heap.size + 3) (hi := w.heap.size + 3 + 3) (by omega) (split_seq 9 (w.heap.size + 3) 47 ⟨s, hs⟩ W0 hA0) (Below.refl _ _) (fun x => rfl)
      (fun pre W => PatI w pre W) (fun c pre W => PatX w pre c W)
      (fun pre A B h hg => h.own hg (.inl rfl)) (fun c pre A B h hg => h.own hg (by omega))
      (fun pre A k o o' h hB hk hc => h.own (grownBy_putObj' A k o') (.inr ⟨by omega, o, hk, hc⟩)) (fun c pre A k o o' h hB hk hc => h.own (grownBy_putObj' A k o') (by omega))
      hI0
      (fun x => { tmps := #[.string s, undef, .pointer (some ⟨w.heap.size, 0, none⟩), .pointer (some ⟨w.heap.size + 1, 0, none⟩), .pointer (some ⟨w.heap.size + 1 + 1, 0, none⟩), .string x.1, undef, undef, .string s, .bool false, .string s, .func (.func 213) #[] #[.pointer (some ⟨w.heap.size + 1 + 1 + 1 + 1, 0, none⟩), .pointer (some ⟨w.heap.size + 1 + 1 + 1, 0, none⟩), .pointer (some ⟨w.heap.size + 1 + 1 + 1 + 1 + 1, 0, none⟩)], .string x.1, undef, undef, undef, undef, undef, undef, undef, undef, undef, undef, undef, undef, undef, undef, undef, undef, undef, undef, undef, undef, undef, undef, undef, undef, undef, undef, undef, undef], defers := [] }) ?assign ?body ?done ?stop
    case assign =>
      intro l x W K hK
      gi_wp2
      exact hK
    case body =>
      clear hI0 hA0 hW0 hsz
      intro l pre x W hI hlt
      have HI : Hid (PatI w pre W) := hI
      obtain ⟨ao, cap, xs, hp, ho⟩ := hI.pat
      have hle := hI.le
      have c4 : W.cell? ⟨w.heap.size + 1 + 1, 0, none⟩ = some (.slice ao pre.length cap) := hp.cell
      have c2 := hI.r0.cell
      have f2 := hI.r0.frozen
      have c3 := hI.r1.cell
      have f3 := hI.r1.frozen
      by_cases h8 : (pre.length : Int) = 8
      · clear hI hp ho
        gi_wp2
        exact ⟨(out_tr w W).keep, HI.out.out (.inl (by rw [List.length_append]; simp; omega))⟩
      · have hb8 : ((pre.length : Int) == 8) = false := beq_eq_false_iff_ne.2 h8
        obtain ⟨t, fr, hsg⟩ := (HG.out.below hI.below).signs
        have s0 := cellOfHeap hsg 0
        have s1 := cellOfHeap hsg 1
        have s2 := cellOfHeap hsg 2
        have s3 := cellOfHeap hsg 3
        have s4 := cellOfHeap hsg 4
        have s5 := cellOfHeap hsg 5
        clear hI hp ho hsg
        gi_wp2
        gi_loopg [17] 4 (fun g y wr => ∃ j : Nat, Hid (j + g = 4) ∧ ((j = 0 ∧ y = .int .i64 0) ∨ (j = 1 ∧ y = .int .i64 1) ∨ (j = 2 ∧ y = .int .i64 2) ∨ (j = 3 ∧ y = .int .i64 3)) ∧ Hid (PatI w pre wr) ∧ Hid (Tr w.heap.size (w.heap.size + 3) W wr) ∧ Hid (∀ i, i < j → (x.1.toList == sgL i) = false))
        case atStart => exact ⟨0, rfl, .inl ⟨rfl, rfl⟩, HI, Tr.refl _ _ _, fun i hi => by omega⟩
        case round =>
          clear c4 c2 f2 c3 f3 s0 s1 s2 s3 s4 s5 HI
          obtain ⟨j, hj, hjy, HI, HT, HNE⟩ := hrel
          have ix0 := fun V => sgn_ix0 V
          have ix1 := fun V => sgn_ix1 V
          have ix2 := fun V => sgn_ix2 V
          obtain ⟨ao2, cap2, xs2, hp2, ho2⟩ := HI.out.pat
          have HP : Hid (Boxed wr (w.heap.size + 2) 228 (.slice ao2 pre.length cap2)) := hp2
          have HO : Hid (wr.ownsRow (w.heap.size + 6) 235 2 (.slice ao2 pre.length cap2) pre.length xs2) := ho2
          have c4 : wr.cell? ⟨w.heap.size + 1 + 1, 0, none⟩ = some (.slice ao2 pre.length cap2) := hp2.cell
          have hz6 := HI.out.size
          clear hp2 ho2
          have c4a : ∀ o, (wr.alloc o).cell? ⟨w.heap.size + 1 + 1, 0, none⟩ = some (.slice ao2 pre.length cap2) := fun o => (World.cell?_alloc_some wr _ o (by rw [c4]; rfl)).trans c4
          rcases hjy with ⟨rfl, rfl⟩ | ⟨rfl, rfl⟩ | ⟨rfl, rfl⟩ | ⟨rfl, rfl⟩
          · cases hx : (x.1.toList == [42])
            · have HN2 : Hid (∀ i, i < 1 → (x.1.toList == sgL i) = false) := fun i hi => by
                rcases Nat.lt_succ_iff_lt_or_eq.1 hi with h | rfl
                · exact HNE.out i h
                · exact hx
              gi_wp2
              gi_roundg 3
              case measure => have := hj.out; omega
              case rel => exact ⟨1, rfl, .inr (.inl ⟨rfl, by go_num⟩), HI.out.alloc _, HT.out.trans (Tr.alloc _ _ _ _ (by omega) (by omega)), HN2⟩
            · gi_wp2_with (first
                | (gi_at_builtin; refine wpListIn_append_own _ rfl _ _ 228 rfl (w.heap.size + 6) 235 i0 (.agg #[.int .i64 0, .string ByteArray.empty]) 2 24 Tryz.underlying228 hi hz0 hz1 hz2 rfl (by decide) _ _ _ rfl ((HO.out.alloc _).alloc _) ⟨wr.heap.size + 1, 0, none⟩ 1 1 [.int .i64 0, .string ⟨#[]⟩] rfl rfl (cell_row_new2 _ _ _ _) (fun x hx => by simp at hx; rcases hx with rfl | rfl <;> rfl) (by unfold maxLen; omega) (by omega) (by simp; omega) ?_; intro v' w5 hown' hgrow5 hnil5; clear hnil5; obtain ⟨g5, cap5, rfl⟩ := ownsRow_succ hown'; have hp5 : Boxed w5 (w.heap.size + 2) 228 (.slice ao2 pre.length cap2) := ((HP.out.alloc _).alloc _).kept hgrow5 (fun e => by have := own_block HO.out e.symm; omega); have c5 : w5.cell? ⟨w.heap.size + 1 + 1, 0, none⟩ = some (.slice ao2 pre.length cap2) := hp5.cell; have f5 : w5.frozen? ⟨w.heap.size + 1 + 1, 0, none⟩ = false := hp5.frozen; clear hp5))
              exact pat_fin ((HI.out.alloc _).alloc _) ((HT.out.trans (Tr.alloc _ _ _ _ (by omega) (by omega))).trans (Tr.alloc _ _ _ _ (by simp; omega) (by simp; omega))) ((HP.out.alloc _).alloc _) ((HO.out.alloc _).alloc _) hown' hgrow5 h8 (seg_sign (i := 0) hx)
          · cases hx : (x.1.toList == [42, 42])
            · have HN2 : Hid (∀ i, i < 2 → (x.1.toList == sgL i) = false) := fun i hi => by
                rcases Nat.lt_succ_iff_lt_or_eq.1 hi with h | rfl
                · exact HNE.out i h
                · exact hx
              gi_wp2
              gi_roundg 2
              case measure => have := hj.out; omega
              case rel => exact ⟨2, rfl, .inr (.inr (.inl ⟨rfl, by go_num⟩)), HI.out.alloc _, HT.out.trans (Tr.alloc _ _ _ _ (by omega) (by omega)), HN2⟩
            · gi_wp2_with (first
                | (gi_at_builtin; refine wpListIn_append_own _ rfl _ _ 228 rfl (w.heap.size + 6) 235 i0 (.agg #[.int .i64 0, .string ByteArray.empty]) 2 24 Tryz.underlying228 hi hz0 hz1 hz2 rfl (by decide) _ _ _ rfl ((HO.out.alloc _).alloc _) ⟨wr.heap.size + 1, 0, none⟩ 1 1 [.int .i64 1, .string ⟨#[]⟩] rfl rfl (cell_row_new2 _ _ _ _) (fun x hx => by simp at hx; rcases hx with rfl | rfl <;> rfl) (by unfold maxLen; omega) (by omega) (by simp; omega) ?_; intro v' w5 hown' hgrow5 hnil5; clear hnil5; obtain ⟨g5, cap5, rfl⟩ := ownsRow_succ hown'; have hp5 : Boxed w5 (w.heap.size + 2) 228 (.slice ao2 pre.length cap2) := ((HP.out.alloc _).alloc _).kept hgrow5 (fun e => by have := own_block HO.out e.symm; omega); have c5 : w5.cell? ⟨w.heap.size + 1 + 1, 0, none⟩ = some (.slice ao2 pre.length cap2) := hp5.cell; have f5 : w5.frozen? ⟨w.heap.size + 1 + 1, 0, none⟩ = false := hp5.frozen; clear hp5))
              exact pat_fin ((HI.out.alloc _).alloc _) ((HT.out.trans (Tr.alloc _ _ _ _ (by omega) (by omega))).trans (Tr.alloc _ _ _ _ (by simp; omega) (by simp; omega))) ((HP.out.alloc _).alloc _) ((HO.out.alloc _).alloc _) hown' hgrow5 h8 (seg_sign (i := 1) hx)
          · cases hx : (x.1.toList == [91, 93])
            · have HN2 : Hid (∀ i, i < 3 → (x.1.toList == sgL i) = false) := fun i hi => by
                rcases Nat.lt_succ_iff_lt_or_eq.1 hi with h | rfl
                · exact HNE.out i h
                · exact hx
              gi_wp2
              gi_roundg 1
              case measure => have := hj.out; omega
              case rel => exact ⟨3, rfl, .inr (.inr (.inr ⟨rfl, by go_num⟩)), HI.out.alloc _, HT.out.trans (Tr.alloc _ _ _ _ (by omega) (by omega)), HN2⟩
            · gi_wp2_with (first
                | (gi_at_builtin; refine wpListIn_append_own _ rfl _ _ 228 rfl (w.heap.size + 6) 235 i0 (.agg #[.int .i64 0, .string ByteArray.empty]) 2 24 Tryz.underlying228 hi hz0 hz1 hz2 rfl (by decide) _ _ _ rfl ((HO.out.alloc _).alloc _) ⟨wr.heap.size + 1, 0, none⟩ 1 1 [.int .i64 2, .string ⟨#[]⟩] rfl rfl (cell_row_new2 _ _ _ _) (fun x hx => by simp at hx; rcases hx with rfl | rfl <;> rfl) (by unfold maxLen; omega) (by omega) (by simp; omega) ?_; intro v' w5 hown' hgrow5 hnil5; clear hnil5; obtain ⟨g5, cap5, rfl⟩ := ownsRow_succ hown'; have hp5 : Boxed w5 (w.heap.size + 2) 228 (.slice ao2 pre.length cap2) := ((HP.out.alloc _).alloc _).kept hgrow5 (fun e => by have := own_block HO.out e.symm; omega); have c5 : w5.cell? ⟨w.heap.size + 1 + 1, 0, none⟩ = some (.slice ao2 pre.length cap2) := hp5.cell; have f5 : w5.frozen? ⟨w.heap.size + 1 + 1, 0, none⟩ = false := hp5.frozen; clear hp5))
              exact pat_fin ((HI.out.alloc _).alloc _) ((HT.out.trans (Tr.alloc _ _ _ _ (by omega) (by omega))).trans (Tr.alloc _ _ _ _ (by simp; omega) (by simp; omega))) ((HP.out.alloc _).alloc _) ((HO.out.alloc _).alloc _) hown' hgrow5 h8 (seg_sign (i := 2) hx)
          · have cL := isLiteral_any x.1 wr x.2 (HG.out.below HI.out.below)
            clear ix0 ix1 ix2 c4a c4
            gi_wp2_with fail
            refine ⟨trivial, ((callsIn_wide.2 cL).inRound l).mono ?_⟩
            clear cL
            rintro e w2 ⟨rfl, hB⟩
            simp only []
            have HI2 : Hid (PatI w pre w2) := HI.out.belowS hB
            have HT2 : Hid (Tr w.heap.size (w.heap.size + 3) W w2) := HT.out.trans (Tr.below' hB (by omega) (by omega))
            have hz7 := HI2.out.size
            obtain ⟨ao3, cap3, xs3, hp3, ho3⟩ := HI2.out.pat
            have HP3 : Hid (Boxed w2 (w.heap.size + 2) 228 (.slice ao3 pre.length cap3)) := hp3
            have HO3 : Hid (w2.ownsRow (w.heap.size + 6) 235 2 (.slice ao3 pre.length cap3) pre.length xs3) := ho3
            have c4 : w2.cell? ⟨w.heap.size + 1 + 1, 0, none⟩ = some (.slice ao3 pre.length cap3) := hp3.cell
            have c2 := HI2.out.r0.cell
            have f2 := HI2.out.r0.frozen
            have c3 := HI2.out.r1.cell
            have f3 := HI2.out.r1.frozen
            have hseg := seg_lit HNE.out
            clear hB hp3 ho3 HI HT HP HO hz6
            cases hlt2 : litB x.1.data.toList
            · have HX : Hid ((pre ++ [x]).all (fun x => segB (lst x)) = false) := by show _ = _; rw [List.all_append]; simp [hseg, hlt2]
              clear hseg hlt2 c4
              gi_wp2
              exact ⟨(HT2.out.trans (out_tr w w2)).keep, HI2.out.out (.inr HX.out)⟩
            · rw [hlt2] at hseg
              have HSG : Hid (segB (lst x) = true) := hseg
              clear hseg hlt2 c2 f2 c3 f3
              gi_wp2_with fail
              refine wpIn_region_any (by kernel_rfl) ?_
              have HC : Hid (∀ V, Calls Tryz.prog 218 #[.string x.1] V fun e V' => e = .returned (.string x.1) ∧ Below V.heap.size V V') := fun V => clone_any x.1 V (by have := x.2; omega)
              have hlt4 : w.heap.size + 1 + 1 < w2.heap.size := by omega
              have c4d : (World.drew w2).cell? ⟨w.heap.size + 1 + 1, 0, none⟩ = some (.slice ao3 pre.length cap3) := c4
              change wpAnyIn _ _ _ _ _ _ _ _ _ (World.drew w2)
              refine anyIn_via #[true, true, true, true, true, false, false] 2 (fun V => [(34, .slice ao3 pre.length cap3), (35, .string x.1), (36, .string x.1), (37, .agg #[.int .i64 3, .string x.1]), (38, .slice (some ⟨V.heap.size, 0, none⟩) 1 1)]) (fun V => Below (World.drew w2).heap.size (World.drew w2) V) (fun V => V.alloc (.cells #[.int .i64 3, .string x.1] 235)) (fun hvia => ?reg) ?tail
              case tail =>
                intro V hBV
                have hB2 : Below w2.heap.size w2 V := (((Below.refl _ w2).drew).trans hBV)
                have HI3 : Hid (PatI w pre V) := HI2.out.belowS hB2
                have HT3 : Hid (Tr w.heap.size (w.heap.size + 3) W V) := HT2.out.trans (Tr.below' hB2 (by omega) (by omega))
                have hz8 := HI3.out.size
                have hlt3 : ∀ g, (Value.slice ao3 pre.length cap3).ownBlock = some g → g < w2.heap.size := fun g hg => by
                  rcases HO3.out.2 with ⟨h0, _⟩ | ⟨g', _, _, h0, _, hh, _⟩
                  · rw [h0] at hg; cases hg
                  · rw [h0] at hg; cases hg; exact (Array.getElem?_eq_some_iff.1 hh).1
                have HP4 : Hid (Boxed V (w.heap.size + 2) 228 (.slice ao3 pre.length cap3)) := (hB2.block _ (by omega)).trans HP3.out
                have HO4 : Hid (V.ownsRow (w.heap.size + 6) 235 2 (.slice ao3 pre.length cap3) pre.length xs3) := by
                  refine ⟨HO3.out.1, ?_⟩
                  rcases HO3.out.2 with h0 | ⟨g', cp, cur, h0, h1, hh, h2⟩
                  · exact .inl h0
                  · exact .inr ⟨g', cp, cur, h0, h1, (hB2.block g' (Array.getElem?_eq_some_iff.1 hh).1).trans hh, h2⟩
                simp only [List.foldl]
                refine wpAnyIn_ready (rs := [5]) (by kernel_rfl) (by simp) ?_
                refine AllReadyIn.cons rfl (fun K hK => ?_) AllReadyIn.nil
                rw [if_pos (by rfl)]
                refine opIn_append_own _ _ 228 rfl (w.heap.size + 6) 235 i0 (.agg #[.int .i64 0, .string ByteArray.empty]) 2 24 Tryz.underlying228 hi hz0 hz1 hz2 rfl (by decide) _ _ _ rfl (HO4.out.alloc _) ⟨V.heap.size, 0, none⟩ 1 1 [.int .i64 3, .string x.1] rfl rfl (cell_row_new1 _ _ _) (fun x hx => by simp at hx; rcases hx with rfl | rfl <;> rfl) (by unfold maxLen; omega) (by omega) (by simp; omega) ?_
                intro v' w5 hown' hgrow5
                obtain ⟨g5, cap5, rfl⟩ := ownsRow_succ hown'
                have hp5 : Boxed w5 (w.heap.size + 2) 228 (.slice ao3 pre.length cap3) := (HP4.out.alloc _).kept hgrow5 (fun e => by have := own_block HO4.out e.symm; omega)
                have c5 : w5.cell? ⟨w.heap.size + 1 + 1, 0, none⟩ = some (.slice ao3 pre.length cap3) := hp5.cell
                have f5 : w5.frozen? ⟨w.heap.size + 1 + 1, 0, none⟩ = false := hp5.frozen
                clear hp5
                refine hK _ _ ?_
                clear hK
                refine wpAnyIn_ready (rs := [6]) (by kernel_rfl) (by simp) ?_
                refine AllReadyIn.cons rfl (fun K hK => ?_) AllReadyIn.nil
                go_simp
                refine hK _ _ ?_
                clear hK
                refine wpAnyIn_done (by kernel_rfl) ?_ _
                gi_wp2
                exact pat_fin (HI3.out.alloc _) (HT3.out.trans (Tr.alloc _ _ _ _ (by omega) (by omega))) (HP4.out.alloc _) (HO4.out.alloc _) hown' hgrow5 h8 HSG.out
              case reg =>
                refine wpAnyIn_ready (rs := [0, 1]) (by kernel_rfl) (by simp) ?_
                refine AllReadyIn.cons rfl (fun K hK => ?_) (AllReadyIn.cons rfl (fun K hK => ?_) AllReadyIn.nil)
                · go_simp
                  refine hK _ _ ?_
                  clear hK
                  refine wpAnyIn_ready (rs := [1]) (by kernel_rfl) (by simp) ?_
                  refine AllReadyIn.cons rfl (fun K hK => ?_) AllReadyIn.nil
                  go_simp
                  refine hK _ _ ?_
                  clear hK
                  refine wpAnyIn_ready (rs := [2]) (by kernel_rfl) (by simp) ?_
                  refine AllReadyIn.cons rfl (fun K hK => ?_) AllReadyIn.nil
                  go_simp
                  refine ⟨trivial, ((callsIn_wide.2 (HC.out _)).inRound l).mono ?_⟩
                  rintro e w3 ⟨rfl, hB3⟩
                  simp only []
                  have c43 : w3.cell? ⟨w.heap.size + 1 + 1, 0, none⟩ = some (.slice ao3 pre.length cap3) := (hB3.cell (p := ⟨w.heap.size + 1 + 1, 0, none⟩) hlt4).trans c4d
                  refine hK _ _ ?_
                  clear hK
                  refine wpAnyIn_ready (rs := [3]) (by kernel_rfl) (by simp) ?_
                  refine AllReadyIn.cons rfl (fun K hK => ?_) AllReadyIn.nil
                  go_simp
                  refine hK _ _ ?_
                  clear hK
                  refine wpAnyIn_ready (rs := [4]) (by kernel_rfl) (by simp) ?_
                  refine AllReadyIn.cons rfl (fun K hK => ?_) AllReadyIn.nil
                  go_simp
                  refine hK _ _ ?_
                  clear hK
                  exact hvia _ hB3
                · go_simp
                  refine hK _ _ ?_
                  clear hK
                  refine wpAnyIn_ready (rs := [0, 2]) (by kernel_rfl) (by simp) ?_
                  refine AllReadyIn.cons rfl (fun K hK => ?_) (AllReadyIn.cons rfl (fun K hK => ?_) AllReadyIn.nil)
                  · go_simp
                    refine hK _ _ ?_
                    clear hK
                    refine wpAnyIn_ready (rs := [2]) (by kernel_rfl) (by simp) ?_
                    refine AllReadyIn.cons rfl (fun K hK => ?_) AllReadyIn.nil
                    go_simp
                    refine ⟨trivial, ((callsIn_wide.2 (HC.out _)).inRound l).mono ?_⟩
                    rintro e w3 ⟨rfl, hB3⟩
                    simp only []
                    have c43 : w3.cell? ⟨w.heap.size + 1 + 1, 0, none⟩ = some (.slice ao3 pre.length cap3) := (hB3.cell (p := ⟨w.heap.size + 1 + 1, 0, none⟩) hlt4).trans c4d
                    refine hK _ _ ?_
                    clear hK
                    refine wpAnyIn_ready (rs := [3]) (by kernel_rfl) (by simp) ?_
                    refine AllReadyIn.cons rfl (fun K hK => ?_) AllReadyIn.nil
                    go_simp
                    refine hK _ _ ?_
                    clear hK
                    refine wpAnyIn_ready (rs := [4]) (by kernel_rfl) (by simp) ?_
                    refine AllReadyIn.cons rfl (fun K hK => ?_) AllReadyIn.nil
                    go_simp
                    refine hK _ _ ?_
                    clear hK
                    exact hvia _ hB3
                  · go_simp
                    refine ⟨trivial, ((callsIn_wide.2 (HC.out _)).inRound l).mono ?_⟩
                    rintro e w3 ⟨rfl, hB3⟩
                    simp only []
                    have c43 : w3.cell? ⟨w.heap.size + 1 + 1, 0, none⟩ = some (.slice ao3 pre.length cap3) := (hB3.cell (p := ⟨w.heap.size + 1 + 1, 0, none⟩) hlt4).trans c4d
                    refine hK _ _ ?_
                    clear hK
                    refine wpAnyIn_ready (rs := [0, 3]) (by kernel_rfl) (by simp) ?_
                    refine AllReadyIn.cons rfl (fun K hK => ?_) (AllReadyIn.cons rfl (fun K hK => ?_) AllReadyIn.nil)
                    · go_simp
                      refine hK _ _ ?_
                      clear hK
                      refine wpAnyIn_ready (rs := [3]) (by kernel_rfl) (by simp) ?_
                      refine AllReadyIn.cons rfl (fun K hK => ?_) AllReadyIn.nil
                      go_simp
                      refine hK _ _ ?_
                      clear hK
                      refine wpAnyIn_ready (rs := [4]) (by kernel_rfl) (by simp) ?_
                      refine AllReadyIn.cons rfl (fun K hK => ?_) AllReadyIn.nil
                      go_simp
                      refine hK _ _ ?_
                      clear hK
                      exact hvia _ hB3
                    · go_simp
                      refine hK _ _ ?_
                      clear hK
                      refine wpAnyIn_ready (rs := [0, 4]) (by kernel_rfl) (by simp) ?_
                      refine AllReadyIn.cons rfl (fun K hK => ?_) (AllReadyIn.cons rfl (fun K hK => ?_) AllReadyIn.nil)
                      · go_simp
                        refine hK _ _ ?_
                        clear hK
                        refine wpAnyIn_ready (rs := [4]) (by kernel_rfl) (by simp) ?_
                        refine AllReadyIn.cons rfl (fun K hK => ?_) AllReadyIn.nil
                        go_simp
                        refine hK _ _ ?_
                        clear hK
                        exact hvia _ hB3
                      · go_simp
                        refine hK _ _ ?_
                        clear hK
                        refine wpAnyIn_ready (rs := [0]) (by kernel_rfl) (by simp) ?_
                        refine AllReadyIn.cons rfl (fun K hK => ?_) AllReadyIn.nil
                        have c44 : (w3.alloc (.cells #[.int .i64 3, .string x.1] 235)).cell? ⟨w.heap.size + 1 + 1, 0, none⟩ = some (.slice ao3 pre.length cap3) := (World.cell?_alloc_some w3 _ _ (by rw [c43]; rfl)).trans c43
                        go_simp
                        refine hK _ _ ?_
                        clear hK
                        exact hvia _ hB3
    case done =>
      clear hI0 hA0 hW0
      intro D xs W hD hS hI hK
      obtain ⟨ao, cap, ys, hp, ho⟩ := hI.pat
      have HI : Hid (PatI w xs W) := hI
      have HS : Hid (xs.map lst = splitL 47 (lst ⟨s, hs⟩)) := hS
      have HK : Hid (W.heap[D]? = some (.deferred (some []))) := hK
      have c4 : W.cell? ⟨w.heap.size + 1 + 1, 0, none⟩ = some (.slice ao xs.length cap) := hp.cell
      have c2 := hI.r0.cell
      have f2 := hI.r0.frozen
      have c3 := hI.r1.cell
      have f3 := hI.r1.frozen
      clear hI hS hp ho hK
      gi_wp2
      refine noGoto_ret ?_
      have hy : patB s.data.toList = true := pat_yes HD.out HS.out HI.out.le HI.out.all
      have t1 := Tr.set w.heap.size (w.heap.size + 3) W w.heap.size (.slice ao xs.length cap) (Nat.le_refl _) (by omega)
      have t2 := Tr.set w.heap.size (w.heap.size + 3) (W.setCell ⟨w.heap.size, 0, none⟩ (.slice ao xs.length cap)) (w.heap.size + 1) (.bool true) (by omega) (by omega)
      have b0 : Boxed ((W.setCell ⟨w.heap.size, 0, none⟩ (.slice ao xs.length cap)).setCell ⟨w.heap.size + 1, 0, none⟩ (.bool true)) w.heap.size 228 (.slice ao xs.length cap) := (HI.out.r0.set _).kept (grownBy_setCell' _ _ _) (by intro e; injection e with e; omega)
      have b1 : Boxed ((W.setCell ⟨w.heap.size, 0, none⟩ (.slice ao xs.length cap)).setCell ⟨w.heap.size + 1, 0, none⟩ (.bool true)) (w.heap.size + 1) 4 (.bool true) := Boxed.set _ (HI.out.r1.kept (grownBy_setCell' _ _ _) (by intro e; injection e with e; omega))
      have hb := HI.out.below.trans (t1.trans t2).below
      have hK := (t1.trans t2).keep.same D _ HK.out rfl
      generalize (W.setCell ⟨w.heap.size, 0, none⟩ (.slice ao xs.length cap)).setCell ⟨w.heap.size + 1, 0, none⟩ (.bool true) = V at *
      refine ⟨by simp, .inl ⟨D, _, rfl, run_takeDeferred hK, ?_⟩⟩
      have e0 := (b0.kept (grownBy_putObj' V D (.deferred none)) (by intro e; injection e with e; omega)).cell
      have e1 := (b1.kept (grownBy_putObj' V D (.deferred none)) (by intro e; injection e with e; omega)).cell
      refine ⟨.tuple #[.slice ao xs.length cap, .bool true], ?_, ⟨ao, xs.length, cap, by rw [hy], below_putObj hb (by omega) _⟩⟩
      simp [results, Tryz.f185, go_sem, e0, e1]
    case stop =>
      clear hI0 hA0 hW0
      intro D c pre W hD hS hX hK
      obtain rfl := hX.ret
      gi_wp2
      refine noGoto_ret ?_
      have hy : patB s.data.toList = false := by
        obtain ⟨r, hr⟩ := hS
        exact pat_no HD.out hr hX.bad
      refine ⟨by simp, .inl ⟨D, _, rfl, run_takeDeferred hK, ?_⟩⟩
      have e0 := (hX.r0.kept (grownBy_putObj' W D (.deferred none)) (by intro e; injection e with e; omega)).cell
      have e1 := (hX.r1.kept (grownBy_putObj' W D (.deferred none)) (by intro e; injection e with e; omega)).cell
      refine ⟨.tuple #[.slice none 0 0, .bool false], ?_, ⟨none, 0, 0, by rw [hy], below_putObj hX.below (by omega) _⟩⟩
      simp [results, Tryz.f185, go_sem, e0, e1]
  · have hy : patB s.data.toList = true := by unfold patB; rw [← Lib.toList_data, hd]; rfl
    have HY : Hid (patB s.data.toList = true) := hy
    clear hy
    refine (callsIn_wide (n := 10)).1 ?_
    refine callsIn_of_wp_marks Tryz.func185 rfl trivial ?_ rfl
    simp only [Tryz.ntmps185, List.size_toArray, List.length_cons, List.length_nil, Nat.reduceAdd, Nat.reduceSub, Array.replicate_succ, Array.replicate_zero, List.push_toArray, List.append_toArray, List.nil_append, List.cons_append]
    gi_wp2
    refine wpIn_wide.2 (wp_scope_straight ((wpIn_wide (n := 10)).1 ?_))
    gi_wp2
    repeat (first | refine then_ret ?_ | refine noGoto_ret ?_)
    have e0 : ((w.alloc (.cells #[.slice none 0 0] 228)).alloc (.cells #[.bool true] 4)).cell? ⟨w.heap.size, 0, none⟩ = some (.slice none 0 0) := ((Boxed.new w 228 (.slice none 0 0)).alloc _).cell
    have e1 : ((w.alloc (.cells #[.slice none 0 0] 228)).alloc (.cells #[.bool true] 4)).cell? ⟨w.heap.size + 1, 0, none⟩ = some (.bool true) := by
      have := (Boxed.new (w.alloc (.cells #[.slice none 0 0] 228)) 4 (.bool true)).cell
      rwa [World.size_alloc] at this
    refine ⟨.tuple #[.slice none 0 0, .bool true], ?_, ⟨none, 0, 0, by rw [HY.out], ?_⟩⟩
    · simp [results, Tryz.f185, go_sem, e0, e1]
    · exact ((Below.refl _ _).alloc (Nat.le_refl _) _).alloc (by simp) _
end Go.Proofs.YtllcbnfmihfaaaaGreatDoor
