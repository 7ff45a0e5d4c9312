import Derived.Test.YtllcbnfmihfaaaaGreatDoorLq25
import Derived.Test.YtllcbnfmihfaaaaGreatDoorLq26
namespace Go.Proofs.YtllcbnfmihfaaaaGreatDoor
open Go.RowKit Go.Shelf
attribute [local go_sem] Oper.semAt_some

theorem fb_pre {n : Nat} : ∀ (q r : List (List UInt8)) (i : Nat), q.all (ruleB n) = true → i + q.length ≤ 16 → firstBad n (q ++ r) i = firstBad n r (i + q.length)
  | [], r, i, _, _ => rfl
  | x :: q, r, i, h, hl => by
    rw [List.all_cons, Bool.and_eq_true] at h
    rw [List.length_cons] at hl
    rw [List.cons_append, firstBad, if_pos ⟨h.1, by omega⟩, fb_pre q r (i + 1) h.2 (by omega), List.length_cons]
    congr 1
    omega
theorem fb_ge {n : Nat} : ∀ (q : List (List UInt8)) (i : Nat), -1 ≤ firstBad n q i
  | [], _ => Int.le_refl _
  | x :: q, i => by
    unfold firstBad
    split
    · exact fb_ge q (i + 1)
    · omega
/-- The error, the line. -/
def polE (n : Nat) (l : List UInt8) : Int := if 0 ≤ rulesV n l then 6 else 0
def polN (n : Nat) (l : List UInt8) : Int := if 0 ≤ rulesV n l then rulesV n l else 0

structure RdI (w : World) (n : Nat) (pre : List Str) (W : World) : Prop where
  below : Below w.heap.size w W
  lab : Boxed W w.heap.size 3 (.int .i64 n)
  r0 : Boxed W (w.heap.size + 1) 108 (.slice none 0 0)
  r1 : Boxed W (w.heap.size + 2) 31 (.int .i64 0)
  r2 : Boxed W (w.heap.size + 3) 3 (.int .i64 0)
  rules : ∃ ao cap xs, Boxed W (w.heap.size + 4) 108 (.slice ao pre.length cap) ∧ W.ownsRow (w.heap.size + 8) 230 3 (.slice ao pre.length cap) pre.length xs
  le : pre.length ≤ 16
  all : (pre.map lst).all (ruleB n) = true
  size : w.heap.size + 8 ≤ W.heap.size
theorem RdI.own {w : World} {n : Nat} {pre : List Str} {W W' : World} {row : Nat} (h : RdI w n pre W) (hg : W.grownBy W' (some row)) (h1 : row = w.heap.size + 5 ∨ (w.heap.size + 8 ≤ row ∧ ∃ o, W.heap[row]? = some o ∧ o.isCells = false)) : RdI w n pre W' := by
  obtain ⟨ao, cap, xs, hp, ho⟩ := h.rules
  refine ⟨h.below.trans ⟨hg.os, hg.tape, hg.output, hg.size, fun i hi => hg.block i (by have := h.size; omega) (by intro e; injection e with e; omega)⟩, h.lab.kept hg (by intro e; injection e with e; omega), h.r0.kept hg (by intro e; injection e with e; omega), h.r1.kept hg (by intro e; injection e with e; omega), h.r2.kept hg (by intro e; injection e with e; omega), ⟨ao, cap, xs, hp.kept hg (by intro e; injection e with e; omega), ho.kept hg ?_⟩, h.le, h.all, Nat.le_trans h.size hg.size⟩
  rcases ho.2 with ⟨h0, _⟩ | ⟨g', cap', cur, h0, hb', hh, _⟩
  · left; rw [h0]; rfl
  · right
    rw [h0]
    intro e
    cases e
    rcases h1 with h1 | ⟨_, o, ho', hc⟩
    · have h1' : g' = w.heap.size + 5 := h1
      omega
    · rw [hh] at ho'
      cases ho'
      cases hc
structure RdX (w : World) (n : Nat) (pre : List Str) (c : Code) (W : World) : Prop where
  ret : c = .ret
  below : Below w.heap.size w W
  r0 : Boxed W (w.heap.size + 1) 108 (.slice none 0 0)
  r1 : Boxed W (w.heap.size + 2) 31 (.int .i64 6)
  bad : ∃ q x, pre = q ++ [x] ∧ Boxed W (w.heap.size + 3) 3 (.int .i64 (q.length : Nat)) ∧ (q.map lst).all (ruleB n) = true ∧ q.length ≤ 16 ∧ ¬ (ruleB n (lst x) = true ∧ q.length < 16)
  size : w.heap.size + 8 ≤ W.heap.size
theorem RdX.own {w : World} {n : Nat} {pre : List Str} {c : Code} {W W' : World} {row : Nat} (h : RdX w n pre c W) (hg : W.grownBy W' (some row)) (h1 : w.heap.size + 4 ≤ row) : RdX w n pre c W' := by
  obtain ⟨q, x, e, hb, ha, hl, hx⟩ := h.bad
  exact ⟨h.ret, h.below.trans ⟨hg.os, hg.tape, hg.output, hg.size, fun i hi => hg.block i (by have := h.size; omega) (by intro e; injection e with e; omega)⟩, h.r0.kept hg (by intro e; injection e with e; omega), h.r1.kept hg (by intro e; injection e with e; omega), ⟨q, x, e, hb.kept hg (by intro e; injection e with e; omega), ha, hl, hx⟩, Nat.le_trans h.size hg.size⟩
/-- 'return nil, ErrPolicy, len(rules)'. -/
theorem RdI.out {w : World} {n : Nat} {pre : List Str} {W : World} (x : Str) (h : RdI w n pre W) (hx : ¬ (ruleB n (lst x) = true ∧ pre.length < 16)) : RdX w n (pre ++ [x]) .ret (((W.setCell ⟨w.heap.size + 1, 0, none⟩ (.slice none 0 0)).setCell ⟨w.heap.size + 1 + 1, 0, none⟩ (.int .i64 6)).setCell ⟨w.heap.size + 1 + 1 + 1, 0, none⟩ (.int .i64 (pre.length : Nat))) ∧
    Tr w.heap.size (w.heap.size + 5) W (((W.setCell ⟨w.heap.size + 1, 0, none⟩ (.slice none 0 0)).setCell ⟨w.heap.size + 1 + 1, 0, none⟩ (.int .i64 6)).setCell ⟨w.heap.size + 1 + 1 + 1, 0, none⟩ (.int .i64 (pre.length : Nat))) := by
  have t1 := Tr.set w.heap.size (w.heap.size + 5) W (w.heap.size + 1) (.slice none 0 0) (by omega) (by omega)
  have t2 := Tr.set w.heap.size (w.heap.size + 5) (W.setCell ⟨w.heap.size + 1, 0, none⟩ (.slice none 0 0)) (w.heap.size + 1 + 1) (.int .i64 6) (by omega) (by omega)
  have t3 := Tr.set w.heap.size (w.heap.size + 5) ((W.setCell ⟨w.heap.size + 1, 0, none⟩ (.slice none 0 0)).setCell ⟨w.heap.size + 1 + 1, 0, none⟩ (.int .i64 6)) (w.heap.size + 1 + 1 + 1) (.int .i64 (pre.length : Nat)) (by omega) (by omega)
  have g1 := grownBy_setCell' W (w.heap.size + 1) (.slice none 0 0)
  have g2 := grownBy_setCell' (W.setCell ⟨w.heap.size + 1, 0, none⟩ (.slice none 0 0)) (w.heap.size + 1 + 1) (.int .i64 6)
  have g3 := grownBy_setCell' ((W.setCell ⟨w.heap.size + 1, 0, none⟩ (.slice none 0 0)).setCell ⟨w.heap.size + 1 + 1, 0, none⟩ (.int .i64 6)) (w.heap.size + 1 + 1 + 1) (.int .i64 (pre.length : Nat))
  refine ⟨⟨rfl, h.below.trans ((t1.trans t2).trans t3).below, ?_, ?_, ⟨pre, x, rfl, ?_, h.all, h.le, hx⟩, ?_⟩, (t1.trans t2).trans t3⟩
  · exact ((h.r0.set _).kept g2 (by intro e; injection e with e; omega)).kept g3 (by intro e; injection e with e; omega)
  · exact (Boxed.set _ (h.r1.kept g1 (by intro e; injection e with e; omega))).kept g3 (by intro e; injection e with e; omega)
  · exact Boxed.set _ ((h.r2.kept g1 (by intro e; injection e with e; omega)).kept g2 (by intro e; injection e with e; omega))
  · simp [World.setCell]; exact h.size
theorem RdI.alloc {w : World} {n : Nat} {pre : List Str} {W : World} (h : RdI w n pre W) (o : Obj) : RdI w n pre (W.alloc o) := h.own (World.grownBy_alloc W o (some (w.heap.size + 5))) (.inl rfl)
theorem RdI.belowS {w : World} {n : Nat} {pre : List Str} {W W' : World} (h : RdI w n pre W) (hb : Below W.heap.size W W') : RdI w n pre W' :=
  h.own (row := w.heap.size + 5) ⟨hb.os, hb.tape, hb.output, hb.size, fun i hi _ => hb.block i hi⟩ (.inl rfl)
theorem rd_fin {w W V w5 : World} {n : Nat} {pre : List Str} {x : Str} {v v' : Value} {xs ys : List Value} (h : RdI w n pre V) (ht : Tr w.heap.size (w.heap.size + 5) W V) (hp : Boxed V (w.heap.size + 4) 108 v) (ho : V.ownsRow (w.heap.size + 8) 230 3 v pre.length xs)
    (ho' : w5.ownsRow (w.heap.size + 8) 230 3 v' (pre.length + 1) ys) (hg : V.grownBy w5 v.ownBlock) (h16 : ¬ (pre.length : Int) = 16) (hs : ruleB n (lst x) = true) :
    KeepsOthers W (w5.setCell ⟨w.heap.size + 1 + 1 + 1 + 1, 0, none⟩ v') ∧ KeepR (w.heap.size + 5) (w.heap.size + 5 + 3) W (w5.setCell ⟨w.heap.size + 1 + 1 + 1 + 1, 0, none⟩ v') ∧ RdI w n (pre ++ [x]) (w5.setCell ⟨w.heap.size + 1 + 1 + 1 + 1, 0, none⟩ v') := by
  have key := fun g h => own_block ho (g := g) h
  have t1 : Tr w.heap.size (w.heap.size + 5) V w5 := Tr.grown ho hg h.size (by omega) (by omega)
  have t2 := Tr.set w.heap.size (w.heap.size + 5) w5 (w.heap.size + 4) v' (by omega) (by omega)
  have g2 := grownBy_setCell' w5 (w.heap.size + 4) v'
  have hp5 : Boxed w5 (w.heap.size + 4) 108 v := hp.kept hg (fun e => by have := key _ e.symm; omega)
  obtain ⟨g, cap, rfl⟩ := ownsRow_succ ho'
  refine ⟨(ht.trans (t1.trans t2)).keep, (ht.trans (t1.trans t2)).mid, ⟨h.below.trans (t1.trans t2).below, ?_, ?_, ?_, ?_, ⟨some ⟨g, 0, none⟩, cap, ys, ?_, ?_⟩, ?_, ?_, ?_⟩⟩
  · exact (h.lab.kept hg (fun e => by have := key _ e.symm; omega)).kept g2 (by intro e; injection e with e; omega)
  · exact (h.r0.kept hg (fun e => by have := key _ e.symm; omega)).kept g2 (by intro e; injection e with e; omega)
  · exact (h.r1.kept hg (fun e => by have := key _ e.symm; omega)).kept g2 (by intro e; injection e with e; omega)
  · exact (h.r2.kept hg (fun e => by have := key _ e.symm; omega)).kept g2 (by intro e; injection e with e; omega)
  · rw [List.length_append]; exact hp5.set _
  · rw [List.length_append]
    refine ho'.kept g2 (.inr (fun e => ?_))
    have := own_block ho' e
    omega
  · have := h.le; rw [List.length_append]; simp; omega
  · rw [List.map_append, List.all_append, h.all]; simp [hs]
  · exact Nat.le_trans h.size (t1.trans t2).below.size
theorem RdI.drew {w : World} {n : Nat} {pre : List Str} {W : World} (h : RdI w n pre W) : RdI w n pre W.drew := h.belowS (Below.refl _ _).drew
theorem tr_drew {N k : Nat} (W : World) (hN : N ≤ W.heap.size) (hk : k + 3 ≤ W.heap.size) : Tr N k W W.drew := Tr.below' (Below.refl _ _).drew hN hk
theorem Tryz.infoRule2 : (Tryz.prog.info? 230).map (fun i => (i.zero, i.size, i.bytes)) = some (some (.agg zRul), 3, 40) := by kernel_rfl
theorem rd_yes {n : Nat} {s : ByteArray} {hs : s.size ≤ 2000} {xs : List Str} (hne : ¬ s.size = 0) (h : xs.map lst = splitL 10 (lst ⟨s, hs⟩)) (h8 : xs.length ≤ 16) (ha : (xs.map lst).all (ruleB n) = true) : rulesV n s.data.toList = -1 := by
  have h' : splitL 10 s.data.toList = xs.map lst := h.symm
  have hl : s.data.toList.length = s.size := Array.length_toList
  unfold rulesV
  rw [if_neg (by omega), if_neg (by omega), h']
  have := fb_pre (n := n) (xs.map lst) [] 0 ha (by rw [List.length_map]; omega)
  rw [List.append_nil] at this
  rw [this]; rfl
theorem rd_no {n : Nat} {s : ByteArray} {hs : s.size ≤ 2000} {q : List Str} {x : Str} {r : List (List UInt8)} (hne : ¬ s.size = 0) (h : splitL 10 (lst ⟨s, hs⟩) = (q ++ [x]).map lst ++ r) (ha : (q.map lst).all (ruleB n) = true) (hl8 : q.length ≤ 16) (hx : ¬ (ruleB n (lst x) = true ∧ q.length < 16)) : rulesV n s.data.toList = q.length := by
  have h' : splitL 10 s.data.toList = (q ++ [x]).map lst ++ r := h
  have hl : s.data.toList.length = s.size := Array.length_toList
  unfold rulesV
  rw [if_neg (by omega), if_neg (by omega), h', List.map_append, List.append_assoc, fb_pre (q.map lst) _ 0 ha (by rw [List.length_map]; omega)]
  simp only [List.map_cons, List.map_nil, List.cons_append, List.nil_append, List.length_map, Nat.zero_add]
  rw [firstBad, if_neg hx]
theorem rdI_nil (w : World) (n : Nat) (s : ByteArray) (W0 : World) (hW0 : ((((((((w.alloc (.cells #[.int .i64 n] 3)).alloc (.cells #[.slice none 0 0] 108)).alloc (.cells #[.int .i64 0] 31)).alloc (.cells #[.int .i64 0] 3)).alloc (.cells #[.slice none 0 0] 108)).alloc (.cells #[.string s] 9)).alloc (.cells #[.string ⟨#[10]⟩] 9)).alloc (.cells #[.int .i64 0] 3)) = W0) : RdI w n [] W0 := by
  subst hW0
  refine ⟨?_, ?_, ?_, ?_, ?_, ⟨none, 0, [], ?_, World.ownsRow_nil _ _ _ _⟩, Nat.zero_le _, rfl, by simp⟩
  · exact ((((((((Below.refl _ _).alloc (Nat.le_refl _) _).alloc (by simp) _).alloc (by simp; omega) _).alloc (by simp; omega) _).alloc (by simp; omega) _).alloc (by simp; omega) _).alloc (by simp; omega) _).alloc (by simp; omega) _
  · exact (((((((Boxed.new w _ _).alloc _).alloc _).alloc _).alloc _).alloc _).alloc _).alloc _
  · have := Boxed.new (w.alloc (.cells #[.int .i64 n] 3)) 108 (.slice none 0 0)
    rw [World.size_alloc] at this
    exact (((((this.alloc _).alloc _).alloc _).alloc _).alloc _).alloc _
  · have := Boxed.new ((w.alloc (.cells #[.int .i64 n] 3)).alloc (.cells #[.slice none 0 0] 108)) 31 (.int .i64 0)
    rw [World.size_alloc, World.size_alloc] at this
    exact ((((this.alloc _).alloc _).alloc _).alloc _).alloc _
  · have := Boxed.new (((w.alloc (.cells #[.int .i64 n] 3)).alloc (.cells #[.slice none 0 0] 108)).alloc (.cells #[.int .i64 0] 31)) 3 (.int .i64 0)
    rw [World.size_alloc, World.size_alloc, World.size_alloc] at this
    exact (((this.alloc _).alloc _).alloc _).alloc _
  · have := Boxed.new ((((w.alloc (.cells #[.int .i64 n] 3)).alloc (.cells #[.slice none 0 0] 108)).alloc (.cells #[.int .i64 0] 31)).alloc (.cells #[.int .i64 0] 3)) 108 (.slice none 0 0)
    rw [World.size_alloc, World.size_alloc, World.size_alloc, World.size_alloc] at this
    exact ((this.alloc _).alloc _).alloc _
theorem splAt_mk2 (w : World) (n : Nat) (s : ByteArray) (W0 : World) (hW0 : ((((((((w.alloc (.cells #[.int .i64 n] 3)).alloc (.cells #[.slice none 0 0] 108)).alloc (.cells #[.int .i64 0] 31)).alloc (.cells #[.int .i64 0] 3)).alloc (.cells #[.slice none 0 0] 108)).alloc (.cells #[.string s] 9)).alloc (.cells #[.string ⟨#[10]⟩] 9)).alloc (.cells #[.int .i64 0] 3)) = W0) : SplAt (w.heap.size + 5) 10 W0 s := by
  subst hW0
  generalize hA : ((((w.alloc (.cells #[.int .i64 n] 3)).alloc (.cells #[.slice none 0 0] 108)).alloc (.cells #[.int .i64 0] 31)).alloc (.cells #[.int .i64 0] 3)).alloc (.cells #[.slice none 0 0] 108) = A
  have hs : w.heap.size + 5 = A.heap.size := by rw [← hA]; simp
  rw [hs]
  refine ⟨?_, ?_, ?_⟩
  · exact ((Below.heap_alloc _ _ _ (by simp; omega)).trans (Below.heap_alloc _ _ _ (by simp))).trans (heap_new A _)
  · refine (Below.heap_alloc _ _ _ (by simp)).trans ?_
    have := heap_new (A.alloc (.cells #[.string s] 9)) (.cells #[.string ⟨#[10]⟩] 9)
    rwa [World.size_alloc] at this
  · have := heap_new ((A.alloc (.cells #[.string s] 9)).alloc (.cells #[.string ⟨#[10]⟩] 9)) (.cells #[.int .i64 0] 3)
    rwa [World.size_alloc, World.size_alloc] at this

theorem three_cells (w : World) (n : Nat) (e : Int) :
    ((((w.alloc (.cells #[.int .i64 n] 3)).alloc (.cells #[.slice none 0 0] 108)).alloc (.cells #[.int .i64 e] 31)).alloc (.cells #[.int .i64 0] 3)).cell? ⟨w.heap.size + 1, 0, none⟩ = some (.slice none 0 0) ∧
    ((((w.alloc (.cells #[.int .i64 n] 3)).alloc (.cells #[.slice none 0 0] 108)).alloc (.cells #[.int .i64 e] 31)).alloc (.cells #[.int .i64 0] 3)).cell? ⟨w.heap.size + 1 + 1, 0, none⟩ = some (.int .i64 e) ∧
    ((((w.alloc (.cells #[.int .i64 n] 3)).alloc (.cells #[.slice none 0 0] 108)).alloc (.cells #[.int .i64 e] 31)).alloc (.cells #[.int .i64 0] 3)).cell? ⟨w.heap.size + 1 + 1 + 1, 0, none⟩ = some (.int .i64 0) := by
  refine ⟨?_, ?_, ?_⟩
  · have := Boxed.new (w.alloc (.cells #[.int .i64 n] 3)) 108 (.slice none 0 0)
    rw [World.size_alloc] at this
    exact ((this.alloc _).alloc _).cell
  · have := Boxed.new ((w.alloc (.cells #[.int .i64 n] 3)).alloc (.cells #[.slice none 0 0] 108)) 31 (.int .i64 e)
    rw [World.size_alloc, World.size_alloc] at this
    exact (this.alloc _).cell
  · have := Boxed.new (((w.alloc (.cells #[.int .i64 n] 3)).alloc (.cells #[.slice none 0 0] 108)).alloc (.cells #[.int .i64 e] 31)) 3 (.int .i64 0)
    rw [World.size_alloc, World.size_alloc, World.size_alloc] at this
    exact this.cell

set_option maxRecDepth 100000 in
set_option maxHeartbeats 4000000 in
theorem polRead_any (s : ByteArray) (n : Nat) (w : World) (hgl : Glob w) :
    Calls Tryz.prog 83 #[.string s, .int .i64 n] w fun e w' => ∃ a m cap, e = .returned (.tuple #[.slice a m cap, .int .i64 (polE n s.data.toList), .int .i64 (polN n s.data.toList)]) ∧ Below w.heap.size w w' := by
  have hl : s.data.toList.length = s.size := Array.length_toList
  obtain ⟨i0, hi, hz0, hz1, hz2⟩ := info_parts Tryz.infoRule2
  have HG : Hid (Glob w) := hgl
  clear hgl
  by_cases hbig : (2000 : Int) < s.size
  · have hy : rulesV n s.data.toList = 0 := by unfold rulesV; rw [if_pos (by omega)]
    have HE : Hid (polE n s.data.toList = 6) := by show _ = _; unfold polE; rw [hy]; rfl
    have HN : Hid (polN n s.data.toList = 0) := by show _ = _; unfold polN; rw [hy]; rfl
    clear hy
    go_enter Tryz.func83, Tryz.ntmps83
    go_wp2
    have e3 := three_cells w n 6
    have hb : Below w.heap.size w ((((w.alloc (.cells #[.int .i64 n] 3)).alloc (.cells #[.slice none 0 0] 108)).alloc (.cells #[.int .i64 6] 31)).alloc (.cells #[.int .i64 0] 3)) := (((((Below.refl _ _).alloc (Nat.le_refl _) _).alloc (by simp) _).alloc (by simp; omega) _).alloc (by simp; omega) _)
    generalize (((w.alloc (.cells #[.int .i64 n] 3)).alloc (.cells #[.slice none 0 0] 108)).alloc (.cells #[.int .i64 6] 31)).alloc (.cells #[.int .i64 0] 3) = V at *
    obtain ⟨e0, e1, e2⟩ := e3
    refine bodyPost_ret (v := .tuple #[.slice none 0 0, .int .i64 6, .int .i64 0]) (by simp [results, Tryz.f83, go_sem, e0, e1, e2]) rfl ?_
    first | exact ⟨none, 0, 0, by rw [HE.out, HN.out], hb⟩ | exact ⟨⟨none, 0, 0, by rw [HE.out, HN.out]⟩, hb⟩
  · have hs : s.size ≤ 2000 := by omega
    cases hd : (s.toList == [])
    · have HNE : Hid (¬ s.size = 0) := by
        intro h
        have : s.data.toList = [] := List.eq_nil_of_length_eq_zero (by omega)
        rw [Lib.toList_data, this] at hd
        cases hd
      refine (callsIn_wide (n := 10)).1 ?_
      refine callsIn_of_wp_marks Tryz.func83 rfl trivial ?_ rfl
      simp only [Tryz.ntmps83, List.size_toArray, List.length_cons, List.length_nil, Nat.reduceAdd, Nat.reduceSub, Array.replicate_succ, Array.replicate_zero, List.push_toArray, List.append_toArray, List.nil_append, List.cons_append]
      gi_wp2_with fail
      refine ⟨trivial, (callsIn_wide.2 (splitSeq_any s ⟨#[10]⟩ _)).mono ?_⟩
      rintro e w' ⟨rfl, rfl⟩
      simp only [World.size_alloc]
      gi_wp2
      obtain ⟨W0, hW0⟩ : ∃ W0, ((((((((w.alloc (.cells #[.int .i64 n] 3)).alloc (.cells #[.slice none 0 0] 108)).alloc (.cells #[.int .i64 0] 31)).alloc (.cells #[.int .i64 0] 3)).alloc (.cells #[.slice none 0 0] 108)).alloc (.cells #[.string s] 9)).alloc (.cells #[.string ⟨#[10]⟩] 9)).alloc (.cells #[.int .i64 0] 3)) = W0 := ⟨_, rfl⟩
      have hsz : W0.heap.size = w.heap.size + 8 := by rw [← hW0]; simp
      have hI0 : RdI w n [] W0 := rdI_nil w n s W0 hW0
      have hA0 : SplAt (w.heap.size + 5) 10 W0 s := splAt_mk2 w n s W0 hW0
      rw [hW0]
      refine wpIn_rangeFunc_st rfl (by omega) (gf := 213) (lb := #[.pointer (some ⟨w.heap.size + 1 + 1 + 1 + 1 + 1 + 1, 0, none⟩), .pointer (some ⟨w.heap.size + 1 + 1 + 1 + 1 + 1, 0, none⟩), .pointer (some ⟨w.heap.size + 1 + 1 + 1 + 1 + 1 + 1 + 1, 0, none⟩)]) rfl trivial (enters_of Tryz.func213 (by kernel_rfl) rfl)
        (st := w.heap.size + 5) (by omega) (lo := w.heap.size + 5) (hi := w.heap.size + 5 + 3) (by omega) (split_seq 9 (w.heap.size + 5) 10 ⟨s, hs⟩ W0 hA0) (Below.refl _ _) (fun x => rfl)
        (fun pre W => RdI w n pre W) (fun c pre W => RdX w n pre c W)
        (fun pre A B h hg => h.own hg (.inl rfl)) (fun c pre A B h hg => h.own hg (by omega))
        (fun pre A k o o' h hB hk hc => h.own (grownBy_putObj' A k o') (.inr ⟨by omega, o, hk, hc⟩)) (fun c pre A k o o' h hB hk hc => h.own (grownBy_putObj' A k o') (by omega))
        hI0
        (fun x => { tmps := #[.string s, .int .i64 n, undef, .pointer (some ⟨w.heap.size, 0, none⟩), .pointer (some ⟨w.heap.size + 1, 0, none⟩), .pointer (some ⟨w.heap.size + 1 + 1, 0, none⟩), .pointer (some ⟨w.heap.size + 1 + 1 + 1, 0, none⟩), .pointer (some ⟨w.heap.size + 1 + 1 + 1 + 1, 0, none⟩), .string x.1, undef, undef, .string s, .int .i64 s.size, .bool false, .string s, .bool false, .string s, .func (.func 213) #[] #[.pointer (some ⟨w.heap.size + 1 + 1 + 1 + 1 + 1 + 1, 0, none⟩), .pointer (some ⟨w.heap.size + 1 + 1 + 1 + 1 + 1, 0, none⟩), .pointer (some ⟨w.heap.size + 1 + 1 + 1 + 1 + 1 + 1 + 1, 0, none⟩)], .string x.1, undef, undef, undef, undef, undef, undef, undef, undef, undef, undef, undef, undef, undef, undef, undef, undef, undef, undef, undef, undef], defers := [] }) ?assign ?body ?done ?stop
      case assign =>
        intro l x W K hK
        gi_wp2
        exact hK
      case body =>
        clear hI0 hA0 hW0 hsz
        intro l pre x W hI hlt
        have HI : Hid (RdI w n pre W) := hI
        have c0 := hI.lab.cell
        have cR := readRule_any x.1 n W x.2 (HG.out.below hI.below)
        clear hI
        gi_wp2_with fail
        refine ⟨trivial, ((callsIn_wide.2 cR).inRound l).mono ?_⟩
        clear cR c0
        rintro e w2 ⟨ra, rm, rc, rx, ry, rfl, hB⟩
        simp only [rulA]
        have HI2 : Hid (RdI w n pre w2) := HI.out.belowS hB
        have HT2 : Hid (Tr w.heap.size (w.heap.size + 5) W w2) := Tr.below' hB (by have := HI.out.size; omega) (by have := HI.out.size; omega)
        clear hB HI
        have hz7 := HI2.out.size
        have HI3 : Hid (RdI w n pre (w2.alloc (.cells #[.slice ra rm rc, .int .i64 rx, .int .i64 ry] 230))) := HI2.out.alloc _
        have HT3 : Hid (Tr w.heap.size (w.heap.size + 5) W (w2.alloc (.cells #[.slice ra rm rc, .int .i64 rx, .int .i64 ry] 230))) := HT2.out.trans (Tr.alloc _ _ _ _ (by omega) (by omega))
        have hle := HI3.out.le
        cases hr : ruleB n x.1.data.toList
        · have hnx : ¬ (ruleB n (lst x) = true ∧ pre.length < 16) := fun h => by have h1 : ruleB n x.1.data.toList = true := h.1; rw [hr] at h1; cases h1
          have HNX : Hid (¬ (ruleB n (lst x) = true ∧ pre.length < 16)) := hnx
          clear hnx
          gi_wp2
          generalize w2.alloc (.cells #[.slice ra rm rc, .int .i64 rx, .int .i64 ry] 230) = V at *
          obtain ⟨ao, cap, xs, hp, ho⟩ := HI3.out.rules
          have c4 : V.cell? ⟨w.heap.size + 1 + 1 + 1 + 1, 0, none⟩ = some (.slice ao pre.length cap) := hp.cell
          have c1 := HI3.out.r0.cell
          have f1 := HI3.out.r0.frozen
          have c2 : V.cell? ⟨w.heap.size + 1 + 1, 0, none⟩ = some (.int .i64 0) := HI3.out.r1.cell
          have f2 : V.frozen? ⟨w.heap.size + 1 + 1, 0, none⟩ = false := HI3.out.r1.frozen
          have c3 : V.cell? ⟨w.heap.size + 1 + 1 + 1, 0, none⟩ = some (.int .i64 0) := HI3.out.r2.cell
          have f3 : V.frozen? ⟨w.heap.size + 1 + 1 + 1, 0, none⟩ = false := HI3.out.r2.frozen
          clear hp ho
          gi_region
          all_goals gi_wp2
          all_goals exact ⟨((HT3.out.trans (tr_drew V (by have := HI3.out.size; omega) (by have := HI3.out.size; omega))).trans (HI3.out.drew.out x HNX.out).2).keep, (HI3.out.drew.out x HNX.out).1⟩
        · have hsz2 : w2.heap.size < (w2.alloc (.cells #[.slice ra rm rc, .int .i64 rx, .int .i64 ry] 230)).heap.size := by simp
          have hrow := heap_new w2 (.cells #[.slice ra rm rc, .int .i64 rx, .int .i64 ry] 230)
          obtain ⟨ao, cap, xs, hp, ho⟩ := HI3.out.rules
          have c4 : (w2.alloc (.cells #[.slice ra rm rc, .int .i64 rx, .int .i64 ry] 230)).cell? ⟨w.heap.size + 1 + 1 + 1 + 1, 0, none⟩ = some (.slice ao pre.length cap) := hp.cell
          have HP : Hid (Boxed (w2.alloc (.cells #[.slice ra rm rc, .int .i64 rx, .int .i64 ry] 230)) (w.heap.size + 4) 108 (.slice ao pre.length cap)) := hp
          have HO : Hid ((w2.alloc (.cells #[.slice ra rm rc, .int .i64 rx, .int .i64 ry] 230)).ownsRow (w.heap.size + 8) 230 3 (.slice ao pre.length cap) pre.length xs) := ho
          clear hp ho
          by_cases h16 : (pre.length : Int) = 16
          · have HNX : Hid (¬ (ruleB n (lst x) = true ∧ pre.length < 16)) := fun h => by omega
            have c1 := HI3.out.r0.cell
            have f1 := HI3.out.r0.frozen
            have c2 : (w2.alloc (.cells #[.slice ra rm rc, .int .i64 rx, .int .i64 ry] 230)).cell? ⟨w.heap.size + 1 + 1, 0, none⟩ = some (.int .i64 0) := HI3.out.r1.cell
            have f2 : (w2.alloc (.cells #[.slice ra rm rc, .int .i64 rx, .int .i64 ry] 230)).frozen? ⟨w.heap.size + 1 + 1, 0, none⟩ = false := HI3.out.r1.frozen
            have c3 : (w2.alloc (.cells #[.slice ra rm rc, .int .i64 rx, .int .i64 ry] 230)).cell? ⟨w.heap.size + 1 + 1 + 1, 0, none⟩ = some (.int .i64 0) := HI3.out.r2.cell
            have f3 : (w2.alloc (.cells #[.slice ra rm rc, .int .i64 rx, .int .i64 ry] 230)).frozen? ⟨w.heap.size + 1 + 1 + 1, 0, none⟩ = false := HI3.out.r2.frozen
            gi_wp2
            generalize w2.alloc (.cells #[.slice ra rm rc, .int .i64 rx, .int .i64 ry] 230) = V at *
            gi_region
            all_goals gi_wp2
            all_goals
              have o := HI3.out.drew.out x HNX.out
              rw [h16] at o
              exact ⟨((HT3.out.trans (tr_drew V (by have := HI3.out.size; omega) (by have := HI3.out.size; omega))).trans o.2).keep, o.1⟩
          · have HRB : Hid (ruleB n (lst x) = true) := hr
            gi_wp2_with (first
              | (gi_at_builtin; refine wpListIn_append_own _ rfl _ _ 108 rfl (w.heap.size + 8) 230 i0 (.agg zRul) 3 40 Tryz.underlying108 hi hz0 hz1 hz2 rfl (by decide) _ _ _ rfl (HO.out.alloc _) ⟨w2.heap.size + 1, 0, none⟩ 1 1 [.slice ra rm rc, .int .i64 rx, .int .i64 ry] rfl rfl (cell_row_new2 _ _ _ _) (fun x hx => by simp at hx; rcases hx with rfl | rfl | rfl <;> rfl) (by unfold maxLen; omega) (by omega) (by simp; omega) ?_; intro v' w5 hown' hgrow5 hnil5; clear hnil5; obtain ⟨g5, cap5, rfl⟩ := ownsRow_succ hown'; have hp5 : Boxed w5 (w.heap.size + 4) 108 (.slice ao pre.length cap) := (HP.out.alloc _).kept hgrow5 (fun e => by have := own_block HO.out e.symm; omega); have c5 : w5.cell? ⟨w.heap.size + 1 + 1 + 1 + 1, 0, none⟩ = some (.slice ao pre.length cap) := hp5.cell; have f5 : w5.frozen? ⟨w.heap.size + 1 + 1 + 1 + 1, 0, none⟩ = false := hp5.frozen; clear hp5))
            exact rd_fin (HI3.out.alloc _) (HT3.out.trans (Tr.alloc _ _ _ _ (by simp; omega) (by simp; omega))) (HP.out.alloc _) (HO.out.alloc _) hown' hgrow5 h16 HRB.out
      case done =>
        clear hI0 hA0 hW0
        intro D xs W hD hS hI hK
        obtain ⟨ao, cap, ys, hp, ho⟩ := hI.rules
        have HI : Hid (RdI w n xs W) := hI
        have HS : Hid (xs.map lst = splitL 10 (lst ⟨s, hs⟩)) := hS
        have HK : Hid (W.heap[D]? = some (.deferred (some []))) := hK
        have c4 : W.cell? ⟨w.heap.size + 1 + 1 + 1 + 1, 0, none⟩ = some (.slice ao xs.length cap) := hp.cell
        have c1 := hI.r0.cell
        have f1 := hI.r0.frozen
        have c2 : W.cell? ⟨w.heap.size + 1 + 1, 0, none⟩ = some (.int .i64 0) := hI.r1.cell
        have f2 : W.frozen? ⟨w.heap.size + 1 + 1, 0, none⟩ = false := hI.r1.frozen
        have c3 : W.cell? ⟨w.heap.size + 1 + 1 + 1, 0, none⟩ = some (.int .i64 0) := hI.r2.cell
        have f3 : W.frozen? ⟨w.heap.size + 1 + 1 + 1, 0, none⟩ = false := hI.r2.frozen
        clear hI hS hp ho hK
        gi_wp2
        have hy : rulesV n s.data.toList = -1 := rd_yes HNE.out HS.out HI.out.le HI.out.all
        have hE : polE n s.data.toList = 0 := by unfold polE; rw [hy]; rfl
        have hN : polN n s.data.toList = 0 := by unfold polN; rw [hy]; rfl
        have t1 := Tr.set w.heap.size (w.heap.size + 5) W (w.heap.size + 1) (.slice ao xs.length cap) (by omega) (by omega)
        have t2 := Tr.set w.heap.size (w.heap.size + 5) (W.setCell ⟨w.heap.size + 1, 0, none⟩ (.slice ao xs.length cap)) (w.heap.size + 1 + 1) (.int .i64 0) (by omega) (by omega)
        have t3 := Tr.set w.heap.size (w.heap.size + 5) ((W.setCell ⟨w.heap.size + 1, 0, none⟩ (.slice ao xs.length cap)).setCell ⟨w.heap.size + 1 + 1, 0, none⟩ (.int .i64 0)) (w.heap.size + 1 + 1 + 1) (.int .i64 0) (by omega) (by omega)
        have g1 := grownBy_setCell' W (w.heap.size + 1) (.slice ao xs.length cap)
        have g2 := grownBy_setCell' (W.setCell ⟨w.heap.size + 1, 0, none⟩ (.slice ao xs.length cap)) (w.heap.size + 1 + 1) (.int .i64 0)
        have g3 := grownBy_setCell' ((W.setCell ⟨w.heap.size + 1, 0, none⟩ (.slice ao xs.length cap)).setCell ⟨w.heap.size + 1 + 1, 0, none⟩ (.int .i64 0)) (w.heap.size + 1 + 1 + 1) (.int .i64 0)
        have b0 := ((HI.out.r0.set (.slice ao xs.length cap)).kept g2 (by intro e; injection e with e; omega)).kept g3 (by intro e; injection e with e; omega)
        have b1 := (Boxed.set (.int .i64 0) (HI.out.r1.kept g1 (by intro e; injection e with e; omega))).kept g3 (by intro e; injection e with e; omega)
        have b2 := Boxed.set (.int .i64 0) ((HI.out.r2.kept g1 (by intro e; injection e with e; omega)).kept g2 (by intro e; injection e with e; omega))
        have hb := HI.out.below.trans ((t1.trans t2).trans t3).below
        have hK := ((t1.trans t2).trans t3).keep.same D _ HK.out rfl
        generalize ((W.setCell ⟨w.heap.size + 1, 0, none⟩ (.slice ao xs.length cap)).setCell ⟨w.heap.size + 1 + 1, 0, none⟩ (.int .i64 0)).setCell ⟨w.heap.size + 1 + 1 + 1, 0, none⟩ (.int .i64 0) = V at *
        refine ⟨by simp, .inl ⟨D, _, rfl, run_takeDeferred hK, ?_⟩⟩
        have e0 := (Boxed.kept b0 (grownBy_putObj' V D (.deferred none)) (by intro e; injection e with e; omega)).cell
        have e1 : (V.putObj D (.deferred none)).cell? ⟨w.heap.size + 1 + 1, 0, none⟩ = some (.int .i64 0) := (Boxed.kept b1 (grownBy_putObj' V D (.deferred none)) (by intro e; injection e with e; omega)).cell
        have e2 : (V.putObj D (.deferred none)).cell? ⟨w.heap.size + 1 + 1 + 1, 0, none⟩ = some (.int .i64 0) := (Boxed.kept b2 (grownBy_putObj' V D (.deferred none)) (by intro e; injection e with e; omega)).cell
        refine ⟨.tuple #[.slice ao xs.length cap, .int .i64 0, .int .i64 0], ?_, ⟨ao, xs.length, cap, by rw [hE, hN], below_putObj hb (by omega) _⟩⟩
        simp [results, Tryz.f83, go_sem, e0, e1, e2]
      case stop =>
        clear hI0 hA0 hW0
        intro D c pre W hD hS hX hK
        obtain rfl := hX.ret
        gi_wp2
        obtain ⟨q, x, rfl, hb3, ha, hlq, hx⟩ := hX.bad
        obtain ⟨r, hr⟩ := hS
        have hy : rulesV n s.data.toList = q.length := rd_no HNE.out hr ha hlq hx
        have hE : polE n s.data.toList = 6 := by unfold polE; rw [hy, if_pos (by omega)]
        have hN : polN n s.data.toList = q.length := by unfold polN; rw [hy, if_pos (by omega)]
        refine ⟨by simp, .inl ⟨D, _, rfl, run_takeDeferred hK, ?_⟩⟩
        have e0 := (hX.r0.kept (grownBy_putObj' W D (.deferred none)) (by intro e; injection e with e; omega)).cell
        have e1 : (W.putObj D (.deferred none)).cell? ⟨w.heap.size + 1 + 1, 0, none⟩ = some (.int .i64 6) := (hX.r1.kept (grownBy_putObj' W D (.deferred none)) (by intro e; injection e with e; omega)).cell
        have e2 : (W.putObj D (.deferred none)).cell? ⟨w.heap.size + 1 + 1 + 1, 0, none⟩ = some (.int .i64 (q.length : Nat)) := (hb3.kept (grownBy_putObj' W D (.deferred none)) (by intro e; injection e with e; omega)).cell
        refine ⟨.tuple #[.slice none 0 0, .int .i64 6, .int .i64 (q.length : Nat)], ?_, ⟨none, 0, 0, by rw [hE, hN], below_putObj hX.below (by omega) _⟩⟩
        simp [results, Tryz.f83, go_sem, e0, e1, e2]
    · have h0 : s.data.toList = [] := by rw [← Lib.toList_data]; exact eq_of_beq hd
      have hy : rulesV n s.data.toList = -1 := by unfold rulesV; rw [h0]; rfl
      have HE : Hid (polE n s.data.toList = 0) := by show _ = _; unfold polE; rw [hy]; rfl
      have HN : Hid (polN n s.data.toList = 0) := by show _ = _; unfold polN; rw [hy]; rfl
      clear hy h0
      go_enter Tryz.func83, Tryz.ntmps83
      go_wp2
      have e3 := three_cells w n 0
      have hb : Below w.heap.size w ((((w.alloc (.cells #[.int .i64 n] 3)).alloc (.cells #[.slice none 0 0] 108)).alloc (.cells #[.int .i64 0] 31)).alloc (.cells #[.int .i64 0] 3)) := (((((Below.refl _ _).alloc (Nat.le_refl _) _).alloc (by simp) _).alloc (by simp; omega) _).alloc (by simp; omega) _)
      generalize (((w.alloc (.cells #[.int .i64 n] 3)).alloc (.cells #[.slice none 0 0] 108)).alloc (.cells #[.int .i64 0] 31)).alloc (.cells #[.int .i64 0] 3) = V at *
      obtain ⟨e0, e1, e2⟩ := e3
      refine bodyPost_ret (v := .tuple #[.slice none 0 0, .int .i64 0, .int .i64 0]) (by simp [results, Tryz.f83, go_sem, e0, e1, e2]) rfl ?_
      first | exact ⟨none, 0, 0, by rw [HE.out, HN.out], hb⟩ | exact ⟨⟨none, 0, 0, by rw [HE.out, HN.out]⟩, hb⟩
end Go.Proofs.YtllcbnfmihfaaaaGreatDoor
