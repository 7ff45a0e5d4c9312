import Derived.Laws.ResultCell
import Derived.Deep.OwnRows
import Derived.Test.YtllcbnfmihfaaaaGreatDoorLq01
namespace Go.Proofs.YtllcbnfmihfaaaaGreatDoor
open Go.RowKit

theorem results_row_tmp {P : Program} {fn : Func} {p u : Tmp} {ty : TypeId} (h : fn.results = #[.cell p ty, .tmp u]) (tmps : Array Value) (w : World) (g : Nat) (t : TypeId) (cs : Array Value) (fr : Nat × Nat) (d : TypeDesc)
    (hp : tmps.getD p undef = .pointer (some ⟨g, 0, none⟩)) (hg : w.heap[g]? = some (.cells cs t fr))
    (hu : P.underlying ty = some d) (hd : (match d with | .struct _ | .array _ _ => true | _ => false) = true) (hi : (P.info? ty).map (·.size) = some cs.size) (v : Value) (hv : tmps.getD u undef = v) :
    (results fn tmps).run P w = .ok (.tuple #[.agg cs, v]) w := by
  subst hv
  rw [results_cell_tmp h, hp]
  simp only [asAddr, Sem.run_pure, Result.andThen_ok, run_loadVar_row w g t ty cs fr d hg hu hd hi]

/-- A list of edges in memory. -/
structure EdgesAt (w : World) (a : Option Addr) (L : List (Int × Int)) : Prop where
  at_ : ∀ i (h : i < L.length), ∃ b off, a = some ⟨b, off, none⟩ ∧ b < w.heap.size ∧ w.cell? ⟨b, off + i * 2, none⟩ = some (.int .i64 L[i].1) ∧ w.cell? ⟨b, off + i * 2 + 1, none⟩ = some (.int .i64 L[i].2)
theorem EdgesAt.below {w w' : World} {a : Option Addr} {L : List (Int × Int)} (h : EdgesAt w a L) (hb : Below w.heap.size w w') : EdgesAt w' a L :=
  ⟨fun i hi => by
    obtain ⟨b, off, ha, hlt, h1, h2⟩ := h.at_ i hi
    exact ⟨b, off, ha, Nat.lt_of_lt_of_le hlt hb.size, (hb.cell (p := ⟨b, _, none⟩) hlt).trans h1, (hb.cell (p := ⟨b, _, none⟩) hlt).trans h2⟩⟩

def edgeB (n : Nat) (e : Int × Int) : Bool := hasB n e.1 && hasB n e.2 && !(e.1 == e.2)
def idTo (k : Nat) : Nat → Nat → Bool := fun i j => decide (i = j ∧ i < k)
theorem idTo_step (k : Nat) : upd (idTo k) k k true = idTo (k + 1) := by
  funext i j
  unfold upd idTo
  by_cases c : i = k ∧ j = k
  · obtain ⟨rfl, rfl⟩ := c; simp
  · rw [if_neg c]; exact decide_eq_decide.2 (by omega)
theorem idTo_zero : idTo 0 = fun _ _ => false := by funext i j; simp [idTo]
def addE (m : Nat → Nat → Bool) (e : Int × Int) : Nat → Nat → Bool := upd m e.1.toNat e.2.toNat true
def edgeM (n : Nat) (L : List (Int × Int)) : Nat → Nat → Bool := L.foldl addE (idTo n)
theorem edgeM_snoc (n : Nat) (L : List (Int × Int)) (k : Nat) (h : k < L.length) : edgeM n (L.take (k + 1)) = addE (edgeM n (L.take k)) L[k] := by
  unfold edgeM
  rw [List.take_succ_eq_append_getElem h, List.foldl_append]
  rfl
def edgesB (n : Nat) (L : List (Int × Int)) : Bool := L.all (edgeB n)
theorem edgesB_no {n : Nat} {L : List (Int × Int)} {k : Nat} (h : k < L.length) (e : edgeB n L[k] = false) : edgesB n L = false := by
  unfold edgesB
  rw [List.all_eq_false]
  exact ⟨L[k], List.getElem_mem h, by rw [e]; decide⟩
theorem edgesB_yes {n : Nat} {L : List (Int × Int)} (h : ∀ k (h : k < L.length), edgeB n L[k] = true) : edgesB n L = true := by
  unfold edgesB
  rw [List.all_eq_true]
  intro x hx
  obtain ⟨k, hk, rfl⟩ := List.getElem_of_mem hx
  exact h k hk

def newOK (c : Int) (L : List (Int × Int)) : Bool := decide (1 ≤ c ∧ c ≤ 6 ∧ L.length ≤ 30) && edgesB c.toNat L
def newM (n : Nat) (L : List (Int × Int)) : Nat → Nat → Bool := fwTo n n (edgeM n L)
def newV (n : Nat) (L : List (Int × Int)) : Value := if edgesB n L then .tuple #[.agg (ordArr n (newM n L)), .bool true] else .tuple #[.agg zOrd, .bool false]
theorem newV_no {n : Nat} {L : List (Int × Int)} (h : edgesB n L = false) : newV n L = .tuple #[.agg zOrd, .bool false] := by unfold newV; rw [h]; rfl
theorem newV_yes {n : Nat} {L : List (Int × Int)} (h : edgesB n L = true) : newV n L = .tuple #[.agg (ordArr n (newM n L)), .bool true] := by unfold newV; rw [h]; rfl

theorem OrdAt.trans {w W W' : World} {b n : Nat} {M : Nat → Nat → Bool} (h : OrdAt w W b n M) (k : Below W.heap.size W W') : OrdAt w W' b n M := by
  have hb : b < W.heap.size := (Array.getElem?_eq_some_iff.1 h.own).1
  exact ⟨h.below.trans (k.mono (by omega)), (k.block b hb).trans h.own⟩
theorem OrdAt.lt {w W : World} {b n : Nat} {M : Nat → Nat → Bool} (h : OrdAt w W b n M) : b < W.heap.size := (Array.getElem?_eq_some_iff.1 h.own).1
theorem OrdAt.alloc {w W : World} {b n : Nat} {M : Nat → Nat → Bool} (h : OrdAt w W b n M) (o : Obj) : OrdAt w (W.alloc o) b n M := h.trans ((Below.refl _ _).alloc (Nat.le_refl _) o)

set_option maxRecDepth 100000 in
set_option maxHeartbeats 2000000 in
theorem new_out (c : Int) (L : List (Int × Int)) (a : Option Addr) (cap : Nat) (hL : L.length ≤ maxLen) (w : World) (hc : ¬ (1 ≤ c ∧ c ≤ 6 ∧ L.length ≤ 30)) :
    Calls Tryz.prog 131 #[.int .i64 c, .slice a L.length cap] w fun e w' => e = .returned (.tuple #[.agg zOrd, .bool false]) ∧ Below w.heap.size w w' := by
  unfold maxLen at hL
  have HH : Hid ((w.alloc (.cells zOrd 107)).heap[w.heap.size]? = some (.cells zOrd 107)) := heap_new _ _
  have HZ : Hid (zOrd.size = zOrd.size) := rfl
  have key : c < 1 ∨ (1 ≤ c ∧ 6 < c) ∨ (1 ≤ c ∧ c ≤ 6 ∧ (30 : Int) < L.length) := by omega
  clear hc
  rcases key with h | ⟨h, h2⟩ | ⟨h, h2, h3⟩
  all_goals
    go_enter Tryz.func131, Tryz.ntmps131
    go_wp2_with (first
      | (refine wpList_allocOrd rfl rfl _ rfl w.heap.size rfl ?_)
      | (refine wpList_buildAt rfl 107 _ rfl _ rfl _ [] ?hl built_ord0 ?_; case hl => simp)
      | (refine wpList_store_row rfl 107 _ _ rfl _ _ rfl rfl 107 zOrd HH.out (infoOrd (ordArr_size _ _)) HZ.out (ordArr_all _ _) ?_; rw [World.setRow_alloc_new]))
    refine bodyPost_ret (results_row_tmp Tryz.results131 _ _ w.heap.size 107 zOrd (0, 0) _ rfl HH.out Tryz.underlying107 rfl (infoOrd (ordArr_size _ _)) (.bool false) rfl) rfl ⟨rfl, (Below.refl _ _).alloc (Nat.le_refl _) _⟩

theorem newStart (w : World) (n : Nat) : OrdAt (w.alloc (.cells zOrd 107)) (((w.alloc (.cells zOrd 107)).alloc (.cells zOrd 107)).setRow (w.heap.size + 1) (ordArr n fun _ _ => false)) (w.heap.size + 1) n (idTo 0) := by
  refine ⟨below_setRow ((Below.refl _ _).alloc (by simp) _) (Nat.le_refl _) _, ?_⟩
  rw [idTo_zero]
  refine setRow_heap _ _ zOrd _ 107 (0, 0) ?_
  have := heap_new (w.alloc (.cells zOrd 107)) (.cells zOrd 107)
  rwa [World.size_alloc] at this

set_option maxRecDepth 100000 in
set_option maxHeartbeats 4000000 in
theorem new_in (n : Nat) (h1 : 1 ≤ n) (hn : n ≤ 6) (L : List (Int × Int)) (a : Option Addr) (cap : Nat) (hL : L.length ≤ 30) (w : World) (hE : EdgesAt w a L) :
    Calls Tryz.prog 131 #[.int .i64 n, .slice a L.length cap] w fun e w' => e = .returned (newV n L) ∧ Below w.heap.size w w' := by
  have HE : Hid (EdgesAt w a L) := hE
  clear hE
  have HR : Hid ((w.alloc (.cells zOrd 107)).heap[w.heap.size]? = some (.cells zOrd 107)) := heap_new _ _
  have HH : Hid (((w.alloc (.cells zOrd 107)).alloc (.cells zOrd 107)).heap[w.heap.size + 1]? = some (.cells zOrd 107)) := by
    have := heap_new (w.alloc (.cells zOrd 107)) (.cells zOrd 107)
    rw [World.size_alloc] at this
    exact this
  have HZ : Hid (zOrd.size = (ordArr n fun _ _ => false).size) := by rw [ordArr_size]; exact ordArr_size _ _
  have HT := newStart w n
  have HB0 : Hid (Below w.heap.size w (w.alloc (.cells zOrd 107))) := (Below.refl _ _).alloc (Nat.le_refl _) _
  have HS0 : Hid ((w.alloc (.cells zOrd 107)).heap.size = w.heap.size + 1) := by show _ = _; simp
  generalize hW : ((w.alloc (.cells zOrd 107)).alloc (.cells zOrd 107)).setRow (w.heap.size + 1) (ordArr n fun _ _ => false) = W at HT
  have HD : Hid (_ = W) := hW
  clear hW
  have HTT : Hid (OrdAt (w.alloc (.cells zOrd 107)) W (w.heap.size + 1) n (idTo 0)) := HT
  clear HT
  go_enter Tryz.func131, Tryz.ntmps131
  go_wp2_with (first
    | (refine wpList_allocOrd rfl rfl _ rfl w.heap.size rfl ?_)
    | (refine wpList_allocOrd rfl rfl _ rfl (w.heap.size + 1) ?hN ?_; case hN => (simp only [World.size_alloc]; done))
    | (refine wpList_buildAt rfl 107 _ rfl _ rfl _ [(0, .int .i64 n)] ?hl (built_ord n) ?_; case hl => simp [go_sem])
    | (refine wpList_store_row rfl 107 _ _ rfl _ _ rfl rfl 107 zOrd HH.out (infoOrd (ordArr_size _ _)) HZ.out (ordArr_all _ _) ?_; rw [HD.out]))
  clear HD HH HZ
  generalize w.alloc (.cells zOrd 107) = W0 at *
  go_loopg [25, 7] n (fun g x y wr => ∃ k : Nat, Hid (k + g = n) ∧ x = .int .i64 k ∧ Hid (OrdAt W0 wr (w.heap.size + 1) n (idTo k)))
  case atStart => exact ⟨0, by show _ = _; omega, rfl, HTT⟩
  case round =>
    clear HTT
    obtain ⟨k, hk, rfl, HK⟩ := hrel
    cases gk with
    | succ g =>
      have hlt : (k : Int) < n := by have := hk.out; omega
      have hk6 : k < 6 := by omega
      have c1 := HK.out.at_ hk6 hk6
      have c2 := HK.out.frozen (1 + k * 6 + k)
      generalize idTo k k k = v0 at c1
      go_wp2
      go_roundg g
      case measure => omega
      case rel => exact ⟨k + 1, by show _ = _; have := hk.out; omega, by go_num, by have := HK.out.set hk6 hk6 true; rw [idTo_step] at this; exact this⟩
    | zero =>
      have hlt : ¬ (k : Int) < n := by have := hk.out; omega
      have e : k = n := by have := hk.out; omega
      subst e
      go_wp2
      go_loopg [36, 9] L.length (fun g x y wr => ∃ q : Nat, Hid (q + g = L.length) ∧ x = .int .i64 q ∧ Hid (OrdAt W0 wr (w.heap.size + 1) k (edgeM k (L.take q))) ∧ Hid (∀ i (h : i < L.length), i < q → edgeB k L[i] = true))
      case atStart => exact ⟨0, by show _ = _; omega, rfl, HK, fun i h hi => by omega⟩
      case round =>
        clear HK
        obtain ⟨q, hq, rfl, HQ, HA⟩ := hrel
        cases gk with
        | zero =>
          have hql : ¬ (q : Int) < L.length := by have := hq.out; omega
          have HY : Hid (edgesB k L = true) := edgesB_yes (fun i h => HA.out i h (by have := hq.out; omega))
          have HQ2 : Hid (OrdAt W0 wr (w.heap.size + 1) k (edgeM k L)) := by
            have := HQ.out
            rw [List.take_of_length_le (by have := hq.out; omega)] at this
            exact this
          clear HQ HA
          have cF := follow_any (w.heap.size + 1) k (edgeM k L) hn wr HQ2.out.own
          go_wp2_with (first
            | (go_at_call 180; refine cF.mono ?_; clear cF; rintro e w2 ⟨rfl, hO2⟩; have HO : Hid (OrdAt W0 w2 (w.heap.size + 1) k (newM k L)) := ⟨HQ2.out.below.trans hO2.below, hO2.own⟩; clear hO2)
            | (refine wpList_load_row rfl 107 _ rfl _ rfl _ _ _ _ HO.out.own Tryz.underlying107 rfl (infoOrd (ordArr_size _ _)) ?_)
            | (refine wpList_store_row rfl 107 _ _ rfl _ _ rfl rfl 107 zOrd ((HO.out.below.block _ (by omega)).trans HR.out) (infoOrd (ordArr_size _ _)) (by rw [ordArr_size]; exact ordArr_size _ _) (ordArr_all _ _) ?_))
          refine bodyPost_ret (results_row_tmp Tryz.results131 _ _ w.heap.size 107 (ordArr k (newM k L)) (0, 0) _ rfl (setRow_heap _ _ zOrd _ _ _ ((HO.out.below.block _ (by omega)).trans HR.out)) Tryz.underlying107 rfl (infoOrd (ordArr_size _ _)) (.bool true) rfl) rfl ⟨by rw [newV_yes HY.out], below_setRow (HB0.out.trans (HO.out.below.mono (by omega))) (Nat.le_refl _) _⟩
        | succ g =>
          have hql : (q : Int) < L.length := by have := hq.out; omega
          obtain ⟨b, off, rfl, hlt, e1, e2⟩ := (HE.out.below (HB0.out.trans ((HQ.out.below.mono (by omega))))).at_ q (by omega)
          have HX : Hid ((wr.alloc (.cells #[.int .i64 L[q].1, .int .i64 L[q].2] 101)).heap[wr.heap.size]? = some (.cells #[.int .i64 L[q].1, .int .i64 L[q].2] 101)) := heap_new _ _
          have HO : Hid (OrdAt W0 (wr.alloc (.cells #[.int .i64 L[q].1, .int .i64 L[q].2] 101)) (w.heap.size + 1) k (edgeM k (L.take q))) := HQ.out.alloc _
          have HV : Hid (edgeB k L[q] = edgeB k (L[q].1, L[q].2)) := rfl
          have HM : Hid (edgeM k (L.take (q + 1)) = addE (edgeM k (L.take q)) (L[q].1, L[q].2)) := edgeM_snoc k L q (by omega)
          have c1 := has_any _ k (isOrd_ordArr k (edgeM k (L.take q))).count L[q].1 (wr.alloc (.cells #[.int .i64 L[q].1, .int .i64 L[q].2] 101))
          generalize L[q].1 = x at *
          generalize L[q].2 = y at *
          generalize edgeM k (L.take q) = M at *
          cases hx : hasB k x
          · rw [hx] at c1
            have HF : Hid (edgesB k L = false) := edgesB_no (k := q) (by omega) (by rw [HV.out]; unfold edgeB; rw [hx]; rfl)
            clear hx HM HV
            go_wp2_with (first
            | (refine wpList_load_row rfl 107 _ rfl _ rfl _ _ _ _ HO.out.own Tryz.underlying107 rfl (infoOrd (ordArr_size _ _)) ?_)
            | (refine wpList_load_row_g 107 _ rfl rfl _ rfl _ _ _ _ HO.out.own Tryz.underlying107 rfl (infoOrd (ordArr_size _ _)) ?_)
            | (go_at_call 132; refine c1.mono ?_; clear c1; rintro e w2 ⟨rfl, hB2⟩; have HP : Hid (OrdAt W0 w2 (w.heap.size + 1) k M) := HO.out.trans hB2; clear HO; have HO := HP; clear HP; have hf0 := (cellOfHeap ((hB2.block _ (by simp)).trans HX.out) 0); have hf1 := (cellOfHeap ((hB2.block _ (by simp)).trans HX.out) 1); have HX2 : Hid (w2.heap[wr.heap.size]? = some (.cells #[.int .i64 x, .int .i64 y] 101)) := (hB2.block _ (by simp)).trans HX.out; have c2 := has_any _ k (isOrd_ordArr k M).count y w2)
            | (go_at_call 132; refine c2.mono ?_; clear c2; rintro e w3 ⟨rfl, hB3⟩; have HP : Hid (OrdAt W0 w3 (w.heap.size + 1) k M) := HO.out.trans hB3; clear HO; have HO := HP; clear HP; clear hf0 hf1; have hf0 := (cellOfHeap ((hB3.block _ (Array.getElem?_eq_some_iff.1 HX2.out).1).trans HX2.out) 0); have hf1 := (cellOfHeap ((hB3.block _ (Array.getElem?_eq_some_iff.1 HX2.out).1).trans HX2.out) 1))
            | (refine wpList_buildAt rfl 107 _ rfl _ rfl _ [] ?hl built_ord0 ?_; case hl => simp)
            | (refine wpList_store_row rfl 107 _ _ rfl _ _ rfl rfl 107 zOrd ((HO.out.below.block _ (by omega)).trans HR.out) (infoOrd (ordArr_size _ _)) rfl (ordArr_all _ _) ?_))
            refine bodyPost_ret (results_row_tmp Tryz.results131 _ _ w.heap.size 107 zOrd (0, 0) _ rfl (setRow_heap _ _ zOrd _ _ _ ((HO.out.below.block _ (by omega)).trans HR.out)) Tryz.underlying107 rfl (infoOrd (ordArr_size _ _)) (.bool false) rfl) rfl ⟨by rw [newV_no HF.out], below_setRow (HB0.out.trans (HO.out.below.mono (by omega))) (Nat.le_refl _) _⟩
          · rw [hx] at c1
            have HXT : Hid (hasB k x = true) := hx
            clear hx
            cases hy : hasB k y
            · have HF : Hid (edgesB k L = false) := edgesB_no (k := q) (by omega) (by rw [HV.out]; unfold edgeB; rw [hy, HXT.out]; rfl)
              have HYT : Hid (hasB k y = false) := hy
              clear hy HM HV
              go_wp2_with (first
            | (refine wpList_load_row rfl 107 _ rfl _ rfl _ _ _ _ HO.out.own Tryz.underlying107 rfl (infoOrd (ordArr_size _ _)) ?_)
            | (refine wpList_load_row_g 107 _ rfl rfl _ rfl _ _ _ _ HO.out.own Tryz.underlying107 rfl (infoOrd (ordArr_size _ _)) ?_)
            | (go_at_call 132; refine c1.mono ?_; clear c1; rintro e w2 ⟨rfl, hB2⟩; have HP : Hid (OrdAt W0 w2 (w.heap.size + 1) k M) := HO.out.trans hB2; clear HO; have HO := HP; clear HP; have hf0 := (cellOfHeap ((hB2.block _ (by simp)).trans HX.out) 0); have hf1 := (cellOfHeap ((hB2.block _ (by simp)).trans HX.out) 1); have HX2 : Hid (w2.heap[wr.heap.size]? = some (.cells #[.int .i64 x, .int .i64 y] 101)) := (hB2.block _ (by simp)).trans HX.out; have c2 := has_any _ k (isOrd_ordArr k M).count y w2; rw [HYT.out] at c2)
            | (go_at_call 132; refine c2.mono ?_; clear c2; rintro e w3 ⟨rfl, hB3⟩; have HP : Hid (OrdAt W0 w3 (w.heap.size + 1) k M) := HO.out.trans hB3; clear HO; have HO := HP; clear HP; clear hf0 hf1; have hf0 := (cellOfHeap ((hB3.block _ (Array.getElem?_eq_some_iff.1 HX2.out).1).trans HX2.out) 0); have hf1 := (cellOfHeap ((hB3.block _ (Array.getElem?_eq_some_iff.1 HX2.out).1).trans HX2.out) 1))
            | (refine wpList_buildAt rfl 107 _ rfl _ rfl _ [] ?hl built_ord0 ?_; case hl => simp)
            | (refine wpList_store_row rfl 107 _ _ rfl _ _ rfl rfl 107 zOrd ((HO.out.below.block _ (by omega)).trans HR.out) (infoOrd (ordArr_size _ _)) rfl (ordArr_all _ _) ?_))
              refine bodyPost_ret (results_row_tmp Tryz.results131 _ _ w.heap.size 107 zOrd (0, 0) _ rfl (setRow_heap _ _ zOrd _ _ _ ((HO.out.below.block _ (by omega)).trans HR.out)) Tryz.underlying107 rfl (infoOrd (ordArr_size _ _)) (.bool false) rfl) rfl ⟨by rw [newV_no HF.out], below_setRow (HB0.out.trans (HO.out.below.mono (by omega))) (Nat.le_refl _) _⟩
            · have HYT : Hid (hasB k y = true) := hy
              clear hy
              cases hxy : (x == y)
              · have HF : Hid (edgeB k L[q] = true) := by show _ = _; rw [HV.out]; unfold edgeB; rw [HYT.out, HXT.out, hxy]; rfl
                clear HV
                obtain ⟨hx0, hx1⟩ : 0 ≤ x ∧ x < k := of_decide_eq_true HXT.out
                obtain ⟨hy0, hy1⟩ : 0 ≤ y ∧ y < k := of_decide_eq_true HYT.out
                go_wp2_with (first
            | (refine wpList_load_row rfl 107 _ rfl _ rfl _ _ _ _ HO.out.own Tryz.underlying107 rfl (infoOrd (ordArr_size _ _)) ?_)
            | (refine wpList_load_row_g 107 _ rfl rfl _ rfl _ _ _ _ HO.out.own Tryz.underlying107 rfl (infoOrd (ordArr_size _ _)) ?_)
            | (go_at_call 132; refine c1.mono ?_; clear c1; rintro e w2 ⟨rfl, hB2⟩; have HP : Hid (OrdAt W0 w2 (w.heap.size + 1) k M) := HO.out.trans hB2; clear HO; have HO := HP; clear HP; have hf0 := (cellOfHeap ((hB2.block _ (by simp)).trans HX.out) 0); have hf1 := (cellOfHeap ((hB2.block _ (by simp)).trans HX.out) 1); have HX2 : Hid (w2.heap[wr.heap.size]? = some (.cells #[.int .i64 x, .int .i64 y] 101)) := (hB2.block _ (by simp)).trans HX.out; have c2 := has_any _ k (isOrd_ordArr k M).count y w2; rw [HYT.out] at c2)
            | (go_at_call 132; refine c2.mono ?_; clear c2; rintro e w3 ⟨rfl, hB3⟩; have HP : Hid (OrdAt W0 w3 (w.heap.size + 1) k M) := HO.out.trans hB3; clear HO; have HO := HP; clear HP; clear hf0 hf1; have hf0 := (cellOfHeap ((hB3.block _ (Array.getElem?_eq_some_iff.1 HX2.out).1).trans HX2.out) 0); have hf1 := (cellOfHeap ((hB3.block _ (Array.getElem?_eq_some_iff.1 HX2.out).1).trans HX2.out) 1))
            | (refine wpList_buildAt rfl 107 _ rfl _ rfl _ [] ?hl built_ord0 ?_; case hl => simp)
            | (refine wpList_store_row rfl 107 _ _ rfl _ _ rfl rfl 107 zOrd ((HO.out.below.block _ (by omega)).trans HR.out) (infoOrd (ordArr_size _ _)) rfl (ordArr_all _ _) ?_))
                obtain ⟨i, rfl⟩ := Int.eq_ofNat_of_zero_le hx0
                obtain ⟨j, rfl⟩ := Int.eq_ofNat_of_zero_le hy0
                have hi6 : i < 6 := by omega
                have hj6 : j < 6 := by omega
                have hci := HO.out.at_ hi6 hj6
                have hcf := HO.out.frozen (1 + i * 6 + j)
                generalize M i j = v0 at hci
                go_region
                all_goals go_wp2
                go_roundg g
                case measure => omega
                case rel =>
                  refine ⟨q + 1, by show _ = _; have := hq.out; omega, by go_num, ?_, ?_⟩
                  · have := (HO.out.set hi6 hj6 true).drew
                    show OrdAt _ _ _ _ _
                    rw [HM.out]
                    exact this
                  · intro i' h' hi'
                    by_cases e : i' = q
                    · subst e; exact HF.out
                    · exact HA.out i' h' (by omega)
              · have HF : Hid (edgesB k L = false) := edgesB_no (k := q) (by omega) (by rw [HV.out]; unfold edgeB; rw [HYT.out, HXT.out, hxy]; rfl)
                clear HM HV
                go_wp2_with (first
            | (refine wpList_load_row rfl 107 _ rfl _ rfl _ _ _ _ HO.out.own Tryz.underlying107 rfl (infoOrd (ordArr_size _ _)) ?_)
            | (refine wpList_load_row_g 107 _ rfl rfl _ rfl _ _ _ _ HO.out.own Tryz.underlying107 rfl (infoOrd (ordArr_size _ _)) ?_)
            | (go_at_call 132; refine c1.mono ?_; clear c1; rintro e w2 ⟨rfl, hB2⟩; have HP : Hid (OrdAt W0 w2 (w.heap.size + 1) k M) := HO.out.trans hB2; clear HO; have HO := HP; clear HP; have hf0 := (cellOfHeap ((hB2.block _ (by simp)).trans HX.out) 0); have hf1 := (cellOfHeap ((hB2.block _ (by simp)).trans HX.out) 1); have HX2 : Hid (w2.heap[wr.heap.size]? = some (.cells #[.int .i64 x, .int .i64 y] 101)) := (hB2.block _ (by simp)).trans HX.out; have c2 := has_any _ k (isOrd_ordArr k M).count y w2; rw [HYT.out] at c2)
            | (go_at_call 132; refine c2.mono ?_; clear c2; rintro e w3 ⟨rfl, hB3⟩; have HP : Hid (OrdAt W0 w3 (w.heap.size + 1) k M) := HO.out.trans hB3; clear HO; have HO := HP; clear HP; clear hf0 hf1; have hf0 := (cellOfHeap ((hB3.block _ (Array.getElem?_eq_some_iff.1 HX2.out).1).trans HX2.out) 0); have hf1 := (cellOfHeap ((hB3.block _ (Array.getElem?_eq_some_iff.1 HX2.out).1).trans HX2.out) 1))
            | (refine wpList_buildAt rfl 107 _ rfl _ rfl _ [] ?hl built_ord0 ?_; case hl => simp)
            | (refine wpList_store_row rfl 107 _ _ rfl _ _ rfl rfl 107 zOrd ((HO.out.below.block _ (by omega)).trans HR.out) (infoOrd (ordArr_size _ _)) rfl (ordArr_all _ _) ?_))
                refine bodyPost_ret (results_row_tmp Tryz.results131 _ _ w.heap.size 107 zOrd (0, 0) _ rfl (setRow_heap _ _ zOrd _ _ _ ((HO.out.below.block _ (by omega)).trans HR.out)) Tryz.underlying107 rfl (infoOrd (ordArr_size _ _)) (.bool false) rfl) rfl ⟨by rw [newV_no HF.out], below_setRow (HB0.out.trans (HO.out.below.mono (by omega))) (Nat.le_refl _) _⟩
end Go.Proofs.YtllcbnfmihfaaaaGreatDoor
namespace Go.Proofs.YtllcbnfmihfaaaaGreatDoor
open Go.RowKit Go.Deep

/-- A configuration's value, as far as labels and edges go. -/
structure CfgE (arr : Array Value) (n : Nat) (L : List (Int × Int)) (ea : Option Addr) (ecap : Nat) : Prop where
  size : arr.size = 11
  f0 : arr[0]? = some (.int .i64 n)
  f1 : arr[1]? = some (.slice ea L.length ecap)
theorem infoCfg {arr : Array Value} (h : arr.size = 11) : (Tryz.prog.info? 45).map (·.size) = some arr.size := by rw [h]; kernel_rfl

set_option maxHeartbeats 400000 in
theorem label_any (arr : Array Value) (n : Nat) (h : arr[0]? = some (.int .i64 n)) (a : Int) (w : World) :
    Calls Tryz.prog 76 #[.agg arr, .int .i64 a] w fun e w' => e = .returned (.bool (hasB n a)) ∧ Below w.heap.size w w' := by
  go_enter Tryz.func76, Tryz.ntmps76
  go_wp2
  all_goals go_ret
  · exact ⟨by simp [hasB, *], (Below.refl _ _).alloc (Nat.le_refl _) _⟩
  · exact ⟨by have h1 : ¬ 0 ≤ a := by omega
              simp [hasB, h1], (Below.refl _ _).alloc (Nat.le_refl _) _⟩

/-! ### leq -/
def boolArr (n : Nat) (S : Nat → Bool) : Array Value := ((List.range n).map fun k => .bool (S k)).toArray
theorem boolArr_size (n : Nat) (S : Nat → Bool) : (boolArr n S).size = n := by simp [boolArr]
theorem boolArr_at (n : Nat) (S : Nat → Bool) (k : Nat) (h : k < n) : (boolArr n S)[k]? = some (.bool (S k)) := by
  simp only [boolArr, List.getElem?_toArray, List.getElem?_map]
  rw [List.getElem?_range h]
  rfl
def updS (S : Nat → Bool) (k : Nat) : Nat → Bool := fun x => if x = k then true else S x
theorem boolArr_set (n : Nat) (S : Nat → Bool) (k : Nat) : (boolArr n S).setIfInBounds k (.bool true) = boolArr n (updS S k) := by
  apply Array.ext_getElem?
  intro i
  rw [Array.getElem?_setIfInBounds]
  by_cases hi : i < n
  · rw [boolArr_at n (updS S k) i hi]
    by_cases hk : k = i
    · subst hk
      rw [if_pos rfl, if_pos (by rw [boolArr_size]; exact hi)]
      simp [updS]
    · rw [if_neg hk, boolArr_at n S i hi]
      have : ¬ i = k := fun e => hk e.symm
      simp [updS, this]
  · have e1 : (boolArr n (updS S k))[i]? = none := Array.getElem?_eq_none (by rw [boolArr_size]; omega)
    have e2 : (boolArr n S)[i]? = none := Array.getElem?_eq_none (by rw [boolArr_size]; omega)
    rw [e1, e2]
    by_cases hk : k = i
    · subst hk
      rw [if_pos rfl, if_neg (by rw [boolArr_size]; omega)]
    · rw [if_neg hk]
theorem boolArr_made (n : Nat) : madeCells #[.bool false] n = boolArr n fun _ => false := by
  apply Array.ext_getElem?
  intro i
  by_cases hi : i < n
  · rw [boolArr_at _ _ _ hi]
    simp [madeCells, hi, Nat.mod_one]
  · have e1 : (boolArr n fun _ => false)[i]? = none := Array.getElem?_eq_none (by rw [boolArr_size]; omega)
    rw [e1, Array.getElem?_eq_none (by rw [size_madeCells]; omega)]

def stepS (S : Nat → Bool) (e : Int × Int) : Nat → Bool := if S e.1.toNat then updS S e.2.toNat else S
def roundS (L : List (Int × Int)) (S : Nat → Bool) : Nat → Bool := L.foldl stepS S
theorem roundS_snoc (L : List (Int × Int)) (S : Nat → Bool) (k : Nat) (h : k < L.length) : roundS (L.take (k + 1)) S = stepS (roundS (L.take k) S) L[k] := by
  unfold roundS
  rw [List.take_succ_eq_append_getElem h, List.foldl_append]
  rfl
def roundsS (L : List (Int × Int)) : Nat → (Nat → Bool) → Nat → Bool
  | 0, S => S
  | k + 1, S => roundS L (roundsS L k S)
def startS (a : Nat) : Nat → Bool := updS (fun _ => false) a
def leqF (n : Nat) (L : List (Int × Int)) (a b : Nat) : Bool := roundsS L n (startS a) b

structure AbvAt (w W : World) (b n : Nat) (S : Nat → Bool) : Prop where
  below : Below b w W
  own : W.heap[b]? = some (.cells (boolArr n S) 4)
theorem AbvAt.set {w W : World} {b n : Nat} {S : Nat → Bool} (h : AbvAt w W b n S) (k : Nat) : AbvAt w (W.setCell ⟨b, k, none⟩ (.bool true)) b n (updS S k) :=
  ⟨h.below.setCell (Nat.le_refl _) _, by rw [heap_setCell_same W _ _ _ _ _ h.own, boolArr_set]⟩
theorem AbvAt.at_ {w W : World} {b n : Nat} {S : Nat → Bool} (h : AbvAt w W b n S) {k : Nat} (hk : k < n) : W.cell? ⟨b, k, none⟩ = some (.bool (S k)) := (cellOfHeap h.own k).trans (boolArr_at n S k hk)
theorem AbvAt.frozen {w W : World} {b n : Nat} {S : Nat → Bool} (h : AbvAt w W b n S) (k : Nat) : W.frozen? ⟨b, k, none⟩ = false := frozen_of_row W b k _ _ h.own

theorem edge_of {n : Nat} {L : List (Int × Int)} (h : edgesB n L = true) {k : Nat} (hk : k < L.length) : ∃ i j : Nat, i < n ∧ j < n ∧ L[k].1 = (i : Int) ∧ L[k].2 = (j : Int) := by
  have := List.all_eq_true.1 h L[k] (List.getElem_mem hk)
  unfold edgeB at this
  simp only [Bool.and_eq_true] at this
  obtain ⟨⟨h1, h2⟩, _⟩ := this
  have g1 := of_decide_eq_true h1
  have g2 := of_decide_eq_true h2
  exact ⟨L[k].1.toNat, L[k].2.toNat, by omega, by omega, by omega, by omega⟩

set_option maxRecDepth 100000 in
set_option maxHeartbeats 2000000 in
theorem leq_any (arr : Array Value) (n : Nat) (L : List (Int × Int)) (ea : Option Addr) (ecap : Nat) (H : CfgE arr n L ea ecap) (hn : n ≤ 6) (hL : L.length ≤ 30) (hE : edgesB n L = true) (a b : Nat) (ha : a < n) (hb : b < n) (w : World) (hA : EdgesAt w ea L) :
    Calls Tryz.prog 126 #[.agg arr, .int .i64 a, .int .i64 b] w fun e w' => e = .returned (.bool (leqF n L a b)) ∧ Below w.heap.size w w' := by
  have f0 := H.f0
  have f1 := H.f1
  have HE : Hid (edgesB n L = true) := hE
  have HA : Hid (EdgesAt w ea L) := hA
  clear H hE hA
  have hmk := fun w => run_make_row' (P := Tryz.prog) 299 4 (.bool false) 1 Tryz.underlying299 (by kernel_rfl) rfl .i64 .i64 n (by omega) (by omega) w
  rw [boolArr_made] at hmk
  have HW0 : Hid ((w.alloc (.cells arr 45)).heap[w.heap.size]? = some (.cells arr 45)) := heap_new _ _
  have HB0 : Hid (Below w.heap.size w (w.alloc (.cells arr 45))) := (Below.refl _ _).alloc (Nat.le_refl _) _
  have HS0 : Hid ((w.alloc (.cells arr 45)).heap.size = w.heap.size + 1) := by show _ = _; simp
  have HT : Hid (AbvAt (w.alloc (.cells arr 45)) ((w.alloc (.cells arr 45)).alloc (.cells ((boolArr n fun _ => false).setIfInBounds a (.bool true)) 4)) (w.heap.size + 1) n (startS a)) := by
    refine ⟨(Below.refl _ _).alloc (by simp) _, ?_⟩
    have := heap_new (w.alloc (.cells arr 45)) (.cells ((boolArr n fun _ => false).setIfInBounds a (.bool true)) 4)
    rw [World.size_alloc] at this
    rw [this, boolArr_set]
    rfl
  have hba := boolArr_at n (fun _ => false) a ha
  go_enter Tryz.func126, Tryz.ntmps126
  go_wp2
  clear hba hmk
  generalize (w.alloc (.cells arr 45)).alloc (.cells ((boolArr n fun _ => false).setIfInBounds a (.bool true)) 4) = W1 at *
  generalize w.alloc (.cells arr 45) = W0 at *
  go_loopg [8] n (fun g x wr => ∃ k : Nat, Hid (k + g = n) ∧ x = .int .i64 k ∧ Hid (AbvAt W0 wr (w.heap.size + 1) n (roundsS L k (startS a))))
  case atStart => exact ⟨0, by show _ = _; omega, rfl, HT⟩
  case round =>
    clear HT
    obtain ⟨k, hk, rfl, HK⟩ := hrel
    have hc0 := (cellOfHeap ((HK.out.below.block _ (by omega)).trans HW0.out) 0).trans f0
    cases gk with
    | zero =>
      have hlt : ¬ (k : Int) < n := by have := hk.out; omega
      have e : k = n := by have := hk.out; omega
      subst e
      have hcb := HK.out.at_ hb
      have HF : Hid (roundsS L k (startS a) b = leqF k L a b) := rfl
      generalize roundsS L k (startS a) b = v0 at hcb HF
      go_wp2
      go_ret
      exact ⟨by rw [← HF.out]; rfl, HB0.out.trans (HK.out.below.mono (by omega))⟩
    | succ g =>
      have hlt : (k : Int) < n := by have := hk.out; omega
      go_wp2
      go_loopg [9] L.length (fun g x wr => ∃ q : Nat, Hid (q + g = L.length) ∧ x = .int .i64 q ∧ Hid (AbvAt W0 wr (w.heap.size + 1) n (roundS (L.take q) (roundsS L k (startS a)))))
      case atStart => exact ⟨0, by show _ = _; omega, rfl, HK⟩
      case round =>
        clear HK hc0
        obtain ⟨q, hq, rfl, HQ⟩ := hrel
        have hc1 := (cellOfHeap ((HQ.out.below.block _ (by omega)).trans HW0.out) 1).trans f1
        cases gk with
        | zero =>
          have hql : ¬ (q : Int) < L.length := by have := hq.out; omega
          go_wp2
          go_roundg g
          case measure => omega
          case rel =>
            refine ⟨k + 1, by show _ = _; have := hk.out; omega, by go_num, ?_⟩
            have := HQ.out
            rw [List.take_of_length_le (by have := hq.out; omega)] at this
            exact this
        | succ g2 =>
          have hql : (q : Int) < L.length := by have := hq.out; omega
          obtain ⟨i, j, hi, hj, ei, ej⟩ := edge_of HE.out (k := q) (by omega)
          obtain ⟨bb, off, rfl, hbb, e1, e2⟩ := (HA.out.below (HB0.out.trans (HQ.out.below.mono (by omega)))).at_ q (by omega)
          have HM : Hid (roundS (L.take (q + 1)) (roundsS L k (startS a)) = if roundS (L.take q) (roundsS L k (startS a)) i then updS (roundS (L.take q) (roundsS L k (startS a))) j else roundS (L.take q) (roundsS L k (startS a))) := by
            show _ = _
            rw [roundS_snoc L _ q (by omega)]
            unfold stepS
            rw [ei, ej]
            rfl
          rw [ei] at e1
          rw [ej] at e2
          clear ei ej
          have ci := HQ.out.at_ hi
          have cj := HQ.out.at_ hj
          have cf := HQ.out.frozen j
          cases es : roundS (L.take q) (roundsS L k (startS a)) i
          · rw [es] at ci
            have HF : Hid (roundS (L.take (q + 1)) (roundsS L k (startS a)) = roundS (L.take q) (roundsS L k (startS a))) := by show _ = _; rw [HM.out, es]; rfl
            clear es HM cj cf
            go_wp2
            go_roundg g2
            case measure => omega
            case rel => exact ⟨q + 1, by show _ = _; have := hq.out; omega, by go_num, by show AbvAt _ _ _ _ _; rw [HF.out]; exact HQ.out⟩
          · rw [es] at ci
            have HF : Hid (roundS (L.take (q + 1)) (roundsS L k (startS a)) = updS (roundS (L.take q) (roundsS L k (startS a))) j) := by show _ = _; rw [HM.out, es]; rfl
            clear es HM
            generalize roundS (L.take q) (roundsS L k (startS a)) j = v0 at cj
            go_wp2
            go_roundg g2
            case measure => omega
            case rel => exact ⟨q + 1, by show _ = _; have := hq.out; omega, by go_num, by show AbvAt _ _ _ _ _; rw [HF.out]; exact HQ.out.set j⟩
end Go.Proofs.YtllcbnfmihfaaaaGreatDoor
