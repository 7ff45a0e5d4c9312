import Derived.Test.YtllcbnfmihfaaaaGreatDoorHdB
import Derived.Defers
namespace Go.Proofs.YtllcbnfmihfaaaaGreatDoor
open Go.RowKit

theorem SrcAt.same {W V V' : World} {b : Nat} {s0 s : Src} (h0 : SrcAt W b s0) (hia : s.ia = s0.ia) (hbs : s.bs = s0.bs) (h : SrcAt V b s) (hk : ∀ k, k < W.heap.size → V'.heap[k]? = V.heap[k]?) : SrcAt V' b s := by
  have hb : b < W.heap.size := (Array.getElem?_eq_some_iff.1 h0.row).1
  refine ⟨(hk b hb).trans h.row, fun i hi => ?_, h.len, h.le⟩
  obtain ⟨g, off, e1, e2, e3⟩ := h.inp i hi
  obtain ⟨g0, off0, f1, f2, f3⟩ := h0.inp i (by rw [← hbs]; exact hi)
  have hg : g = g0 := by
    rw [hia, f1] at e1
    injection e1 with e1
    injection e1 with e1
    exact e1.symm
  refine ⟨g, off, e1, e2, ?_⟩
  rw [World.cell?_of_block (w := V) (hk g (by rw [hg]; exact block_lt_of_cell f3))]
  exact e3
/-- How a frame leaves hangs on its slots by its results alone. -/
theorem leaves_tmps {P : Program} {fn : Func} {R : Ending → World → Prop} {t t' : Array Value} (h : results fn t = results fn t') : ∀ (ds : List Deferred) (u : FrameMode) (w : World), Leaves P fn t R ds u w → Leaves P fn t' R ds u w
  | [], .returning, _, H => by
    unfold Leaves at *
    rw [← h]
    exact H
  | [], .panicking _, _, H => H
  | [], .run, _, H => H
  | _ :: ds, _, _, H => by
    obtain ⟨h1, fv, cap, f, args, h2, h3, h4⟩ := H
    refine ⟨h1, fv, cap, f, args, h2, h3, h4.mono fun e u' w' hh => ?_⟩
    cases e with
    | returned v => exact leaves_tmps h ds _ _ hh
    | panicked c => exact leaves_tmps h ds _ _ hh
    | outgrown => exact hh
theorem panic_keep {P : Program} {fn : Func} {R : Ending → World → Prop} (hres : fn.results = #[.tmp 2]) (d : Tmp) (hd : d ≠ 2) (v : Value) (c : List PanicEntry) (a : Act) (w : World) (h : bodyPostD P fn R (.panic c) (a.put (some d) v) w) : bodyPostD P fn R (.panic c) a w := by
  refine leaves_tmps (t := (a.put (some d) v).tmps) ?_ _ _ _ h
  unfold results
  rw [hres]
  have e : (a.put (some d) v).tmps[2]?.getD undef = a.tmps[2]?.getD undef := by
    show (a.tmps.setIfInBounds d v)[2]?.getD undef = _
    rw [Array.getElem?_setIfInBounds_ne hd]
  simp [e]
theorem res_slot {P : Program} {fn : Func} (hres : fn.results = #[.tmp 2]) (t : Array Value) (w : World) : (results fn t).run P w = .ok (t.getD 2 undef) w := by
  unfold results
  rw [hres]
  simp
/-- Behind the head of a thing: the source, the reader's box, the head's box. -/
structure ThAt (W0 : World) (b N M : Nat) (fv : Value) (so w g : Nat) (s : Src) (W : World) : Prop where
  src : SrcAt W b s
  but : But b W0 W
  box : W.heap[N]? = some (.cells #[.pointer (some ⟨b, 0, none⟩), fv] 201)
  hd : W.heap[M]? = some (.cells #[.int .i64 so, .int .i64 w, .int .u64 g] 273)
  ne : b < N
  nm : b < M
theorem ThAt.step {W0 : World} {b N M : Nat} {fv : Value} {so w g : Nat} {s s' : Src} {W W' : World} (h : ThAt W0 b N M fv so w g s W) (hs : SrcAt W' b s') (hb : But b W W') : ThAt W0 b N M fv so w g s' W' :=
  ⟨hs, h.but.trans hb, (hb.block _ (Array.getElem?_eq_some_iff.1 h.box).1 (by have := h.ne; omega)).trans h.box, (hb.block _ (Array.getElem?_eq_some_iff.1 h.hd).1 (by have := h.nm; omega)).trans h.hd, h.ne, h.nm⟩
/-- The world behind the head: what is laid beside, and the head's box written last. -/
theorem thAt_mk {W V : World} {b : Nat} {fv : Value} {so w g : Nat} {s : Src} (M : Nat) (h0 : SrcAt W b s) (hV : SrcAt V b s.next) (hB : But b W V) (hbox : V.heap[W.heap.size]? = some (.cells #[.pointer (some ⟨b, 0, none⟩), fv] 201))
    (hM : W.heap.size < M) (hz : V.heap[M]? = some (.cells #[.int .i64 0, .int .i64 0, .int .u64 0] 273)) : ThAt W b W.heap.size M fv so w g s.next (V.setRow M #[.int .i64 so, .int .i64 w, .int .u64 g]) := by
  have hb : b < W.heap.size := (Array.getElem?_eq_some_iff.1 h0.row).1
  refine ⟨h0.same rfl rfl hV (fun k hk => setRow_other _ _ _ _ (by omega)), ⟨hB.os, hB.tape, hB.output, by simpa using hB.size, fun k hk hne => (setRow_other _ _ _ _ (by omega)).trans (hB.block k hk hne)⟩, (setRow_other _ _ _ _ (by omega)).trans hbox, setRow_heap _ _ _ _ _ _ hz, hb, by omega⟩

set_option maxRecDepth 100000 in
set_option maxHeartbeats 2000000 in
theorem readThing_bin (W : World) (b : Nat) (s : Src) (c : UInt8) (f so w g x p : Nat) (z : Int) (h : SrcAt W b s) (h1 : Here s c) (hso : so = 4 ∨ so = 5 ∨ so = 6) (hw : w ≤ 8) (hg : w = 0 ∨ g = 0) (hx : x < 18446744073709551616)
    (hA : argF s.bs s.lim w (s.pos + 1) g = .ok (x, p)) (hN : nbF so w x p = .ok z) (hf : f = 107 ∨ f = 108)
    (cH : ∀ V, But b W V → Calls Tryz.prog f #[.int .u8 c.toNat] V fun e V' => e = .returned (.agg #[.int .i64 so, .int .i64 w, .int .u64 g]) ∧ Below V.heap.size V V') :
    Calls Tryz.prog 325 #[.agg #[.pointer (some ⟨b, 0, none⟩), .func (.func f) #[] #[]]] W fun e W' => e = .returned (thNum z) ∧ SrcAt W' b { s with pos := p } ∧ But b W W' := by
  have cT0 : ∀ V, SrcAt V b s → Calls Tryz.prog 294 #[.pointer (some ⟨b, 0, none⟩)] V fun e W' => e = .returned (.int .u8 c.toNat) ∧ SrcAt W' b s.next ∧ But b V W' := fun V hV => take_byte V b s c hV h1
  have cA : ∀ V, SrcAt V b s.next → Calls Tryz.prog 326 #[.agg #[.pointer (some ⟨b, 0, none⟩), .func (.func f) #[] #[]], .agg #[.int .i64 so, .int .i64 w, .int .u64 g]] V fun e V' => But b V V' ∧ e = .returned (.int .u64 x) ∧ SrcAt V' b { s with pos := p } := fun V hV => by
    have := readArgument_any V b s.next f so w g hw hg hV
    rw [show argF s.next.bs s.next.lim w s.next.pos g = .ok (x, p) from hA] at this
    exact this
  have cN : ∀ V, SrcAt V b { s with pos := p } → Calls Tryz.prog 327 #[.agg #[.pointer (some ⟨b, 0, none⟩), .func (.func f) #[] #[]], .agg #[.int .i64 so, .int .i64 w, .int .u64 g], .int .u64 x] V fun e V' => But b V V' ∧ e = .returned (.int .i64 z) ∧ SrcAt V' b { s with pos := p } := fun V hV => by
    have := numberOf_any V b { s with pos := p } f so w g x hx hV
    rw [show nbF so w x ({ s with pos := p } : Src).pos = .ok z from hN] at this
    exact this
  have HH : Hid (SrcAt W b s) := h
  have hbN : b < W.heap.size := (Array.getElem?_eq_some_iff.1 h.row).1
  have hB1 : Below W.heap.size W (W.alloc (.cells #[.pointer (some ⟨b, 0, none⟩), .func (.func f) #[] #[]] 201)).drew := ((Below.refl _ _).alloc (Nat.le_refl _) _).drew
  have HB1 : Hid (Below W.heap.size W (W.alloc (.cells #[.pointer (some ⟨b, 0, none⟩), .func (.func f) #[] #[]] 201)).drew) := hB1
  have HS1 : Hid (SrcAt (W.alloc (.cells #[.pointer (some ⟨b, 0, none⟩), .func (.func f) #[] #[]] 201)).drew b s) := h.below hB1
  have HX1 : Hid ((W.alloc (.cells #[.pointer (some ⟨b, 0, none⟩), .func (.func f) #[] #[]] 201)).drew.heap[W.heap.size]? = some (.cells #[.pointer (some ⟨b, 0, none⟩), .func (.func f) #[] #[]] 201)) := heap_new W _
  have HCF : Hid (∀ (args : Array Value) (V : World), (callFunc f args).run Tryz.prog V = .ok (.enter f args) V) := by
    show ∀ _ _, _
    rcases hf with rfl | rfl <;> exact fun args V => by kernel_rfl
  have hs0 : ((so : Int) == 0) = false := by simp; omega
  have hs9 : ((so : Int) == 9) = false := by simp; omega
  have hs10 : ((so : Int) == 10) = false := by simp; omega
  have hs2 : ((so : Int) == 2) = false := by simp; omega
  have hs3 : ((so : Int) == 3) = false := by simp; omega
  clear h h1 hA hN hB1 hw hg hx
  go_enter_defers Tryz.func325, Tryz.ntmps325
  go_wp2_with fail
  refine wp_region_held (S := fun V => V.heap[W.heap.size]? = some (.cells #[.pointer (some ⟨b, 0, none⟩), .func (.func f) #[] #[]] 201)) (by kernel_rfl) ?_
  have hS := HX1.out
  refine wpAnyH_take (i := 0) (v := .pointer (some ⟨W.heap.size, 1, none⟩)) rfl (by kernel_rfl) (by kernel_rfl) (by kernel_rfl) (fun c a w h => panic_keep Tryz.results325 5 (by decide) _ c a w h) (.inl ⟨rfl, fun V hV => rfl⟩) hS ?_
  refine wpAnyH_take (i := 1) (v := .func (.func f) #[] #[]) rfl (by kernel_rfl) (by kernel_rfl) (by kernel_rfl) (fun c a w h => panic_keep Tryz.results325 6 (by decide) _ c a w h) (.inl ⟨rfl, fun V hV => ?y1⟩) hS ?_
  case y1 => (have h2 := cellOfHeap hV 1; go_simp)
  refine wpAnyH_take (i := 2) (v := .pointer (some ⟨W.heap.size, 0, none⟩)) rfl (by kernel_rfl) (by kernel_rfl) (by kernel_rfl) (fun c a w h => panic_keep Tryz.results325 7 (by decide) _ c a w h) (.inl ⟨rfl, fun V hV => rfl⟩) hS ?_
  refine wpAnyH_take (i := 3) (v := .pointer (some ⟨b, 0, none⟩)) rfl (by kernel_rfl) (by kernel_rfl) (by kernel_rfl) (fun c a w h => panic_keep Tryz.results325 8 (by decide) _ c a w h) (.inl ⟨rfl, fun V hV => ?y3⟩) hS ?_
  case y3 => (have h2 := cellOfHeap hV 0; go_simp)
  refine wpAnyH_ready (rs := [4, 6]) (by kernel_rfl) (by simp) ?_
  refine AllReadyH.cons rfl (fun K hK => ?_) (AllReadyH.cons rfl (fun K hK => ?_) AllReadyH.nil)
  · go_simp
    refine (cT0 _ HS1.out).mono ?_
    rintro e w2 ⟨rfl, hS2, hB2⟩
    simp only []
    have hX2 : w2.heap[W.heap.size]? = some (.cells #[.pointer (some ⟨b, 0, none⟩), .func (.func f) #[] #[]] 201) := (hB2.block _ (Array.getElem?_eq_some_iff.1 hS).1 (by omega)).trans hS
    have hBW2 : But b W w2 := (But.of_below HB1.out).trans hB2
    have hN2 : W.heap.size < w2.heap.size := (Array.getElem?_eq_some_iff.1 hX2).1
    refine hK.out _ _ hX2 (fun _ => ?_)
    clear hK
    refine wpAnyH_ready (rs := [5, 6]) (by kernel_rfl) (by simp) ?_
    refine AllReadyH.cons rfl (fun K hK => ?_) (AllReadyH.cons rfl (fun K hK => ?_) AllReadyH.nil)
    · go_simp
      rw [HCF.out]
      refine Calls.mono (cH _ hBW2) ?_
      rintro e w3 ⟨rfl, hB3⟩
      simp only []
      have hX3 := (hB3.block _ hN2).trans hX2
      have hN3 : W.heap.size < w3.heap.size := (Array.getElem?_eq_some_iff.1 hX3).1
      refine hK.out _ _ hX3 (fun _ => ?_)
      clear hK
      refine wpAnyH_ready (rs := [6]) (by kernel_rfl) (by simp) ?_
      refine AllReadyH.cons rfl (fun K hK => ?_) AllReadyH.nil
      go_simp
      have hX4 : (w3.alloc (.cells #[.int .i64 0, .int .i64 0, .int .u64 0] 273)).heap[W.heap.size]? = _ := (Below.heap_alloc _ _ _ hN3).trans hX3
      refine hK.out _ _ hX4 (fun _ => ?_)
      clear hK
      refine wpAnyH_ready (rs := [7]) (by kernel_rfl) (by simp) ?_
      refine AllReadyH.cons rfl (fun K hK => ?_) AllReadyH.nil
      rw [if_pos (by rfl)]
      refine wp_store_row 273 _ _ rfl w3.heap.size #[.int .i64 so, .int .i64 w, .int .u64 g] rfl rfl 273 _ (heap_new w3 _) infoHd rfl (by simp [Value.oneCell']) ?_
      have HT : Hid (ThAt W b W.heap.size w3.heap.size (.func (.func f) #[] #[]) so w g s.next ((w3.alloc (.cells #[.int .i64 0, .int .i64 0, .int .u64 0] 273)).setRow w3.heap.size #[.int .i64 so, .int .i64 w, .int .u64 g])) :=
        thAt_mk w3.heap.size HH.out ((hS2.below hB3).below ((Below.refl _ _).alloc (Nat.le_refl _) _)) ((hBW2.trans (But.of_below hB3)).trans (But.of_below ((Below.refl _ _).alloc (Nat.le_refl _) _))) hX4 hN3 (heap_new w3 _)
      refine hK.out _ _ HT.out.box (fun _ => ?_)
      clear hK
      refine wpAnyH_done (by kernel_rfl) ?_ _
      generalize (w3.alloc (.cells #[.int .i64 0, .int .i64 0, .int .u64 0] 273)).setRow w3.heap.size #[.int .i64 so, .int .i64 w, .int .u64 g] = V at *
      generalize w3.heap.size = M at *
      clear hX4 hX3 hN3 hB3 hN2 hBW2 hX2 hS2 hB2 HX1 hS HS1 HB1 HH cH cT0
      have k0 := cellOfHeap HT.out.box 0
      have k1 := cellOfHeap HT.out.box 1
      have m0 := cellOfHeap HT.out.hd 0
      have m1 := cellOfHeap HT.out.hd 1
      have m2 := cellOfHeap HT.out.hd 2
      have cA1 := cA V HT.out.src
      clear cA HCF
      rcases hso with h4 | h4 | h4
      all_goals have e4 : ((so : Int) == 4) = decide (so = 4) := by rw [h4]; rfl
      all_goals have e5 : ((so : Int) == 5) = decide (so = 5) := by rw [h4]; rfl
      all_goals have e6 : ((so : Int) == 6) = decide (so = 6) := by rw [h4]; rfl
      all_goals (rw [h4] at e4 e5 e6; simp only [Nat.reduceEqDiff, decide_true, decide_false] at e4 e5 e6; rw [← h4] at e4 e5 e6; clear h4)
      all_goals
        go_wp2_with (first
          | (go_at_call 326; refine cA1.mono ?_; clear cA1; rintro e w5 ⟨hB5, rfl, hS5⟩; have HT5 : Hid (ThAt W b W.heap.size M (.func (.func f) #[] #[]) so w g { s with pos := p } w5) := HT.out.step hS5 hB5; clear HT k0 k1 m0 m1 m2 hB5 hS5; have k0 := cellOfHeap HT5.out.box 0; have k1 := cellOfHeap HT5.out.box 1; have m0 := cellOfHeap HT5.out.hd 0; have m1 := cellOfHeap HT5.out.hd 1; have m2 := cellOfHeap HT5.out.hd 2; have cN1 := cN w5 HT5.out.src; clear cN)
          | (go_at_call 327; refine cN1.mono ?_; clear cN1; rintro e w6 ⟨hB6, rfl, hS6⟩))
      all_goals exact ⟨_, res_slot Tryz.results325 _ _, rfl, hS6, HT5.out.but.trans hB6⟩
    · go_simp
      have hX3 : (w2.alloc (.cells #[.int .i64 0, .int .i64 0, .int .u64 0] 273)).heap[W.heap.size]? = _ := (Below.heap_alloc _ _ _ hN2).trans hX2
      have hBa : Below w2.heap.size w2 (w2.alloc (.cells #[.int .i64 0, .int .i64 0, .int .u64 0] 273)) := (Below.refl _ _).alloc (Nat.le_refl _) _
      have hN3 : W.heap.size < (w2.alloc (.cells #[.int .i64 0, .int .i64 0, .int .u64 0] 273)).heap.size := (Array.getElem?_eq_some_iff.1 hX3).1
      refine hK.out _ _ hX3 (fun _ => ?_)
      clear hK
      refine wpAnyH_ready (rs := [5]) (by kernel_rfl) (by simp) ?_
      refine AllReadyH.cons rfl (fun K hK => ?_) AllReadyH.nil
      go_simp
      rw [HCF.out]
      refine Calls.mono (cH _ (hBW2.trans (But.of_below hBa))) ?_
      rintro e w3 ⟨rfl, hB3⟩
      simp only []
      have hX4 := (hB3.block _ hN3).trans hX3
      have hZ4 := (hB3.block w2.heap.size (by simp)).trans (heap_new w2 (.cells #[.int .i64 0, .int .i64 0, .int .u64 0] 273))
      refine hK.out _ _ hX4 (fun _ => ?_)
      clear hK
      refine wpAnyH_ready (rs := [7]) (by kernel_rfl) (by simp) ?_
      refine AllReadyH.cons rfl (fun K hK => ?_) AllReadyH.nil
      rw [if_pos (by rfl)]
      refine wp_store_row 273 _ _ rfl w2.heap.size #[.int .i64 so, .int .i64 w, .int .u64 g] rfl rfl 273 _ hZ4 infoHd rfl (by simp [Value.oneCell']) ?_
      have HT : Hid (ThAt W b W.heap.size w2.heap.size (.func (.func f) #[] #[]) so w g s.next (w3.setRow w2.heap.size #[.int .i64 so, .int .i64 w, .int .u64 g])) :=
        thAt_mk w2.heap.size HH.out ((hS2.below hBa).below hB3) ((hBW2.trans (But.of_below hBa)).trans (But.of_below hB3)) hX4 hN2 hZ4
      refine hK.out _ _ HT.out.box (fun _ => ?_)
      clear hK
      refine wpAnyH_done (by kernel_rfl) ?_ _
      generalize w3.setRow w2.heap.size #[.int .i64 so, .int .i64 w, .int .u64 g] = V at *
      clear hX4 hZ4 hX3 hN3 hB3 hBa hN2 hBW2 hX2 hS2 hB2 HX1 hS HS1 HB1 HH cH cT0
      generalize w2.heap.size = M at *
      have k0 := cellOfHeap HT.out.box 0
      have k1 := cellOfHeap HT.out.box 1
      have m0 := cellOfHeap HT.out.hd 0
      have m1 := cellOfHeap HT.out.hd 1
      have m2 := cellOfHeap HT.out.hd 2
      have cA1 := cA V HT.out.src
      clear cA HCF
      rcases hso with h4 | h4 | h4
      all_goals have e4 : ((so : Int) == 4) = decide (so = 4) := by rw [h4]; rfl
      all_goals have e5 : ((so : Int) == 5) = decide (so = 5) := by rw [h4]; rfl
      all_goals have e6 : ((so : Int) == 6) = decide (so = 6) := by rw [h4]; rfl
      all_goals (rw [h4] at e4 e5 e6; simp only [Nat.reduceEqDiff, decide_true, decide_false] at e4 e5 e6; rw [← h4] at e4 e5 e6; clear h4)
      all_goals
        go_wp2_with (first
          | (go_at_call 326; refine cA1.mono ?_; clear cA1; rintro e w5 ⟨hB5, rfl, hS5⟩; have HT5 : Hid (ThAt W b W.heap.size M (.func (.func f) #[] #[]) so w g { s with pos := p } w5) := HT.out.step hS5 hB5; clear HT k0 k1 m0 m1 m2 hB5 hS5; have k0 := cellOfHeap HT5.out.box 0; have k1 := cellOfHeap HT5.out.box 1; have m0 := cellOfHeap HT5.out.hd 0; have m1 := cellOfHeap HT5.out.hd 1; have m2 := cellOfHeap HT5.out.hd 2; have cN1 := cN w5 HT5.out.src; clear cN)
          | (go_at_call 327; refine cN1.mono ?_; clear cN1; rintro e w6 ⟨hB6, rfl, hS6⟩))
      all_goals exact ⟨_, res_slot Tryz.results325 _ _, rfl, hS6, HT5.out.but.trans hB6⟩
  · go_simp
    have hX3 : ((W.alloc (.cells #[.pointer (some ⟨b, 0, none⟩), .func (.func f) #[] #[]] 201)).drew.alloc (.cells #[.int .i64 0, .int .i64 0, .int .u64 0] 273)).heap[W.heap.size]? = _ := (Below.heap_alloc _ _ _ (Array.getElem?_eq_some_iff.1 hS).1).trans hS
    have hBa : Below W.heap.size W ((W.alloc (.cells #[.pointer (some ⟨b, 0, none⟩), .func (.func f) #[] #[]] 201)).drew.alloc (.cells #[.int .i64 0, .int .i64 0, .int .u64 0] 273)) := HB1.out.alloc HB1.out.size _
    have hZ3 : ((W.alloc (.cells #[.pointer (some ⟨b, 0, none⟩), .func (.func f) #[] #[]] 201)).drew.alloc (.cells #[.int .i64 0, .int .i64 0, .int .u64 0] 273)).heap[W.heap.size + 1]? = some (.cells #[.int .i64 0, .int .i64 0, .int .u64 0] 273) := by
      have := heap_new (W.alloc (.cells #[.pointer (some ⟨b, 0, none⟩), .func (.func f) #[] #[]] 201)).drew (.cells #[.int .i64 0, .int .i64 0, .int .u64 0] 273)
      rw [show (W.alloc (.cells #[.pointer (some ⟨b, 0, none⟩), .func (.func f) #[] #[]] 201)).drew.heap.size = W.heap.size + 1 from World.size_alloc ..] at this
      exact this
    have HS3 : Hid (SrcAt ((W.alloc (.cells #[.pointer (some ⟨b, 0, none⟩), .func (.func f) #[] #[]] 201)).drew.alloc (.cells #[.int .i64 0, .int .i64 0, .int .u64 0] 273)) b s) := HH.out.below hBa
    refine hK.out _ _ hX3 (fun _ => ?_)
    clear hK
    refine wpAnyH_ready (rs := [4]) (by kernel_rfl) (by simp) ?_
    refine AllReadyH.cons rfl (fun K hK => ?_) AllReadyH.nil
    go_simp
    refine (cT0 _ HS3.out).mono ?_
    rintro e w2 ⟨rfl, hS2, hB2⟩
    simp only []
    have hX2 := (hB2.block _ (Array.getElem?_eq_some_iff.1 hX3).1 (by omega)).trans hX3
    have hZ2 := (hB2.block _ (Array.getElem?_eq_some_iff.1 hZ3).1 (by omega)).trans hZ3
    have hBW2 : But b W w2 := (But.of_below hBa).trans hB2
    refine hK.out _ _ hX2 (fun _ => ?_)
    clear hK
    refine wpAnyH_ready (rs := [5]) (by kernel_rfl) (by simp) ?_
    refine AllReadyH.cons rfl (fun K hK => ?_) AllReadyH.nil
    go_simp
    rw [HCF.out]
    refine Calls.mono (cH _ hBW2) ?_
    rintro e w3 ⟨rfl, hB3⟩
    simp only []
    have hX4 := (hB3.block _ (Array.getElem?_eq_some_iff.1 hX2).1).trans hX2
    have hZ4 := (hB3.block _ (Array.getElem?_eq_some_iff.1 hZ2).1).trans hZ2
    refine hK.out _ _ hX4 (fun _ => ?_)
    clear hK
    refine wpAnyH_ready (rs := [7]) (by kernel_rfl) (by simp) ?_
    refine AllReadyH.cons rfl (fun K hK => ?_) AllReadyH.nil
    rw [if_pos (by rfl)]
    refine wp_store_row 273 _ _ rfl (W.heap.size + 1) #[.int .i64 so, .int .i64 w, .int .u64 g] rfl rfl 273 _ hZ4 infoHd rfl (by simp [Value.oneCell']) ?_
    have HT : Hid (ThAt W b W.heap.size (W.heap.size + 1) (.func (.func f) #[] #[]) so w g s.next (w3.setRow (W.heap.size + 1) #[.int .i64 so, .int .i64 w, .int .u64 g])) :=
      thAt_mk (W.heap.size + 1) HH.out (hS2.below hB3) (hBW2.trans (But.of_below hB3)) hX4 (by omega) hZ4
    refine hK.out _ _ HT.out.box (fun _ => ?_)
    clear hK
    refine wpAnyH_done (by kernel_rfl) ?_ _
    generalize w3.setRow (W.heap.size + 1) #[.int .i64 so, .int .i64 w, .int .u64 g] = V at *
    clear hX4 hZ4 hX3 hZ3 hZ2 hB3 hBa hBW2 hX2 hS2 hB2 HX1 hS HS1 HS3 HB1 HH cH cT0
    generalize W.heap.size + 1 = M at *
    have k0 := cellOfHeap HT.out.box 0
    have k1 := cellOfHeap HT.out.box 1
    have m0 := cellOfHeap HT.out.hd 0
    have m1 := cellOfHeap HT.out.hd 1
    have m2 := cellOfHeap HT.out.hd 2
    have cA1 := cA V HT.out.src
    clear cA HCF
    rcases hso with h4 | h4 | h4
    all_goals have e4 : ((so : Int) == 4) = decide (so = 4) := by rw [h4]; rfl
    all_goals have e5 : ((so : Int) == 5) = decide (so = 5) := by rw [h4]; rfl
    all_goals have e6 : ((so : Int) == 6) = decide (so = 6) := by rw [h4]; rfl
    all_goals (rw [h4] at e4 e5 e6; simp only [Nat.reduceEqDiff, decide_true, decide_false] at e4 e5 e6; rw [← h4] at e4 e5 e6; clear h4)
    all_goals
      go_wp2_with (first
        | (go_at_call 326; refine cA1.mono ?_; clear cA1; rintro e w5 ⟨hB5, rfl, hS5⟩; have HT5 : Hid (ThAt W b W.heap.size M (.func (.func f) #[] #[]) so w g { s with pos := p } w5) := HT.out.step hS5 hB5; clear HT k0 k1 m0 m1 m2 hB5 hS5; have k0 := cellOfHeap HT5.out.box 0; have k1 := cellOfHeap HT5.out.box 1; have m0 := cellOfHeap HT5.out.hd 0; have m1 := cellOfHeap HT5.out.hd 1; have m2 := cellOfHeap HT5.out.hd 2; have cN1 := cN w5 HT5.out.src; clear cN)
        | (go_at_call 327; refine cN1.mono ?_; clear cN1; rintro e w6 ⟨hB6, rfl, hS6⟩))
    all_goals exact ⟨_, res_slot Tryz.results325 _ _, rfl, hS6, HT5.out.but.trans hB6⟩
end Go.Proofs.YtllcbnfmihfaaaaGreatDoor
