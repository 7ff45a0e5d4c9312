import Derived.Test.YtllcbnfmihfaaaaGreatDoorLeq
namespace Go.Proofs.YtllcbnfmihfaaaaGreatDoor
open Go.RowKit Go.Shelf

theorem run_loadVar_sub {P : Program} (w : World) (g : Nat) (t ty : TypeId) (O : Array Value) (v : Value) (fr : Nat × Nat) (d : TypeDesc) (hg : w.heap[g]? = some (.cells (O.push v) t fr))
    (hu : P.underlying ty = some d) (hd : (match d with | .struct _ | .array _ _ => true | _ => false) = true) (hi : (P.info? ty).map (·.size) = some O.size) :
    (loadVar ty ⟨g, 0, none⟩).run P w = .ok (.agg O) w := by
  have hl : (loadCells ⟨g, 0, none⟩ O.toList.length).run P w = .ok O.toList.toArray w :=
    run_loadCells_list (P := P) w ⟨g, 0, none⟩ O.toList (fun j u hv => by
      have hadd : (⟨g, 0, none⟩ : Addr).add j = ⟨g, j, none⟩ := by unfold Addr.add; split <;> simp_all
      rw [hadd, cell_of_row w g j (O.push v) t fr hg]
      have hv' : O[j]? = some u := by simpa using hv
      have hlt : j < O.size := (Array.getElem?_eq_some_iff.1 hv').1
      rw [Array.getElem?_push_lt hlt]
      rw [← hv', Array.getElem?_eq_getElem hlt])
  cases hq : P.info? ty with
  | none => simp [hq] at hi
  | some i =>
    have hs : i.size = O.size := by simpa [hq] using hi
    have hagg : (isAgg ty).run P w = .ok true w := by
      unfold isAgg
      rw [Sem.run_bind, run_underlying hu w]
      cases d <;> simp_all
    simp only [Array.length_toList, Array.toArray_toList] at hl
    simp [loadVar, Sem.run_bind, hagg, sizeOf, typeInfo, hq, hs, hl]
theorem wp_load_sub {P : Program} {o : Oper} {a : Act} {w : World} {K : Act → World → Prop} {Q : Exit → Act → World → Prop} (ty : TypeId) (x : Operand) (ho : o.op = .load ty x)
    (g : Nat) (hx : a.eval x = .pointer (some ⟨g, 0, none⟩)) (t : TypeId) (O : Array Value) (v : Value) (fr : Nat × Nat) (d : TypeDesc) (hg : w.heap[g]? = some (.cells (O.push v) t fr))
    (hu : P.underlying ty = some d) (hd : (match d with | .struct _ | .array _ _ => true | _ => false) = true) (hi : (P.info? ty).map (·.size) = some O.size)
    (h : K (a.put o.dst (.agg O)) w) : o.wp P a w K Q := by
  unfold Oper.wp execOp
  simp only [ho, hx, Instr.loadAt, Instr.sureAddr, Sem.run_bind, Sem.run_pure, Result.andThen_ok, run_loadVar_sub w g t ty O v fr d hg hu hd hi]
  exact h
/-- The first part of a row loaded, guarded or not. -/
theorem wpList_load_sub_g {P : Program} {ops : Array Oper} {rest : List Oper} {o : Oper} {a : Act} {w : World} {Q : Exit → Act → World → Prop} (ty : TypeId) (x : Operand) (ho : o.op = .load ty x) (hgd : Region.wanted o (yielded ops a.tmps) = true)
    (g : Nat) (hx : a.eval x = .pointer (some ⟨g, 0, none⟩)) (t : TypeId) (O : Array Value) (v : Value) (fr : Nat × Nat) (d : TypeDesc) (hg : w.heap[g]? = some (.cells (O.push v) t fr))
    (hu : P.underlying ty = some d) (hd : (match d with | .struct _ | .array _ _ => true | _ => false) = true) (hi : (P.info? ty).map (·.size) = some O.size)
    (h : wpList P ops Q rest (a.put o.dst (.agg O)) w) : wpList P ops Q (o :: rest) a w :=
  wpList_step fun K hK => by rw [if_pos hgd]; exact wp_load_sub ty x ho g hx t O v fr d hg hu hd hi (hK _ _ h)

structure SetAt (w : World) (N : Nat) (A : Array Value) (W : World) : Prop where
  below : Below w.heap.size w W
  row : W.heap[N]? = some (.cells A 110)
theorem SetAt.step {w : World} {N : Nat} {A : Array Value} {W W' : World} (h : SetAt w N A W) (hb : Below W.heap.size W W') : SetAt w N A W' :=
  ⟨h.below.trans (hb.mono h.below.size), (hb.block _ (Array.getElem?_eq_some_iff.1 h.row).1).trans h.row⟩

set_option maxRecDepth 100000 in
set_option maxHeartbeats 4000000 in
theorem leq_prog : Says3 99 leqT leqE := by
  intro c a b w hc hg
  have HS : Hid (c.arr.size = 11) := c.size
  have HX : Hid (BoxAt w c (w.alloc (.cells c.arr 45))) := boxAt_mk w c
  have cR := cfgRead_any c _ (HX.out.cfg hc) (hg.below HX.out.below)
  rw [(pro_chk c).1, (pro_chk c).2] at cR
  clear hc hg
  go_enter Tryz.func99, Tryz.ntmps99
  go_wp2_with (first
    | (refine wpList_load_row rfl 45 _ rfl _ rfl _ _ _ _ HX.out.box Tryz.underlying45 rfl (infoCfg HS.out) ?_)
    | fail)
  refine cR.mono ?_
  clear cR
  rintro e w2 ⟨A, rfl, hA, hB2⟩
  have HA1 : Hid (A.size = 38) := hA.1
  have HA2 : Hid (A.all (·.oneCell') = true) := hA.2.1
  have HZ : Hid (zSet.size = A.size) := by show _ = _; rw [hA.1]; exact zSet_size
  have HX2 : Hid (BoxAt w c w2) := HX.out.step hB2
  have HB3 : Hid (SetAt w w2.heap.size A (w2.alloc (.cells A 110))) := ⟨HX2.out.below.alloc HX2.out.below.size _, heap_new _ _⟩
  have hA3 := hA.2.2
  rw [(pro_chk c).1] at hA3
  clear hA hB2 HX HX2
  by_cases h0 : chkE c = 0
  · obtain ⟨hnew, sa, sk, sc, hAe⟩ := hA3 h0
    obtain ⟨hn, H⟩ := newOK_parts hnew
    have hE : leqE c a b = if (hasB c.labels.toNat a && hasB c.labels.toNat b) = false then 7 else 0 := by unfold leqE; rw [if_neg (fun hh => hh h0)]
    have hT : leqT c a b = if (hasB c.labels.toNat a && hasB c.labels.toNat b) = false then false else leqF c.labels.toNat c.L a.toNat b.toNat := by unfold leqT; rw [if_neg (fun hh => hh h0)]
    have hn6 : c.labels.toNat ≤ 6 := H.hn
    have hEd : edgesB c.labels.toNat c.L = true := H.hE
    have cH := fun a W => has_any (ordArr c.labels.toNat (newM c.labels.toNat c.L)) c.labels.toNat (isOrd_ordArr _ _).count a W
    rw [h0]
    clear h0 hA3 hn H hnew
    have hAe' : A = (ordArr c.labels.toNat (newM c.labels.toNat c.L)).push (.slice sa sk sc) := hAe
    subst hAe'
    have HO1 : Hid ((ordArr c.labels.toNat (newM c.labels.toNat c.L)).size = 37) := ordArr_size _ _
    generalize hO : ordArr c.labels.toNat (newM c.labels.toNat c.L) = O at *
    have HO : Hid (ordArr c.labels.toNat (newM c.labels.toNat c.L) = O) := hO
    clear hO hAe
    cases h2 : hasB c.labels.toNat a
    · have HE : Hid (leqE c a b = 7) := by show _ = _; rw [hE, h2]; rfl
      have HT : Hid (leqT c a b = false) := by show _ = _; rw [hT, h2]; rfl
      clear hE hT
      go_wp2_with (first
        | (refine wpList_allocSet rfl rfl _ rfl w2.heap.size rfl ?_)
        | (refine wpList_store_row rfl 110 _ _ rfl w2.heap.size (O.push (.slice sa sk sc)) rfl rfl 110 zSet (heap_new w2 _) (infoSet' HA1.out) HZ.out HA2.out ?_; rw [World.setRow_alloc_new])
        | (refine wpList_load_sub_g 107 _ rfl ?hw w2.heap.size rfl 110 O _ _ _ HB3.out.row Tryz.underlying107 rfl (infoOrd HO1.out) ?_; case hw => simp [go_sem]; done)
        | (go_at_call 132; refine (cH a _).mono ?_; rintro e w3 ⟨rfl, hB3⟩; rw [h2]; have HX2 : Hid (SetAt w w2.heap.size (O.push (.slice sa sk sc)) w3) := HB3.out.step hB3; clear HB3; have HB3 := HX2; clear HX2 hB3))
      go_ret2
      exact ⟨by rw [HE.out, HT.out]; rfl, HB3.out.below⟩
    · cases h3 : hasB c.labels.toNat b
      · have HE : Hid (leqE c a b = 7) := by show _ = _; rw [hE, h2, h3]; rfl
        have HT : Hid (leqT c a b = false) := by show _ = _; rw [hT, h2, h3]; rfl
        clear hE hT
        have T1 : True := trivial
        go_wp2_with (first
          | (refine wpList_allocSet rfl rfl _ rfl w2.heap.size rfl ?_)
          | (refine wpList_store_row rfl 110 _ _ rfl w2.heap.size (O.push (.slice sa sk sc)) rfl rfl 110 zSet (heap_new w2 _) (infoSet' HA1.out) HZ.out HA2.out ?_; rw [World.setRow_alloc_new])
          | (refine wpList_load_sub_g 107 _ rfl ?hw w2.heap.size rfl 110 O _ _ _ HB3.out.row Tryz.underlying107 rfl (infoOrd HO1.out) ?_; case hw => simp [go_sem]; done)
          | (go_at_call 132; clear T1; refine (cH a _).mono ?_; rintro e w3 ⟨rfl, hB3⟩; rw [h2]; have HX2 : Hid (SetAt w w2.heap.size (O.push (.slice sa sk sc)) w3) := HB3.out.step hB3; clear HB3; have HB3 := HX2; clear HX2 hB3)
          | (go_at_call 132; refine (cH b _).mono ?_; rintro e w4 ⟨rfl, hB4⟩; rw [h3]; have HX2 : Hid (SetAt w w2.heap.size (O.push (.slice sa sk sc)) w4) := HB3.out.step hB4; clear HB3; have HB3 := HX2; clear HX2 hB4))
        go_ret2
        exact ⟨by rw [HE.out, HT.out]; rfl, HB3.out.below⟩
      · have HE : Hid (leqE c a b = 0) := by show _ = _; rw [hE, h2, h3]; rfl
        have HT : Hid (leqT c a b = leqF c.labels.toNat c.L a.toNat b.toNat) := by show _ = _; rw [hT, h2, h3]; rfl
        obtain ⟨ea, la⟩ := has_nat h2
        obtain ⟨eb, lb⟩ := has_nat h3
        have cQ : ∀ W, Calls Tryz.prog 151 #[.agg O, .int .i64 a, .int .i64 b] W fun e w' => e = .returned (.bool (leqF c.labels.toNat c.L a.toNat b.toNat)) ∧ Below W.heap.size W w' := fun W => by
          have h := atMost_any (ordArr c.labels.toNat (newM c.labels.toNat c.L)) c.labels.toNat (newM c.labels.toNat c.L) (isOrd_ordArr _ _) hn6 a.toNat b.toNat la lb W
          rw [← ea, ← eb, HO.out] at h
          rw [← newM_leqF hEd la lb]
          exact h
        clear hE hT ea la eb lb
        have T1 : True := trivial
        go_wp2_with (first
          | (refine wpList_allocSet rfl rfl _ rfl w2.heap.size rfl ?_)
          | (refine wpList_store_row rfl 110 _ _ rfl w2.heap.size (O.push (.slice sa sk sc)) rfl rfl 110 zSet (heap_new w2 _) (infoSet' HA1.out) HZ.out HA2.out ?_; rw [World.setRow_alloc_new])
          | (refine wpList_load_sub_g 107 _ rfl ?hw w2.heap.size rfl 110 O _ _ _ HB3.out.row Tryz.underlying107 rfl (infoOrd HO1.out) ?_; case hw => simp [go_sem]; done)
          | (go_at_call 132; clear T1; refine (cH a _).mono ?_; rintro e w3 ⟨rfl, hB3⟩; rw [h2]; have HX2 : Hid (SetAt w w2.heap.size (O.push (.slice sa sk sc)) w3) := HB3.out.step hB3; clear HB3; have HB3 := HX2; clear HX2 hB3)
          | (go_at_call 132; refine (cH b _).mono ?_; rintro e w4 ⟨rfl, hB4⟩; rw [h3]; have HX2 : Hid (SetAt w w2.heap.size (O.push (.slice sa sk sc)) w4) := HB3.out.step hB4; clear HB3; have HB3 := HX2; clear HX2 hB4)
          | (go_at_call 151; refine (cQ _).mono ?_; rintro e w5 ⟨rfl, hB5⟩; have HX2 : Hid (SetAt w w2.heap.size (O.push (.slice sa sk sc)) w5) := HB3.out.step hB5; clear HB3; have HB3 := HX2; clear HX2 hB5))
        go_ret2
        exact ⟨by rw [HE.out, HT.out]; rfl, HB3.out.below⟩
  · have HE : Hid (leqE c a b = chkE c) := by show _ = _; unfold leqE; rw [if_pos h0]
    have HT : Hid (leqT c a b = false) := by show _ = _; unfold leqT; rw [if_pos h0]
    clear hA3
    generalize chkE c = E at *
    generalize chkN c = N at *
    go_wp2_with (first
      | (refine wpList_allocSet rfl rfl _ rfl w2.heap.size rfl ?_)
      | (refine wpList_store_row rfl 110 _ _ rfl w2.heap.size A rfl rfl 110 zSet (heap_new w2 _) (infoSet' HA1.out) HZ.out HA2.out ?_; rw [World.setRow_alloc_new]))
    go_ret2
    exact ⟨by rw [HE.out, HT.out]; rfl, HB3.out.below⟩
end Go.Proofs.YtllcbnfmihfaaaaGreatDoor
