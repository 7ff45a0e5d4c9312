import Derived.Test.YtllcbnfmihfaaaaGreatDoorCfg
namespace Go.Proofs.YtllcbnfmihfaaaaGreatDoor
open Go.RowKit

theorem Cfg.f1 (c : Cfg) : c.arr[1]? = some (.slice c.ea c.L.length c.ecap) := rfl
theorem Cfg.f10 (c : Cfg) : c.arr[10]? = some (.slice c.ba c.B.length c.bcap) := rfl
theorem lent_c (c : Cfg) (w : World) (h : CfgW w c) : Calls Tryz.prog 96 #[.agg c.arr] w fun e w' => e = .returned (.agg (c.lent w).arr) ∧ LentOut w w' (c.L ++ roomE 8) (c.B ++ roomI 8) := by
  rw [Cfg.lent_arr]
  exact lent_any c.arr c.L c.ea c.ecap c.B c.ba c.bcap c.size c.one c.f1 c.f10 h.en h.bn h.eb h.bb w h.edges h.ints
theorem whole_c (c : Cfg) (w0 w : World) (h : CfgW w0 c) (hb : Below w0.heap.size w0 w) (hE : w.heap[w0.heap.size + 1 + 1]? = some (.cells (edgeArr (c.L ++ roomE 8)) 101)) (hI : w.heap[w0.heap.size + 1 + 1 + 1]? = some (.cells (intArr (c.B ++ roomI 8)) 3)) :
    Calls Tryz.prog 97 #[.agg (c.lent w0).arr, .agg c.arr] w fun e w' => e = .returned (.bool true) ∧ Below w0.heap.size w w' := by
  refine whole_any c.arr (c.lent w0).arr c.L c.ea c.ecap c.B c.ba c.bcap _ _ c.f1 c.f10 (c.lent w0).f1 (c.lent w0).f10 (by have := h.eb; omega) (by have := h.bb; omega) w0 w h.edges h.ints hb ?_ ?_ hE hI
  · intro hs
    show Value.slice (if c.ea.isSome then _ else _) c.L.length (if c.ea.isSome then _ else _) = _
    rw [hs]; rfl
  · intro hs
    show Value.slice (if c.ba.isSome then _ else _) c.B.length (if c.ba.isSome then _ else _) = _
    rw [hs]; rfl

/-- A step, as data. -/
structure OpD where
  kind : Int
  a : Int
  b : Int
  c : Int
  d : Int
  s : ByteArray
  pp : Option Addr
  pl : Nat
  pc : Nat
def OpD.arr (o : OpD) : Array Value := #[.int .i64 o.kind, .int .i64 o.a, .int .i64 o.b, .int .i64 o.c, .int .i64 o.d, .string o.s, .slice o.pp o.pl o.pc]

/-- What 'asked' stands on: the boxes of the configuration and of the step, the lent one, its rows. -/
structure AskAt (w W : World) (c : Cfg) (oarr : Array Value) (N : Nat) (W0 : World) : Prop where
  below : Below w.heap.size w W
  box : W.heap[w.heap.size]? = some (.cells c.arr 45)
  op : W.heap[w.heap.size + 1]? = some (.cells oarr 74)
  lent : W.heap[N]? = some (.cells (c.lent W0).arr 45)
  e : W.heap[W0.heap.size + 1 + 1]? = some (.cells (edgeArr (c.L ++ roomE 8)) 101)
  b : W.heap[W0.heap.size + 1 + 1 + 1]? = some (.cells (intArr (c.B ++ roomI 8)) 3)
  from_ : Below W0.heap.size W0 W
  lo : w.heap.size + 1 < W0.heap.size
theorem AskAt.step {w W W' : World} {c : Cfg} {oarr : Array Value} {N : Nat} {W0 : World} (h : AskAt w W c oarr N W0) (hb : Below W.heap.size W W') : AskAt w W' c oarr N W0 := by
  have s1 := (Array.getElem?_eq_some_iff.1 h.box).1
  have s2 := (Array.getElem?_eq_some_iff.1 h.op).1
  have s3 := (Array.getElem?_eq_some_iff.1 h.lent).1
  have s4 := (Array.getElem?_eq_some_iff.1 h.e).1
  have s5 := (Array.getElem?_eq_some_iff.1 h.b).1
  exact ⟨h.below.trans (hb.mono h.below.size), (hb.block _ s1).trans h.box, (hb.block _ s2).trans h.op, (hb.block _ s3).trans h.lent, (hb.block _ s4).trans h.e, (hb.block _ s5).trans h.b, h.from_.trans (hb.mono h.from_.size), h.lo⟩
theorem askAt_mk (w : World) (c : Cfg) (oarr : Array Value) (w2 : World) (h : LentOut ((w.alloc (.cells c.arr 45)).alloc (.cells oarr 74)) w2 (c.L ++ roomE 8) (c.B ++ roomI 8)) :
    AskAt w (w2.alloc (.cells (c.lent ((w.alloc (.cells c.arr 45)).alloc (.cells oarr 74))).arr 45)) c oarr w2.heap.size ((w.alloc (.cells c.arr 45)).alloc (.cells oarr 74)) := by
  have hz := h.below.size
  have s4 := (Array.getElem?_eq_some_iff.1 h.e).1
  have s5 := (Array.getElem?_eq_some_iff.1 h.b).1
  have b0 : Below w.heap.size w ((w.alloc (.cells c.arr 45)).alloc (.cells oarr 74)) := ((Below.refl _ _).alloc (Nat.le_refl _) _).alloc (by simp) _
  have e0 : ((w.alloc (.cells c.arr 45)).alloc (.cells oarr 74)).heap.size = w.heap.size + 1 + 1 := by simp
  have n1 : ((w.alloc (.cells c.arr 45)).alloc (.cells oarr 74)).heap[w.heap.size]? = some (.cells c.arr 45) := (Below.heap_alloc _ _ _ (by simp)).trans (heap_new _ _)
  have n2 : ((w.alloc (.cells c.arr 45)).alloc (.cells oarr 74)).heap[w.heap.size + 1]? = some (.cells oarr 74) := by
    have := heap_new (w.alloc (.cells c.arr 45)) (.cells oarr 74)
    rwa [World.size_alloc] at this
  generalize (w.alloc (.cells c.arr 45)).alloc (.cells oarr 74) = W0 at *
  refine ⟨(b0.trans (h.below.mono (by omega))).alloc (by omega) _, ?_, ?_, heap_new _ _, (Below.heap_alloc _ _ _ s4).trans h.e, (Below.heap_alloc _ _ _ s5).trans h.b, h.below.alloc hz _, by omega⟩
  · rw [Below.heap_alloc _ _ _ (by omega), h.below.block _ (by omega)]; exact n1
  · rw [Below.heap_alloc _ _ _ (by omega), h.below.block _ (by omega)]; exact n2

/-- The world under another name. -/
theorem wpList_frameW {P : Program} {ops : Array Oper} {l : List Oper} {a : Act} {w w' : World} {Q : Exit → Act → World → Prop} (hw : w' = w) (h : wpList P ops Q l a w') : wpList P ops Q l a w := hw ▸ h
theorem cfgW_two {w : World} {c : Cfg} (h : CfgW w c) (x y : Obj) : CfgW ((w.alloc x).alloc y) c := h.below (((Below.refl _ _).alloc (Nat.le_refl _) _).alloc (by simp) _)

set_option maxRecDepth 100000 in
set_option maxHeartbeats 2000000 in
theorem asked_check (E N : Cfg → Int) (hE : Blind E) (hN : Blind N) (hP : Says2 98 E N) (hR : Says2 47 E N) (c : Cfg) (o : OpD) (hk : o.kind = 1) (w : World) (hc : CfgW w c) (hg : Glob w) :
    Calls Tryz.prog 58 #[.agg c.arr, .agg o.arr] w fun e w' => e = .returned (.bool true) ∧ Below w.heap.size w w' := by
  have HC : Hid (CfgW w c) := hc
  have HG : Hid (Glob w) := hg
  have HP : Hid (Says2 98 E N) := hP
  have HR : Hid (Says2 47 E N) := hR
  have HE : Hid (Blind E) := hE
  have HN : Hid (Blind N) := hN
  have ok : o.arr[0]? = some (.int .i64 1) := by rw [← hk]; rfl
  have HS : Hid (c.arr.size = 11) := c.size
  have HW0 : Hid (CfgW ((w.alloc (.cells c.arr 45)).alloc (.cells o.arr 74)) c) := cfgW_two hc _ _
  have X0 : Hid (((w.alloc (.cells c.arr 45)).alloc (.cells o.arr 74)).heap[w.heap.size]? = some (.cells c.arr 45)) := (Below.heap_alloc _ _ _ (by simp)).trans (heap_new _ _)
  have cL := lent_c c _ HW0.out
  clear hc hg hP hR hE hN hk
  obtain ⟨W0, hW0⟩ : ∃ W0, W0 = (w.alloc (.cells c.arr 45)).alloc (.cells o.arr 74) := ⟨_, rfl⟩
  have HD : Hid (W0 = (w.alloc (.cells c.arr 45)).alloc (.cells o.arr 74)) := hW0
  rw [← hW0] at cL
  have HX0 : Hid (W0.heap[w.heap.size]? = some (.cells c.arr 45)) := by rw [HD.out]; exact X0.out
  have HMK : Hid (∀ w2, LentOut W0 w2 (c.L ++ roomE 8) (c.B ++ roomI 8) → AskAt w (w2.alloc (.cells (c.lent W0).arr 45)) c o.arr w2.heap.size W0) := by
    intro w2 h
    rw [HD.out] at h ⊢
    exact askAt_mk w c o.arr w2 h
  have HCW : Hid (CfgW W0 c) := by rw [HD.out]; exact HW0.out
  have HGW : Hid (Glob W0) := by rw [HD.out]; exact HG.out.below (((Below.refl _ _).alloc (Nat.le_refl _) _).alloc (by simp) _)
  have HZL : Hid ((c.lent W0).arr.size = 11) := (c.lent W0).size
  have HOL : Hid ((c.lent W0).arr.all (·.oneCell') = true) := (c.lent W0).one
  clear hW0 HW0 X0
  go_enter Tryz.func58, Tryz.ntmps58
  go_wp2_with (first
    | (refine wpList_load_row rfl 45 _ rfl _ rfl _ _ _ _ HX0.out Tryz.underlying45 rfl (infoCfg HS.out) ?_)
    | (refine wpList_load_row rfl 45 _ rfl _ rfl _ _ _ _ HX.out.box Tryz.underlying45 rfl (infoCfg HS.out) ?_)
    | (refine wpList_load_row rfl 45 _ rfl _ rfl _ _ _ _ HX.out.lent Tryz.underlying45 rfl (infoCfg HZL.out) ?_)
    | (refine wpList_frameW HD.out ?_)
    | fail)
  refine cL.mono ?_
  clear cL
  rintro e w2 ⟨rfl, hL2⟩
  have HX : Hid (AskAt w (w2.alloc (.cells (c.lent W0).arr 45)) c o.arr w2.heap.size W0) := HMK.out w2 hL2
  have hkc := (cellOfHeap HX.out.op 0).trans ok
  have HCL : Hid (CfgW w2 (c.lent W0)) := lent_w HCW.out hL2
  have HGL : Hid (Glob w2) := HGW.out.below hL2.below
  have HB1 : Hid (Below w2.heap.size w2 (w2.alloc (.cells (c.lent W0).arr 45))) := (Below.refl _ _).alloc (Nat.le_refl _) _
  clear hL2
  have cP := HP.out (c.lent W0) (w2.alloc (.cells (c.lent W0).arr 45)) (HCL.out.below HB1.out) (HGL.out.below HB1.out)
  rw [HE.out, HN.out] at cP
  go_wp2_with (first
    | (refine wpList_allocCfg rfl rfl _ rfl w2.heap.size rfl ?_)
    | (refine wpList_store_row rfl 45 _ _ rfl w2.heap.size (c.lent W0).arr rfl rfl 45 zCfg (heap_new w2 _) (infoCfg HZL.out) (zCfg_size HZL.out) HOL.out ?_; rw [World.setRow_alloc_new])
    | (refine wpList_load_row rfl 45 _ rfl _ rfl _ _ _ _ HX.out.box Tryz.underlying45 rfl (infoCfg HS.out) ?_)
    | (refine wpList_load_row rfl 45 _ rfl _ rfl _ _ _ _ HX.out.lent Tryz.underlying45 rfl (infoCfg HZL.out) ?_)
    | (go_at_call 98; refine cP.mono ?_; clear cP hkc; rintro e w3 ⟨rfl, hB3⟩; have HX3 : Hid (AskAt w w3 c o.arr w2.heap.size W0) := HX.out.step hB3; clear HX; have HX := HX3; clear HX3; have cR := HR.out c w3 (HCW.out.below HX.out.from_) (HGW.out.below HX.out.from_))
    | (go_at_call 47; refine cR.mono ?_; clear cR; rintro e w4 ⟨rfl, hB4⟩; have HX4 : Hid (AskAt w w4 c o.arr w2.heap.size W0) := HX.out.step hB4; clear HX; have HX := HX4; clear HX4; have cW := whole_c c W0 w4 HCW.out HX.out.from_ HX.out.e HX.out.b)
    | (go_at_call 97; refine cW.mono ?_; clear cW; rintro e w5 ⟨rfl, hB5⟩))
  go_ret
  exact ⟨rfl, HX.out.below.trans (hB5.mono (by have := HX.out.lo; omega))⟩
/-- A call that answers a bool and an error. -/
def Says3 (f : Nat) (T : Cfg → Int → Int → Bool) (E : Cfg → Int → Int → Int) : Prop := ∀ (c : Cfg) (a b : Int) (w : World), CfgW w c → Glob w → Calls Tryz.prog f #[.agg c.arr, .int .i64 a, .int .i64 b] w fun e w' => e = .returned (.tuple #[.bool (T c a b), .int .i64 (E c a b)]) ∧ Below w.heap.size w w'
def Blind3 {α : Type} (E : Cfg → Int → Int → α) : Prop := ∀ (c : Cfg) (w : World) (a b : Int), E (c.lent w) a b = E c a b

set_option maxRecDepth 100000 in
set_option maxHeartbeats 2000000 in
theorem asked_leq (T : Cfg → Int → Int → Bool) (E : Cfg → Int → Int → Int) (hE : Blind3 E) (hN : Blind3 T) (hP : Says3 99 T E) (hR : Says3 100 T E) (c : Cfg) (o : OpD) (hk : o.kind = 2) (w : World) (hc : CfgW w c) (hg : Glob w) :
    Calls Tryz.prog 58 #[.agg c.arr, .agg o.arr] w fun e w' => e = .returned (.bool true) ∧ Below w.heap.size w w' := by
  have HC : Hid (CfgW w c) := hc
  have HG : Hid (Glob w) := hg
  have HP : Hid (Says3 99 T E) := hP
  have HR : Hid (Says3 100 T E) := hR
  have HE : Hid (Blind3 E) := hE
  have HN : Hid (Blind3 T) := hN
  have ok : o.arr[0]? = some (.int .i64 2) := by rw [← hk]; rfl
  have ob : o.arr[2]? = some (.int .i64 o.b) := rfl
  have oc : o.arr[3]? = some (.int .i64 o.c) := rfl
  have HS : Hid (c.arr.size = 11) := c.size
  have HW0 : Hid (CfgW ((w.alloc (.cells c.arr 45)).alloc (.cells o.arr 74)) c) := cfgW_two hc _ _
  have X0 : Hid (((w.alloc (.cells c.arr 45)).alloc (.cells o.arr 74)).heap[w.heap.size]? = some (.cells c.arr 45)) := (Below.heap_alloc _ _ _ (by simp)).trans (heap_new _ _)
  have cL := lent_c c _ HW0.out
  clear hc hg hP hR hE hN hk
  obtain ⟨W0, hW0⟩ : ∃ W0, W0 = (w.alloc (.cells c.arr 45)).alloc (.cells o.arr 74) := ⟨_, rfl⟩
  have HD : Hid (W0 = (w.alloc (.cells c.arr 45)).alloc (.cells o.arr 74)) := hW0
  rw [← hW0] at cL
  have HX0 : Hid (W0.heap[w.heap.size]? = some (.cells c.arr 45)) := by rw [HD.out]; exact X0.out
  have HMK : Hid (∀ w2, LentOut W0 w2 (c.L ++ roomE 8) (c.B ++ roomI 8) → AskAt w (w2.alloc (.cells (c.lent W0).arr 45)) c o.arr w2.heap.size W0) := by
    intro w2 h
    rw [HD.out] at h ⊢
    exact askAt_mk w c o.arr w2 h
  have HCW : Hid (CfgW W0 c) := by rw [HD.out]; exact HW0.out
  have HGW : Hid (Glob W0) := by rw [HD.out]; exact HG.out.below (((Below.refl _ _).alloc (Nat.le_refl _) _).alloc (by simp) _)
  have HZL : Hid ((c.lent W0).arr.size = 11) := (c.lent W0).size
  have HOL : Hid ((c.lent W0).arr.all (·.oneCell') = true) := (c.lent W0).one
  clear hW0 HW0 X0
  go_enter Tryz.func58, Tryz.ntmps58
  go_wp2_with (first
    | (refine wpList_load_row rfl 45 _ rfl _ rfl _ _ _ _ HX0.out Tryz.underlying45 rfl (infoCfg HS.out) ?_)
    | (refine wpList_load_row rfl 45 _ rfl _ rfl _ _ _ _ HX.out.box Tryz.underlying45 rfl (infoCfg HS.out) ?_)
    | (refine wpList_load_row rfl 45 _ rfl _ rfl _ _ _ _ HX.out.lent Tryz.underlying45 rfl (infoCfg HZL.out) ?_)
    | (refine wpList_frameW HD.out ?_)
    | fail)
  refine cL.mono ?_
  clear cL
  rintro e w2 ⟨rfl, hL2⟩
  have HX : Hid (AskAt w (w2.alloc (.cells (c.lent W0).arr 45)) c o.arr w2.heap.size W0) := HMK.out w2 hL2
  have hkc := (cellOfHeap HX.out.op 0).trans ok
  have HCL : Hid (CfgW w2 (c.lent W0)) := lent_w HCW.out hL2
  have HGL : Hid (Glob w2) := HGW.out.below hL2.below
  have HB1 : Hid (Below w2.heap.size w2 (w2.alloc (.cells (c.lent W0).arr 45))) := (Below.refl _ _).alloc (Nat.le_refl _) _
  clear hL2
  have hk2 := (cellOfHeap HX.out.op 2).trans ob
  have hk3 := (cellOfHeap HX.out.op 3).trans oc
  have cP := HP.out (c.lent W0) o.b o.c (w2.alloc (.cells (c.lent W0).arr 45)) (HCL.out.below HB1.out) (HGL.out.below HB1.out)
  rw [HE.out, HN.out] at cP
  go_wp2_with (first
    | (refine wpList_allocCfg rfl rfl _ rfl w2.heap.size rfl ?_)
    | (refine wpList_store_row rfl 45 _ _ rfl w2.heap.size (c.lent W0).arr rfl rfl 45 zCfg (heap_new w2 _) (infoCfg HZL.out) (zCfg_size HZL.out) HOL.out ?_; rw [World.setRow_alloc_new])
    | (refine wpList_load_row rfl 45 _ rfl _ rfl _ _ _ _ HX.out.box Tryz.underlying45 rfl (infoCfg HS.out) ?_)
    | (refine wpList_load_row rfl 45 _ rfl _ rfl _ _ _ _ HX.out.lent Tryz.underlying45 rfl (infoCfg HZL.out) ?_)
    | (go_at_call 99; refine cP.mono ?_; clear cP hkc hk2 hk3; rintro e w3 ⟨rfl, hB3⟩; have HX3 : Hid (AskAt w w3 c o.arr w2.heap.size W0) := HX.out.step hB3; clear HX; have HX := HX3; clear HX3; have hk2 := (cellOfHeap HX.out.op 2).trans ob; have hk3 := (cellOfHeap HX.out.op 3).trans oc; have cR := HR.out c o.b o.c w3 (HCW.out.below HX.out.from_) (HGW.out.below HX.out.from_))
    | (go_at_call 100; refine cR.mono ?_; clear cR hk2 hk3; rintro e w4 ⟨rfl, hB4⟩; have HX4 : Hid (AskAt w w4 c o.arr w2.heap.size W0) := HX.out.step hB4; clear HX; have HX := HX4; clear HX4; have cW := whole_c c W0 w4 HCW.out HX.out.from_ HX.out.e HX.out.b)
    | (go_at_call 97; refine cW.mono ?_; clear cW; rintro e w5 ⟨rfl, hB5⟩))
  go_ret
  exact ⟨rfl, HX.out.below.trans (hB5.mono (by have := HX.out.lo; omega))⟩
end Go.Proofs.YtllcbnfmihfaaaaGreatDoor
