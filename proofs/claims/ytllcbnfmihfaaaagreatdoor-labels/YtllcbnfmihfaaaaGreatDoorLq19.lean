import Derived.Deep.RegionHeld3
import Derived.Test.YtllcbnfmihfaaaaGreatDoorLq18
namespace Go.Proofs.YtllcbnfmihfaaaaGreatDoor
open Go.RowKit

theorem Cfg.f1 (c : Cfg) : c.arr[1]? = some (.slice c.ea c.L.length c.ecap) := rfl
theorem Cfg.f10 (c : Cfg) : c.arr[10]? = some (.slice c.ba c.B.length c.bcap) := rfl
theorem lent_c (c : Cfg) (w : World) (h : CfgW w c) : Calls Tryz.prog 96 #[.agg c.arr] w fun e w' => e = .returned (.agg (c.lent w).arr) ∧ LentOut w w' (c.L ++ roomE 8) (c.B ++ roomI 8) := by
  rw [Cfg.lent_arr]
  exact lent_any c.arr c.L c.ea c.ecap c.B c.ba c.bcap c.size c.one c.f1 c.f10 h.en h.bn h.eb h.bb w h.edges h.ints
theorem whole_c (c : Cfg) (w0 w : World) (h : CfgW w0 c) (hb : Below w0.heap.size w0 w) (hE : w.heap[w0.heap.size + 1 + 1]? = some (.cells (edgeArr (c.L ++ roomE 8)) 101)) (hI : w.heap[w0.heap.size + 1 + 1 + 1]? = some (.cells (intArr (c.B ++ roomI 8)) 3)) :
    Calls Tryz.prog 97 #[.agg (c.lent w0).arr, .agg c.arr] w fun e w' => e = .returned (.bool true) ∧ Below w0.heap.size w w' := by
  refine whole_any c.arr (c.lent w0).arr c.L c.ea c.ecap c.B c.ba c.bcap _ _ c.f1 c.f10 (c.lent w0).f1 (c.lent w0).f10 (by have := h.eb; omega) (by have := h.bb; omega) w0 w h.edges h.ints hb ?_ ?_ hE hI
  · intro hs
    show Value.slice (if c.ea.isSome then _ else _) c.L.length (if c.ea.isSome then _ else _) = _
    rw [hs]; rfl
  · intro hs
    show Value.slice (if c.ba.isSome then _ else _) c.B.length (if c.ba.isSome then _ else _) = _
    rw [hs]; rfl

/-- A step, as data. -/
structure OpD where
  kind : Int
  a : Int
  b : Int
  c : Int
  d : Int
  s : ByteArray
  pp : Option Addr
  pl : Nat
  pc : Nat
def OpD.arr (o : OpD) : Array Value := #[.int .i64 o.kind, .int .i64 o.a, .int .i64 o.b, .int .i64 o.c, .int .i64 o.d, .string o.s, .slice o.pp o.pl o.pc]

/-- What 'asked' stands on: the boxes of the configuration and of the step, the lent one, its rows. -/
structure AskAt (w W : World) (c : Cfg) (oarr : Array Value) (N : Nat) (W0 : World) : Prop where
  below : Below w.heap.size w W
  box : W.heap[w.heap.size]? = some (.cells c.arr 45)
  op : W.heap[w.heap.size + 1]? = some (.cells oarr 74)
  lent : W.heap[N]? = some (.cells (c.lent W0).arr 45)
  e : W.heap[W0.heap.size + 1 + 1]? = some (.cells (edgeArr (c.L ++ roomE 8)) 101)
  b : W.heap[W0.heap.size + 1 + 1 + 1]? = some (.cells (intArr (c.B ++ roomI 8)) 3)
  from_ : Below W0.heap.size W0 W
  lo : w.heap.size + 1 < W0.heap.size
theorem AskAt.step {w W W' : World} {c : Cfg} {oarr : Array Value} {N : Nat} {W0 : World} (h : AskAt w W c oarr N W0) (hb : Below W.heap.size W W') : AskAt w W' c oarr N W0 := by
  have s1 := (Array.getElem?_eq_some_iff.1 h.box).1
  have s2 := (Array.getElem?_eq_some_iff.1 h.op).1
  have s3 := (Array.getElem?_eq_some_iff.1 h.lent).1
  have s4 := (Array.getElem?_eq_some_iff.1 h.e).1
  have s5 := (Array.getElem?_eq_some_iff.1 h.b).1
  exact ⟨h.below.trans (hb.mono h.below.size), (hb.block _ s1).trans h.box, (hb.block _ s2).trans h.op, (hb.block _ s3).trans h.lent, (hb.block _ s4).trans h.e, (hb.block _ s5).trans h.b, h.from_.trans (hb.mono h.from_.size), h.lo⟩
theorem askAt_mk (w : World) (c : Cfg) (oarr : Array Value) (w2 : World) (h : LentOut ((w.alloc (.cells c.arr 45)).alloc (.cells oarr 74)) w2 (c.L ++ roomE 8) (c.B ++ roomI 8)) :
    AskAt w (w2.alloc (.cells (c.lent ((w.alloc (.cells c.arr 45)).alloc (.cells oarr 74))).arr 45)) c oarr w2.heap.size ((w.alloc (.cells c.arr 45)).alloc (.cells oarr 74)) := by
  have hz := h.below.size
  have s4 := (Array.getElem?_eq_some_iff.1 h.e).1
  have s5 := (Array.getElem?_eq_some_iff.1 h.b).1
  have b0 : Below w.heap.size w ((w.alloc (.cells c.arr 45)).alloc (.cells oarr 74)) := ((Below.refl _ _).alloc (Nat.le_refl _) _).alloc (by simp) _
  have e0 : ((w.alloc (.cells c.arr 45)).alloc (.cells oarr 74)).heap.size = w.heap.size + 1 + 1 := by simp
  have n1 : ((w.alloc (.cells c.arr 45)).alloc (.cells oarr 74)).heap[w.heap.size]? = some (.cells c.arr 45) := (Below.heap_alloc _ _ _ (by simp)).trans (heap_new _ _)
  have n2 : ((w.alloc (.cells c.arr 45)).alloc (.cells oarr 74)).heap[w.heap.size + 1]? = some (.cells oarr 74) := by
    have := heap_new (w.alloc (.cells c.arr 45)) (.cells oarr 74)
    rwa [World.size_alloc] at this
  generalize (w.alloc (.cells c.arr 45)).alloc (.cells oarr 74) = W0 at *
  refine ⟨(b0.trans (h.below.mono (by omega))).alloc (by omega) _, ?_, ?_, heap_new _ _, (Below.heap_alloc _ _ _ s4).trans h.e, (Below.heap_alloc _ _ _ s5).trans h.b, h.below.alloc hz _, by omega⟩
  · rw [Below.heap_alloc _ _ _ (by omega), h.below.block _ (by omega)]; exact n1
  · rw [Below.heap_alloc _ _ _ (by omega), h.below.block _ (by omega)]; exact n2

/-- The world under another name. -/
theorem wpList_frameW {P : Program} {ops : Array Oper} {l : List Oper} {a : Act} {w w' : World} {Q : Exit → Act → World → Prop} (hw : w' = w) (h : wpList P ops Q l a w') : wpList P ops Q l a w := hw ▸ h
theorem cfgW_two {w : World} {c : Cfg} (h : CfgW w c) (x y : Obj) : CfgW ((w.alloc x).alloc y) c := h.below (((Below.refl _ _).alloc (Nat.le_refl _) _).alloc (by simp) _)

set_option maxRecDepth 100000 in
set_option maxHeartbeats 2000000 in
theorem asked_check (E N : Cfg → Int) (hE : Blind E) (hN : Blind N) (hP : Says2 98 E N) (hR : Says2 47 E N) (c : Cfg) (o : OpD) (hk : o.kind = 1) (w : World) (hc : CfgW w c) (hg : Glob w) :
    Calls Tryz.prog 58 #[.agg c.arr, .agg o.arr] w fun e w' => e = .returned (.bool true) ∧ Below w.heap.size w w' := by
  have HC : Hid (CfgW w c) := hc
  have HG : Hid (Glob w) := hg
  have HP : Hid (Says2 98 E N) := hP
  have HR : Hid (Says2 47 E N) := hR
  have HE : Hid (Blind E) := hE
  have HN : Hid (Blind N) := hN
  have ok : o.arr[0]? = some (.int .i64 1) := by rw [← hk]; rfl
  have HS : Hid (c.arr.size = 11) := c.size
  have HW0 : Hid (CfgW ((w.alloc (.cells c.arr 45)).alloc (.cells o.arr 74)) c) := cfgW_two hc _ _
  have X0 : Hid (((w.alloc (.cells c.arr 45)).alloc (.cells o.arr 74)).heap[w.heap.size]? = some (.cells c.arr 45)) := (Below.heap_alloc _ _ _ (by simp)).trans (heap_new _ _)
  have cL := lent_c c _ HW0.out
  clear hc hg hP hR hE hN hk
  obtain ⟨W0, hW0⟩ : ∃ W0, W0 = (w.alloc (.cells c.arr 45)).alloc (.cells o.arr 74) := ⟨_, rfl⟩
  have HD : Hid (W0 = (w.alloc (.cells c.arr 45)).alloc (.cells o.arr 74)) := hW0
  rw [← hW0] at cL
  have HX0 : Hid (W0.heap[w.heap.size]? = some (.cells c.arr 45)) := by rw [HD.out]; exact X0.out
  have HMK : Hid (∀ w2, LentOut W0 w2 (c.L ++ roomE 8) (c.B ++ roomI 8) → AskAt w (w2.alloc (.cells (c.lent W0).arr 45)) c o.arr w2.heap.size W0) := by
    intro w2 h
    rw [HD.out] at h ⊢
    exact askAt_mk w c o.arr w2 h
  have HCW : Hid (CfgW W0 c) := by rw [HD.out]; exact HW0.out
  have HGW : Hid (Glob W0) := by rw [HD.out]; exact HG.out.below (((Below.refl _ _).alloc (Nat.le_refl _) _).alloc (by simp) _)
  have HZL : Hid ((c.lent W0).arr.size = 11) := (c.lent W0).size
  have HOL : Hid ((c.lent W0).arr.all (·.oneCell') = true) := (c.lent W0).one
  clear hW0 HW0 X0
  go_enter Tryz.func58, Tryz.ntmps58
  go_wp2_with (first
    | (refine wpList_load_row rfl 45 _ rfl _ rfl _ _ _ _ HX0.out Tryz.underlying45 rfl (infoCfg HS.out) ?_)
    | (refine wpList_load_row rfl 45 _ rfl _ rfl _ _ _ _ HX.out.box Tryz.underlying45 rfl (infoCfg HS.out) ?_)
    | (refine wpList_load_row rfl 45 _ rfl _ rfl _ _ _ _ HX.out.lent Tryz.underlying45 rfl (infoCfg HZL.out) ?_)
    | (refine wpList_frameW HD.out ?_)
    | fail)
  refine cL.mono ?_
  clear cL
  rintro e w2 ⟨rfl, hL2⟩
  have HX : Hid (AskAt w (w2.alloc (.cells (c.lent W0).arr 45)) c o.arr w2.heap.size W0) := HMK.out w2 hL2
  have hkc := (cellOfHeap HX.out.op 0).trans ok
  have HCL : Hid (CfgW w2 (c.lent W0)) := lent_w HCW.out hL2
  have HGL : Hid (Glob w2) := HGW.out.below hL2.below
  have HB1 : Hid (Below w2.heap.size w2 (w2.alloc (.cells (c.lent W0).arr 45))) := (Below.refl _ _).alloc (Nat.le_refl _) _
  clear hL2
  have cP := HP.out (c.lent W0) (w2.alloc (.cells (c.lent W0).arr 45)) (HCL.out.below HB1.out) (HGL.out.below HB1.out)
  rw [HE.out, HN.out] at cP
  go_wp2_with (first
    | (refine wpList_allocCfg rfl rfl _ rfl w2.heap.size rfl ?_)
    | (refine wpList_store_row rfl 45 _ _ rfl w2.heap.size (c.lent W0).arr rfl rfl 45 zCfg (heap_new w2 _) (infoCfg HZL.out) (zCfg_size HZL.out) HOL.out ?_; rw [World.setRow_alloc_new])
    | (refine wpList_load_row rfl 45 _ rfl _ rfl _ _ _ _ HX.out.box Tryz.underlying45 rfl (infoCfg HS.out) ?_)
    | (refine wpList_load_row rfl 45 _ rfl _ rfl _ _ _ _ HX.out.lent Tryz.underlying45 rfl (infoCfg HZL.out) ?_)
    | (go_at_call 98; refine cP.mono ?_; clear cP hkc; rintro e w3 ⟨rfl, hB3⟩; have HX3 : Hid (AskAt w w3 c o.arr w2.heap.size W0) := HX.out.step hB3; clear HX; have HX := HX3; clear HX3; have cR := HR.out c w3 (HCW.out.below HX.out.from_) (HGW.out.below HX.out.from_))
    | (go_at_call 47; refine cR.mono ?_; clear cR; rintro e w4 ⟨rfl, hB4⟩; have HX4 : Hid (AskAt w w4 c o.arr w2.heap.size W0) := HX.out.step hB4; clear HX; have HX := HX4; clear HX4; have cW := whole_c c W0 w4 HCW.out HX.out.from_ HX.out.e HX.out.b)
    | (go_at_call 97; refine cW.mono ?_; clear cW; rintro e w5 ⟨rfl, hB5⟩))
  go_ret
  exact ⟨rfl, HX.out.below.trans (hB5.mono (by have := HX.out.lo; omega))⟩
/-- A call that answers a bool and an error. -/
def Says3 (f : Nat) (T : Cfg → Int → Int → Bool) (E : Cfg → Int → Int → Int) : Prop := ∀ (c : Cfg) (a b : Int) (w : World), CfgW w c → Glob w → Calls Tryz.prog f #[.agg c.arr, .int .i64 a, .int .i64 b] w fun e w' => e = .returned (.tuple #[.bool (T c a b), .int .i64 (E c a b)]) ∧ Below w.heap.size w w'
def Blind3 {α : Type} (E : Cfg → Int → Int → α) : Prop := ∀ (c : Cfg) (w : World) (a b : Int), E (c.lent w) a b = E c a b

set_option maxRecDepth 100000 in
set_option maxHeartbeats 2000000 in
theorem asked_leq (T : Cfg → Int → Int → Bool) (E : Cfg → Int → Int → Int) (hE : Blind3 E) (hN : Blind3 T) (hP : Says3 99 T E) (hR : Says3 100 T E) (c : Cfg) (o : OpD) (hk : o.kind = 2) (w : World) (hc : CfgW w c) (hg : Glob w) :
    Calls Tryz.prog 58 #[.agg c.arr, .agg o.arr] w fun e w' => e = .returned (.bool true) ∧ Below w.heap.size w w' := by
  have HC : Hid (CfgW w c) := hc
  have HG : Hid (Glob w) := hg
  have HP : Hid (Says3 99 T E) := hP
  have HR : Hid (Says3 100 T E) := hR
  have HE : Hid (Blind3 E) := hE
  have HN : Hid (Blind3 T) := hN
  have ok : o.arr[0]? = some (.int .i64 2) := by rw [← hk]; rfl
  have ob : o.arr[2]? = some (.int .i64 o.b) := rfl
  have oc : o.arr[3]? = some (.int .i64 o.c) := rfl
  have HS : Hid (c.arr.size = 11) := c.size
  have HW0 : Hid (CfgW ((w.alloc (.cells c.arr 45)).alloc (.cells o.arr 74)) c) := cfgW_two hc _ _
  have X0 : Hid (((w.alloc (.cells c.arr 45)).alloc (.cells o.arr 74)).heap[w.heap.size]? = some (.cells c.arr 45)) := (Below.heap_alloc _ _ _ (by simp)).trans (heap_new _ _)
  have cL := lent_c c _ HW0.out
  clear hc hg hP hR hE hN hk
  obtain ⟨W0, hW0⟩ : ∃ W0, W0 = (w.alloc (.cells c.arr 45)).alloc (.cells o.arr 74) := ⟨_, rfl⟩
  have HD : Hid (W0 = (w.alloc (.cells c.arr 45)).alloc (.cells o.arr 74)) := hW0
  rw [← hW0] at cL
  have HX0 : Hid (W0.heap[w.heap.size]? = some (.cells c.arr 45)) := by rw [HD.out]; exact X0.out
  have HMK : Hid (∀ w2, LentOut W0 w2 (c.L ++ roomE 8) (c.B ++ roomI 8) → AskAt w (w2.alloc (.cells (c.lent W0).arr 45)) c o.arr w2.heap.size W0) := by
    intro w2 h
    rw [HD.out] at h ⊢
    exact askAt_mk w c o.arr w2 h
  have HCW : Hid (CfgW W0 c) := by rw [HD.out]; exact HW0.out
  have HGW : Hid (Glob W0) := by rw [HD.out]; exact HG.out.below (((Below.refl _ _).alloc (Nat.le_refl _) _).alloc (by simp) _)
  have HZL : Hid ((c.lent W0).arr.size = 11) := (c.lent W0).size
  have HOL : Hid ((c.lent W0).arr.all (·.oneCell') = true) := (c.lent W0).one
  clear hW0 HW0 X0
  go_enter Tryz.func58, Tryz.ntmps58
  go_wp2_with (first
    | (refine wpList_load_row rfl 45 _ rfl _ rfl _ _ _ _ HX0.out Tryz.underlying45 rfl (infoCfg HS.out) ?_)
    | (refine wpList_load_row rfl 45 _ rfl _ rfl _ _ _ _ HX.out.box Tryz.underlying45 rfl (infoCfg HS.out) ?_)
    | (refine wpList_load_row rfl 45 _ rfl _ rfl _ _ _ _ HX.out.lent Tryz.underlying45 rfl (infoCfg HZL.out) ?_)
    | (refine wpList_frameW HD.out ?_)
    | fail)
  refine cL.mono ?_
  clear cL
  rintro e w2 ⟨rfl, hL2⟩
  have HX : Hid (AskAt w (w2.alloc (.cells (c.lent W0).arr 45)) c o.arr w2.heap.size W0) := HMK.out w2 hL2
  have hkc := (cellOfHeap HX.out.op 0).trans ok
  have HCL : Hid (CfgW w2 (c.lent W0)) := lent_w HCW.out hL2
  have HGL : Hid (Glob w2) := HGW.out.below hL2.below
  have HB1 : Hid (Below w2.heap.size w2 (w2.alloc (.cells (c.lent W0).arr 45))) := (Below.refl _ _).alloc (Nat.le_refl _) _
  clear hL2
  have hk2 := (cellOfHeap HX.out.op 2).trans ob
  have hk3 := (cellOfHeap HX.out.op 3).trans oc
  have cP := HP.out (c.lent W0) o.b o.c (w2.alloc (.cells (c.lent W0).arr 45)) (HCL.out.below HB1.out) (HGL.out.below HB1.out)
  rw [HE.out, HN.out] at cP
  go_wp2_with (first
    | (refine wpList_allocCfg rfl rfl _ rfl w2.heap.size rfl ?_)
    | (refine wpList_store_row rfl 45 _ _ rfl w2.heap.size (c.lent W0).arr rfl rfl 45 zCfg (heap_new w2 _) (infoCfg HZL.out) (zCfg_size HZL.out) HOL.out ?_; rw [World.setRow_alloc_new])
    | (refine wpList_load_row rfl 45 _ rfl _ rfl _ _ _ _ HX.out.box Tryz.underlying45 rfl (infoCfg HS.out) ?_)
    | (refine wpList_load_row rfl 45 _ rfl _ rfl _ _ _ _ HX.out.lent Tryz.underlying45 rfl (infoCfg HZL.out) ?_)
    | (go_at_call 99; refine cP.mono ?_; clear cP hkc hk2 hk3; rintro e w3 ⟨rfl, hB3⟩; have HX3 : Hid (AskAt w w3 c o.arr w2.heap.size W0) := HX.out.step hB3; clear HX; have HX := HX3; clear HX3; have hk2 := (cellOfHeap HX.out.op 2).trans ob; have hk3 := (cellOfHeap HX.out.op 3).trans oc; have cR := HR.out c o.b o.c w3 (HCW.out.below HX.out.from_) (HGW.out.below HX.out.from_))
    | (go_at_call 100; refine cR.mono ?_; clear cR hk2 hk3; rintro e w4 ⟨rfl, hB4⟩; have HX4 : Hid (AskAt w w4 c o.arr w2.heap.size W0) := HX.out.step hB4; clear HX; have HX := HX4; clear HX4; have cW := whole_c c W0 w4 HCW.out HX.out.from_ HX.out.e HX.out.b)
    | (go_at_call 97; refine cW.mono ?_; clear cW; rintro e w5 ⟨rfl, hB5⟩))
  go_ret
  exact ⟨rfl, HX.out.below.trans (hB5.mono (by have := HX.out.lo; omega))⟩
end Go.Proofs.YtllcbnfmihfaaaaGreatDoor
namespace Go.Proofs.YtllcbnfmihfaaaaGreatDoor
open Go.RowKit

/-- The configurations of a script, in memory: the k-th is g k. -/
structure CfgsAt (w : World) (a : Option Addr) (n : Nat) (g : Nat → Cfg) : Prop where
  at_ : ∀ k, k < n → ∃ b off, a = some ⟨b, off, none⟩ ∧ b < w.heap.size ∧ ∀ k j, k < n → j < 11 → w.cell? ⟨b, off + k * 11 + j, none⟩ = (g k).arr[j]?
  each : ∀ k, k < n → CfgW w (g k)
theorem CfgsAt.below {w w' : World} {a : Option Addr} {n : Nat} {g : Nat → Cfg} (h : CfgsAt w a n g) (hb : Below w.heap.size w w') : CfgsAt w' a n g :=
  ⟨fun k hk => by
    obtain ⟨b, off, ha, hlt, h1⟩ := h.at_ k hk
    exact ⟨b, off, ha, Nat.lt_of_lt_of_le hlt hb.size, fun k j hk hj => (hb.cell (p := ⟨b, _, none⟩) hlt).trans (h1 k j hk hj)⟩,
   fun k hk => (h.each k hk).below hb⟩

def pickN (c : Int) (n : Nat) : Nat := ((if c < 0 then -(c + 1) else c) % (n : Int)).toNat
theorem pickN_lt (c : Int) (n : Nat) (h : 1 ≤ n) : pickN c n < n := by
  unfold pickN
  have e1 := Int.emod_nonneg (if c < 0 then -(c + 1) else c) (show (n : Int) ≠ 0 by omega)
  have e2 := Int.emod_lt_of_pos (if c < 0 then -(c + 1) else c) (show (0 : Int) < n by omega)
  omega
set_option maxHeartbeats 400000 in
theorem pick_at (c : Int) (n : Nat) (w : World) (h1 : 1 ≤ n) (hn : n ≤ maxLen) (hc : -9223372036854775808 ≤ c) (hc2 : c ≤ 9223372036854775807) :
    Calls Tryz.prog 56 #[.int .i64 c, .int .i64 n] w fun e w' => e = .returned (.int .i64 (pickN c n)) ∧ w' = w := by
  unfold maxLen at hn
  have hpos : (0 : Int) < n := by omega
  by_cases h : c < 0
  · have HF : Hid ((pickN c n : Int) = (-(c + 1)) % n) := by
      have e1 := Int.emod_nonneg (-(c + 1)) (show (n : Int) ≠ 0 by omega)
      show _ = _
      unfold pickN
      rw [if_pos h, Int.toNat_of_nonneg e1]
    go_enter Tryz.func56, Tryz.ntmps56
    go_wp2
    go_ret
    have e3 : -((c + 1).tmod n) = (-(c + 1)) % n := by rw [← Int.neg_tmod, Int.tmod_eq_emod_of_nonneg (by omega)]
    exact ⟨by rw [HF.out, ← e3]; rfl, rfl⟩
  · have HF : Hid ((pickN c n : Int) = c % n) := by
      have e1 := Int.emod_nonneg c (show (n : Int) ≠ 0 by omega)
      show _ = _
      unfold pickN
      rw [if_neg h, Int.toNat_of_nonneg e1]
    go_enter Tryz.func56, Tryz.ntmps56
    go_wp2
    go_ret
    exact ⟨by rw [HF.out]; rfl, rfl⟩

/-- What a step of a kind answers: true, and nothing old has turned. -/
def AskSays (kind : Int) : Prop := ∀ (c : Cfg) (o : OpD), o.kind = kind → ∀ w : World, CfgW w c → Glob w → Calls Tryz.prog 58 #[.agg c.arr, .agg o.arr] w fun e w' => e = .returned (.bool true) ∧ Below w.heap.size w w'

set_option maxRecDepth 100000 in
set_option maxHeartbeats 4000000 in
theorem step_none (B : Nat) (o : OpD) (kind : Int) (hk : o.kind = kind) (h12 : kind = 1 ∨ kind = 2) (a : Option Addr) (cap : Nat) (w : World) (hcs : w.cell? ⟨B, 0, none⟩ = some (.slice a 0 cap)) :
    Calls Tryz.prog 35 #[.pointer (some ⟨B, 0, none⟩), .agg o.arr] w fun e w' => e = .returned (.bool true) ∧ Below w.heap.size w w' := by
  have ok : o.arr[0]? = some (.int .i64 kind) := by rw [← hk]; rfl
  have hbl := block_lt_of_cell hcs
  clear hk
  rcases h12 with rfl | rfl
  all_goals
    go_enter Tryz.func35, Tryz.ntmps35
    go_wp2
    go_ret
    exact ⟨rfl, (Below.refl _ _).alloc (Nat.le_refl _) _⟩

set_option maxRecDepth 100000 in
set_option maxHeartbeats 4000000 in
theorem step_some (B : Nat) (o : OpD) (kind : Int) (hk : o.kind = kind) (h12 : kind = 1 ∨ kind = 2) (hsay : AskSays kind) (a : Option Addr) (n cap : Nat) (g : Nat → Cfg) (h1 : 1 ≤ n) (hn : n ≤ maxLen) (ha : -9223372036854775808 ≤ o.a ∧ o.a ≤ 9223372036854775807)
    (w : World) (hcs : w.cell? ⟨B, 0, none⟩ = some (.slice a n cap)) (hC : CfgsAt w a n g) (hg : Glob w) :
    Calls Tryz.prog 35 #[.pointer (some ⟨B, 0, none⟩), .agg o.arr] w fun e w' => e = .returned (.bool true) ∧ Below w.heap.size w w' := by
  have ok : o.arr[0]? = some (.int .i64 kind) := by rw [← hk]; rfl
  have oa : o.arr[1]? = some (.int .i64 o.a) := rfl
  have hbl := block_lt_of_cell hcs
  have HS : Hid (AskSays kind) := hsay
  have HG : Hid (Glob w) := hg
  have HC : Hid (CfgsAt w a n g) := hC
  have HK : Hid (o.kind = kind) := hk
  have HZ : Hid (o.arr.size = 7) := rfl
  have ha1 := ha.1
  have ha2 := ha.2
  have hne : ((n : Int) == 0) = false := beq_eq_false_iff_ne.2 (by omega)
  obtain ⟨b, off, rfl, hb, hcc⟩ := hC.at_ 0 (by omega)
  have hkl := pickN_lt o.a n h1
  have cPK := fun w => pick_at o.a n w h1 hn ha1 ha2
  have HCK : Hid (CfgW w (g (pickN o.a n))) := hC.each _ hkl
  generalize pickN o.a n = k at *
  have k0 : w.cell? ⟨b, off + k * 11, none⟩ = some (.int .i64 (g k).labels) := hcc k 0 hkl (by omega)
  have k1 : w.cell? ⟨b, off + k * 11 + 1, none⟩ = some (.slice (g k).ea (g k).L.length (g k).ecap) := hcc k 1 hkl (by omega)
  have k2 : w.cell? ⟨b, off + k * 11 + 2, none⟩ = some (.int .i64 (g k).dflt) := hcc k 2 hkl (by omega)
  have k3 : w.cell? ⟨b, off + k * 11 + 3, none⟩ = some (.string (g k).pol) := hcc k 3 hkl (by omega)
  have k4 : w.cell? ⟨b, off + k * 11 + 4, none⟩ = some (.int .i64 (g k).clr) := hcc k 4 hkl (by omega)
  have k5 : w.cell? ⟨b, off + k * 11 + 5, none⟩ = some (.int .i64 (g k).key) := hcc k 5 hkl (by omega)
  have k6 : w.cell? ⟨b, off + k * 11 + 6, none⟩ = some (.int .i64 (g k).inn) := hcc k 6 hkl (by omega)
  have k7 : w.cell? ⟨b, off + k * 11 + 7, none⟩ = some (.int .i64 (g k).out) := hcc k 7 hkl (by omega)
  have k8 : w.cell? ⟨b, off + k * 11 + 8, none⟩ = some (.int .i64 (g k).depth) := hcc k 8 hkl (by omega)
  have k9 : w.cell? ⟨b, off + k * 11 + 9, none⟩ = some (.int .i64 (g k).bytes) := hcc k 9 hkl (by omega)
  have k10 : w.cell? ⟨b, off + k * 11 + 10, none⟩ = some (.slice (g k).ba (g k).B.length (g k).bcap) := hcc k 10 hkl (by omega)
  generalize hgk : g k = c at *
  clear hgk
  have n0 := World.new_ne w _ hcs
  have n1 := World.new_ne w _ k0
  have hkl0 : (0 : Int) ≤ (k : Int) := by omega
  have hkl1 : (k : Int) < (n : Int) := by omega
  have HOP : Hid (((w.alloc (.cells o.arr 74)).alloc (.cells c.arr 45)).drew.heap[w.heap.size]? = some (.cells o.arr 74)) := (Below.heap_alloc _ _ _ (by simp)).trans (heap_new _ _)
  have HIO : Hid ((Tryz.prog.info? 74).map (·.size) = some o.arr.size) := by show _ = _; rw [HZ.out]; kernel_rfl
  have HB0 : Hid (Below w.heap.size w ((w.alloc (.cells o.arr 74)).alloc (.cells c.arr 45)).drew) := (((Below.refl _ _).alloc (Nat.le_refl _) _).alloc (by simp) _).drew
  have cA := HS.out c o HK.out ((w.alloc (.cells o.arr 74)).alloc (.cells c.arr 45)).drew (HCK.out.below HB0.out) (HG.out.below HB0.out)
  clear hcc hC hg hsay hk ha hn HC
  rcases h12 with rfl | rfl
  · go_enter Tryz.func35, Tryz.ntmps35
    go_wp2
    go_region_held3 (fun w' => w'.cell? ⟨B, 0, none⟩ = some (.slice (some ⟨b, off, none⟩) n cap) ∧ w'.cell? ⟨w.heap.size, 1, none⟩ = some (.int .i64 o.a) ∧ w'.cell? ⟨b, off + k * 11, none⟩ = some (.int .i64 c.labels) ∧ w'.cell? ⟨b, off + k * 11 + 1, none⟩ = some (.slice c.ea c.L.length c.ecap) ∧ w'.cell? ⟨b, off + k * 11 + 2, none⟩ = some (.int .i64 c.dflt) ∧ w'.cell? ⟨b, off + k * 11 + 3, none⟩ = some (.string c.pol) ∧ w'.cell? ⟨b, off + k * 11 + 4, none⟩ = some (.int .i64 c.clr) ∧ w'.cell? ⟨b, off + k * 11 + 5, none⟩ = some (.int .i64 c.key) ∧ w'.cell? ⟨b, off + k * 11 + 6, none⟩ = some (.int .i64 c.inn) ∧ w'.cell? ⟨b, off + k * 11 + 7, none⟩ = some (.int .i64 c.out) ∧ w'.cell? ⟨b, off + k * 11 + 8, none⟩ = some (.int .i64 c.depth) ∧ w'.cell? ⟨b, off + k * 11 + 9, none⟩ = some (.int .i64 c.bytes) ∧ w'.cell? ⟨b, off + k * 11 + 10, none⟩ = some (.slice c.ba c.B.length c.bcap)) (go_keep) (first | (go_at_call 56; refine (cPK _).mono ?_; rintro e w' ⟨rfl, rfl⟩))
    all_goals go_wp2_with (first | (refine wpList_load_row rfl 74 _ rfl _ rfl _ _ _ _ HOP.out Tryz.underlying74 rfl HIO.out ?_) | (go_at_call 58; refine cA.mono ?_; rintro e w2 ⟨rfl, hB2⟩))
    all_goals go_ret
    all_goals exact ⟨rfl, HB0.out.trans (hB2.mono (by simp; omega))⟩
  · go_enter Tryz.func35, Tryz.ntmps35
    go_wp2
    go_region_held3 (fun w' => w'.cell? ⟨B, 0, none⟩ = some (.slice (some ⟨b, off, none⟩) n cap) ∧ w'.cell? ⟨w.heap.size, 1, none⟩ = some (.int .i64 o.a) ∧ w'.cell? ⟨b, off + k * 11, none⟩ = some (.int .i64 c.labels) ∧ w'.cell? ⟨b, off + k * 11 + 1, none⟩ = some (.slice c.ea c.L.length c.ecap) ∧ w'.cell? ⟨b, off + k * 11 + 2, none⟩ = some (.int .i64 c.dflt) ∧ w'.cell? ⟨b, off + k * 11 + 3, none⟩ = some (.string c.pol) ∧ w'.cell? ⟨b, off + k * 11 + 4, none⟩ = some (.int .i64 c.clr) ∧ w'.cell? ⟨b, off + k * 11 + 5, none⟩ = some (.int .i64 c.key) ∧ w'.cell? ⟨b, off + k * 11 + 6, none⟩ = some (.int .i64 c.inn) ∧ w'.cell? ⟨b, off + k * 11 + 7, none⟩ = some (.int .i64 c.out) ∧ w'.cell? ⟨b, off + k * 11 + 8, none⟩ = some (.int .i64 c.depth) ∧ w'.cell? ⟨b, off + k * 11 + 9, none⟩ = some (.int .i64 c.bytes) ∧ w'.cell? ⟨b, off + k * 11 + 10, none⟩ = some (.slice c.ba c.B.length c.bcap)) (go_keep) (first | (go_at_call 56; refine (cPK _).mono ?_; rintro e w' ⟨rfl, rfl⟩))
    all_goals go_wp2_with (first | (refine wpList_load_row rfl 74 _ rfl _ rfl _ _ _ _ HOP.out Tryz.underlying74 rfl HIO.out ?_) | (go_at_call 58; refine cA.mono ?_; rintro e w2 ⟨rfl, hB2⟩))
    all_goals go_ret
    all_goals exact ⟨rfl, HB0.out.trans (hB2.mono (by simp; omega))⟩
end Go.Proofs.YtllcbnfmihfaaaaGreatDoor
