import Derived.Test.YtllcbnfmihfaaaaGreatDoorCRd
namespace Go.Proofs.YtllcbnfmihfaaaaGreatDoor
open Go.RowKit Go.Shelf

set_option maxRecDepth 100000 in
set_option maxHeartbeats 4000000 in
theorem check_any : Says2 98 chkE chkN := by
  intro c w hc hg
  have HS : Hid (c.arr.size = 11) := c.size
  have HX : Hid (BoxAt w c (w.alloc (.cells c.arr 45))) := boxAt_mk w c
  have cR := cfgRead_any c _ (HX.out.cfg hc) (hg.below HX.out.below)
  rw [(pro_chk c).1, (pro_chk c).2] at cR
  clear hc hg
  go_enter Tryz.func98, Tryz.ntmps98
  go_wp2_with (first
    | (refine wpList_load_row rfl 45 _ rfl _ rfl _ _ _ _ HX.out.box Tryz.underlying45 rfl (infoCfg HS.out) ?_)
    | fail)
  refine cR.mono ?_
  clear cR
  rintro e w2 ⟨A, rfl, hA, hB2⟩
  have HA1 : Hid (A.size = 38) := hA.1
  have HA2 : Hid (A.all (·.oneCell') = true) := hA.2.1
  have HZ : Hid (zSet.size = A.size) := by show _ = _; rw [hA.1]; exact zSet_size
  have HX2 : Hid (BoxAt w c w2) := HX.out.step hB2
  clear hA hB2 HX
  go_wp2_with (first
    | (refine wpList_allocSet rfl rfl _ rfl w2.heap.size rfl ?_)
    | (refine wpList_store_row rfl 110 _ _ rfl w2.heap.size A rfl rfl 110 zSet (heap_new w2 _) (infoSet' HA1.out) HZ.out HA2.out ?_; rw [World.setRow_alloc_new]))
  go_ret2
  exact ⟨rfl, HX2.out.below.alloc HX2.out.below.size _⟩
end Go.Proofs.YtllcbnfmihfaaaaGreatDoor
