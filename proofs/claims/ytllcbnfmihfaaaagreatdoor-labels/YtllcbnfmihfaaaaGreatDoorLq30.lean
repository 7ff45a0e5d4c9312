import Derived.Test.YtllcbnfmihfaaaaGreatDoorLq02
namespace Go.Proofs.YtllcbnfmihfaaaaGreatDoor
open Go.RowKit Go.Deep

theorem new_no (c : Int) (L : List (Int × Int)) (a : Option Addr) (cap : Nat) (hL : L.length ≤ maxLen) (w : World) (hE : EdgesAt w a L) (h : newOK c L = false) :
    Calls Tryz.prog 131 #[.int .i64 c, .slice a L.length cap] w fun e w' => e = .returned (.tuple #[.agg zOrd, .bool false]) ∧ Below w.heap.size w w' := by
  by_cases hc : 1 ≤ c ∧ c ≤ 6 ∧ L.length ≤ 30
  · obtain ⟨n, rfl⟩ := Int.eq_ofNat_of_zero_le (show 0 ≤ c by omega)
    have he : edgesB n L = false := by
      unfold newOK at h
      rw [decide_eq_true hc, Bool.true_and] at h
      exact h
    refine (new_in n (by omega) (by omega) L a cap hc.2.2 w hE).mono ?_
    rintro e w' ⟨rfl, hb⟩
    exact ⟨by rw [newV_no he], hb⟩
  · exact new_out c L a cap hL w hc
theorem new_yes (c : Int) (L : List (Int × Int)) (a : Option Addr) (cap : Nat) (w : World) (hE : EdgesAt w a L) (h : newOK c L = true) :
    Calls Tryz.prog 131 #[.int .i64 c, .slice a L.length cap] w fun e w' => e = .returned (.tuple #[.agg (ordArr c.toNat (newM c.toNat L)), .bool true]) ∧ Below w.heap.size w w' := by
  unfold newOK at h
  rw [Bool.and_eq_true] at h
  have hc := of_decide_eq_true h.1
  obtain ⟨n, rfl⟩ := Int.eq_ofNat_of_zero_le (show 0 ≤ c by omega)
  refine (new_in n (by omega) (by omega) L a cap hc.2.2 w hE).mono ?_
  rintro e w' ⟨rfl, hb⟩
  have h2 : edgesB n L = true := by have := h.2; rwa [Int.toNat_natCast] at this
  exact ⟨by rw [newV_yes h2, Int.toNat_natCast], hb⟩

/-- What 'readOrder' answers: the error, the order. -/
def roE (c : Int) (L : List (Int × Int)) (d k : Int) : Int :=
  if newOK c L && hasB c.toNat d && hasB c.toNat k then (if hasCycleB c.toNat (newM c.toNat L) then 2 else if isLatticeB c.toNat (newM c.toNat L) then 0 else 3) else 1
def roA (c : Int) (L : List (Int × Int)) (d k : Int) : Array Value := if roE c L d k = 0 then ordArr c.toNat (newM c.toNat L) else zOrd
def roV (c : Int) (L : List (Int × Int)) (d k : Int) : Value := .tuple #[.agg (roA c L d k), .int .i64 (roE c L d k)]
theorem roV_1 {c : Int} {L : List (Int × Int)} {d k : Int} (h : (newOK c L && hasB c.toNat d && hasB c.toNat k) = false) : roV c L d k = .tuple #[.agg zOrd, .int .i64 1] := by
  have e : roE c L d k = 1 := by unfold roE; rw [h]; rfl
  unfold roV roA
  rw [e]; rfl
theorem roV_2 {c : Int} {L : List (Int × Int)} {d k : Int} (h : (newOK c L && hasB c.toNat d && hasB c.toNat k) = true) (h2 : hasCycleB c.toNat (newM c.toNat L) = true) : roV c L d k = .tuple #[.agg zOrd, .int .i64 2] := by
  have e : roE c L d k = 2 := by unfold roE; rw [h, h2]; rfl
  unfold roV roA
  rw [e]; rfl
theorem roV_3 {c : Int} {L : List (Int × Int)} {d k : Int} (h : (newOK c L && hasB c.toNat d && hasB c.toNat k) = true) (h2 : hasCycleB c.toNat (newM c.toNat L) = false) (h3 : isLatticeB c.toNat (newM c.toNat L) = false) : roV c L d k = .tuple #[.agg zOrd, .int .i64 3] := by
  have e : roE c L d k = 3 := by unfold roE; rw [h, h2, h3]; rfl
  unfold roV roA
  rw [e]; rfl
theorem roV_0 {c : Int} {L : List (Int × Int)} {d k : Int} (h : (newOK c L && hasB c.toNat d && hasB c.toNat k) = true) (h2 : hasCycleB c.toNat (newM c.toNat L) = false) (h3 : isLatticeB c.toNat (newM c.toNat L) = true) : roV c L d k = .tuple #[.agg (ordArr c.toNat (newM c.toNat L)), .int .i64 0] := by
  have e : roE c L d k = 0 := by unfold roE; rw [h, h2, h3]; rfl
  unfold roV roA
  rw [e]; rfl

structure RoAt (w : World) (N : Nat) (arr A : Array Value) (W : World) : Prop where
  below : Below w.heap.size w W
  box : W.heap[w.heap.size]? = some (.cells arr 45)
  res : W.heap[w.heap.size + 1]? = some (.cells zOrd 107)
  own : W.heap[N]? = some (.cells A 107)
  lo : w.heap.size + 1 < N
theorem RoAt.step {w : World} {N : Nat} {arr A : Array Value} {W W' : World} (h : RoAt w N arr A W) (hb : Below W.heap.size W W') : RoAt w N arr A W' := by
  have hN : N < W.heap.size := (Array.getElem?_eq_some_iff.1 h.own).1
  have := h.lo
  exact ⟨h.below.trans (hb.mono h.below.size), (hb.block _ (by omega)).trans h.box, (hb.block _ (by omega)).trans h.res, (hb.block _ hN).trans h.own, h.lo⟩
theorem roAt_mk (w w2 : World) (arr A : Array Value) (hb : Below (w.heap.size + 1 + 1) ((w.alloc (.cells arr 45)).alloc (.cells zOrd 107)) w2) : RoAt w w2.heap.size arr A (w2.alloc (.cells A 107)) := by
  have hz := hb.size
  simp only [World.size_alloc] at hz
  refine ⟨((((Below.refl _ _).alloc (Nat.le_refl _) _).alloc (by simp) _).trans (hb.mono (by omega))).alloc (by omega) _, ?_, ?_, heap_new _ _, by omega⟩
  · rw [Below.heap_alloc _ _ _ (by omega), hb.block _ (by omega), Below.heap_alloc _ _ _ (by simp)]; exact heap_new _ _
  · rw [Below.heap_alloc _ _ _ (by omega), hb.block _ (by omega)]
    have := heap_new (w.alloc (.cells arr 45)) (.cells zOrd 107)
    rwa [World.size_alloc] at this

set_option maxRecDepth 100000 in
set_option maxHeartbeats 4000000 in
theorem readOrder_any (arr : Array Value) (c : Int) (L : List (Int × Int)) (ea : Option Addr) (ecap : Nat) (d k : Int) (f0 : arr[0]? = some (.int .i64 c)) (f1 : arr[1]? = some (.slice ea L.length ecap)) (f2 : arr[2]? = some (.int .i64 d)) (f4 : arr[4]? = some (.int .i64 k))
    (hL : L.length ≤ maxLen) (w : World) (hE : EdgesAt w ea L) :
    Calls Tryz.prog 81 #[.agg arr] w fun e w' => e = .returned (roV c L d k) ∧ Below w.heap.size w w' := by
  have HE2 : Hid (EdgesAt ((w.alloc (.cells arr 45)).alloc (.cells zOrd 107)) ea L) := hE.below (((Below.refl _ _).alloc (Nat.le_refl _) _).alloc (by simp) _)
  have HL : Hid (L.length ≤ maxLen) := hL
  clear hE hL
  cases hnew : newOK c L
  · have HF : Hid (roV c L d k = .tuple #[.agg zOrd, .int .i64 1]) := roV_1 (by rw [hnew]; rfl)
    have cN := new_no c L ea ecap HL.out _ HE2.out hnew
    clear hnew
    go_enter Tryz.func81, Tryz.ntmps81
    go_wp2_with (first
      | (refine wpList_allocOrd rfl rfl _ rfl (w.heap.size + 1) ?hN ?_; case hN => (simp only [World.size_alloc]; done))
      | (go_at_call 131; refine cN.mono ?_; clear cN; rintro e w2 ⟨rfl, hB2⟩; have HT : Hid (RoAt w w2.heap.size arr zOrd (w2.alloc (.cells zOrd 107))) := roAt_mk w w2 arr zOrd (by simpa using hB2))
      | (refine wpList_allocOrd rfl rfl _ rfl w2.heap.size rfl ?_)
      | (refine wpList_buildAt rfl 107 _ rfl _ rfl _ [] ?hl built_ord0 ?_; case hl => simp)
      | (refine wpList_store_row rfl 107 _ _ rfl w2.heap.size zOrd rfl rfl 107 zOrd (heap_new w2 _) (infoOrd (ordArr_size _ _)) rfl (ordArr_all _ _) ?_; rw [World.setRow_alloc_new])
      | (refine wpList_store_row rfl 107 _ _ rfl (w.heap.size + 1) zOrd rfl rfl 107 zOrd HT.out.res (infoOrd (ordArr_size _ _)) rfl (ordArr_all _ _) ?_))
    refine bodyPost_ret (results_row_tmp Tryz.results81 _ _ (w.heap.size + 1) 107 zOrd (0, 0) _ rfl (setRow_heap _ _ zOrd _ _ _ HT.out.res) Tryz.underlying107 rfl (infoOrd (ordArr_size _ _)) (.int .i64 1) rfl) rfl ⟨by rw [HF.out], below_setRow HT.out.below (by omega) _⟩
  · have cN := new_yes c L ea ecap _ HE2.out hnew
    have HNN : Hid (newOK c L = true) := hnew
    have hcb : 1 ≤ c ∧ c ≤ 6 := by
      unfold newOK at hnew
      rw [Bool.and_eq_true] at hnew
      have := of_decide_eq_true hnew.1
      omega
    clear hnew
    obtain ⟨n, rfl⟩ := Int.eq_ofNat_of_zero_le (show 0 ≤ c by omega)
    have hn : n ≤ 6 := by omega
    rw [Int.toNat_natCast] at cN
    have HT : Hid (∀ x, hasB ((n : Int)).toNat x = hasB n x) := fun x => by rw [Int.toNat_natCast]
    have HM : Hid (newM ((n : Int)).toNat L = newM n L) := by show _ = _; rw [Int.toNat_natCast]
    have HC : Hid (hasCycleB ((n : Int)).toNat (newM ((n : Int)).toNat L) = hasCycleB n (newM n L)) := by show _ = _; rw [Int.toNat_natCast]
    have HD : Hid (isLatticeB ((n : Int)).toNat (newM ((n : Int)).toNat L) = isLatticeB n (newM n L)) := by show _ = _; rw [Int.toNat_natCast]
    have HA : Hid (ordArr ((n : Int)).toNat (newM ((n : Int)).toNat L) = ordArr n (newM n L)) := by show _ = _; rw [Int.toNat_natCast]
    generalize newM n L = M at *
    cases hd : hasB n d
    · have HF : Hid (roV n L d k = .tuple #[.agg zOrd, .int .i64 1]) := roV_1 (by rw [HT.out, HT.out, hd]; simp)
      clear HT HM HC HD HA
      have T1 : True := trivial
      go_enter Tryz.func81, Tryz.ntmps81
      go_wp2_with (first
        | (refine wpList_allocOrd rfl rfl _ rfl (w.heap.size + 1) ?hN ?_; case hN => (simp only [World.size_alloc]; done))
        | (go_at_call 131; refine cN.mono ?_; clear cN; rintro e w2 ⟨rfl, hB2⟩; have HX : Hid (RoAt w w2.heap.size arr (ordArr n M) (w2.alloc (.cells (ordArr n M) 107))) := roAt_mk w w2 arr _ (by simpa using hB2); have hc2 := (cellOfHeap HX.out.box 2).trans f2)
        | (refine wpList_allocOrd rfl rfl _ rfl w2.heap.size rfl ?_)
        | (refine wpList_store_row rfl 107 _ _ rfl w2.heap.size (ordArr n M) rfl rfl 107 zOrd (heap_new w2 _) (infoOrd (ordArr_size _ _)) (by rw [ordArr_size]; exact ordArr_size _ _) (ordArr_all _ _) ?_; rw [World.setRow_alloc_new])
        | (refine wpList_load_row rfl 107 _ rfl _ rfl _ _ _ _ HX.out.own Tryz.underlying107 rfl (infoOrd (ordArr_size _ _)) ?_)
        | (refine wpList_load_row_g 107 _ rfl rfl _ rfl _ _ _ _ HX.out.own Tryz.underlying107 rfl (infoOrd (ordArr_size _ _)) ?_)
        | (refine wpList_buildAt rfl 107 _ rfl _ rfl _ [] ?hl built_ord0 ?_; case hl => simp)
        | (go_at_call 132; clear T1; refine (has_any _ n (isOrd_ordArr n M).count d _).mono ?_; rintro e w3 ⟨rfl, hB3⟩; have HX3 := HX.out.step hB3; clear HX hc2; have HX : Hid (RoAt w w2.heap.size arr (ordArr n M) w3) := HX3; clear HX3 hB3; have hc2 := (cellOfHeap HX.out.box 4).trans f4)
        | (refine wpList_store_row rfl 107 _ _ rfl (w.heap.size + 1) zOrd rfl rfl 107 zOrd HX.out.res (infoOrd (ordArr_size _ _)) rfl (ordArr_all _ _) ?_))
      refine bodyPost_ret (results_row_tmp Tryz.results81 _ _ (w.heap.size + 1) 107 zOrd (0, 0) _ rfl (setRow_heap _ _ zOrd _ _ _ HX.out.res) Tryz.underlying107 rfl (infoOrd (ordArr_size _ _)) (.int .i64 1) rfl) rfl ⟨by rw [HF.out], below_setRow HX.out.below (by omega) _⟩
    · cases hk : hasB n k
      · have HF : Hid (roV n L d k = .tuple #[.agg zOrd, .int .i64 1]) := roV_1 (by rw [HT.out, HT.out, hk]; simp)
        clear HT HM HC HD HA
        have T1 : True := trivial
        have T2 : True := trivial
        go_enter Tryz.func81, Tryz.ntmps81
        go_wp2_with (first
          | (refine wpList_allocOrd rfl rfl _ rfl (w.heap.size + 1) ?hN ?_; case hN => (simp only [World.size_alloc]; done))
          | (go_at_call 131; refine cN.mono ?_; clear cN; rintro e w2 ⟨rfl, hB2⟩; have HX : Hid (RoAt w w2.heap.size arr (ordArr n M) (w2.alloc (.cells (ordArr n M) 107))) := roAt_mk w w2 arr _ (by simpa using hB2); have hc2 := (cellOfHeap HX.out.box 2).trans f2)
          | (refine wpList_allocOrd rfl rfl _ rfl w2.heap.size rfl ?_)
          | (refine wpList_store_row rfl 107 _ _ rfl w2.heap.size (ordArr n M) rfl rfl 107 zOrd (heap_new w2 _) (infoOrd (ordArr_size _ _)) (by rw [ordArr_size]; exact ordArr_size _ _) (ordArr_all _ _) ?_; rw [World.setRow_alloc_new])
          | (refine wpList_load_row rfl 107 _ rfl _ rfl _ _ _ _ HX.out.own Tryz.underlying107 rfl (infoOrd (ordArr_size _ _)) ?_)
          | (refine wpList_load_row_g 107 _ rfl rfl _ rfl _ _ _ _ HX.out.own Tryz.underlying107 rfl (infoOrd (ordArr_size _ _)) ?_)
          | (refine wpList_buildAt rfl 107 _ rfl _ rfl _ [] ?hl built_ord0 ?_; case hl => simp)
          | (go_at_call 132; clear T1; refine (has_any _ n (isOrd_ordArr n M).count d _).mono ?_; rintro e w3 ⟨rfl, hB3⟩; have HX3 := HX.out.step hB3; clear HX hc2; have HX : Hid (RoAt w w2.heap.size arr (ordArr n M) w3) := HX3; clear HX3 hB3; have hc2 := (cellOfHeap HX.out.box 4).trans f4)
          | (go_at_call 132; clear T2; refine (has_any _ n (isOrd_ordArr n M).count k _).mono ?_; rintro e w3 ⟨rfl, hB3⟩; have HX3 := HX.out.step hB3; clear HX hc2; have HX : Hid (RoAt w w2.heap.size arr (ordArr n M) w3) := HX3; clear HX3 hB3; have hc2 := (cellOfHeap HX.out.box 4).trans f4)
          | (refine wpList_store_row rfl 107 _ _ rfl (w.heap.size + 1) zOrd rfl rfl 107 zOrd HX.out.res (infoOrd (ordArr_size _ _)) rfl (ordArr_all _ _) ?_))
        refine bodyPost_ret (results_row_tmp Tryz.results81 _ _ (w.heap.size + 1) 107 zOrd (0, 0) _ rfl (setRow_heap _ _ zOrd _ _ _ HX.out.res) Tryz.underlying107 rfl (infoOrd (ordArr_size _ _)) (.int .i64 1) rfl) rfl ⟨by rw [HF.out], below_setRow HX.out.below (by omega) _⟩
      · have HG : Hid ((newOK n L && hasB ((n : Int)).toNat d && hasB ((n : Int)).toNat k) = true) := by show _ = _; rw [HT.out, HT.out, hd, hk, HNN.out]; rfl
        clear HT HNN
        cases hcy : hasCycleB n M
        · cases hla : isLatticeB n M
          · have HF : Hid (roV n L d k = .tuple #[.agg zOrd, .int .i64 3]) := roV_3 HG.out (HC.out.trans hcy) (HD.out.trans hla)
            clear HG HM HC HD HA
            have T1 : True := trivial
            have T2 : True := trivial
            have T3 : True := trivial
            have T4 : True := trivial
            go_enter Tryz.func81, Tryz.ntmps81
            go_wp2_with (first
              | (refine wpList_allocOrd rfl rfl _ rfl (w.heap.size + 1) ?hN ?_; case hN => (simp only [World.size_alloc]; done))
              | (go_at_call 131; refine cN.mono ?_; clear cN; rintro e w2 ⟨rfl, hB2⟩; have HX : Hid (RoAt w w2.heap.size arr (ordArr n M) (w2.alloc (.cells (ordArr n M) 107))) := roAt_mk w w2 arr _ (by simpa using hB2); have hc2 := (cellOfHeap HX.out.box 2).trans f2)
              | (refine wpList_allocOrd rfl rfl _ rfl w2.heap.size rfl ?_)
              | (refine wpList_store_row rfl 107 _ _ rfl w2.heap.size (ordArr n M) rfl rfl 107 zOrd (heap_new w2 _) (infoOrd (ordArr_size _ _)) (by rw [ordArr_size]; exact ordArr_size _ _) (ordArr_all _ _) ?_; rw [World.setRow_alloc_new])
              | (refine wpList_load_row rfl 107 _ rfl _ rfl _ _ _ _ HX.out.own Tryz.underlying107 rfl (infoOrd (ordArr_size _ _)) ?_)
              | (refine wpList_load_row_g 107 _ rfl rfl _ rfl _ _ _ _ HX.out.own Tryz.underlying107 rfl (infoOrd (ordArr_size _ _)) ?_)
              | (refine wpList_buildAt rfl 107 _ rfl _ rfl _ [] ?hl built_ord0 ?_; case hl => simp)
              | (go_at_call 132; clear T1; refine (has_any _ n (isOrd_ordArr n M).count d _).mono ?_; rintro e w3 ⟨rfl, hB3⟩; have HX3 := HX.out.step hB3; clear HX hc2; have HX : Hid (RoAt w w2.heap.size arr (ordArr n M) w3) := HX3; clear HX3 hB3; have hc2 := (cellOfHeap HX.out.box 4).trans f4)
              | (go_at_call 132; clear T2; refine (has_any _ n (isOrd_ordArr n M).count k _).mono ?_; rintro e w3 ⟨rfl, hB3⟩; have HX3 := HX.out.step hB3; clear HX hc2; have HX : Hid (RoAt w w2.heap.size arr (ordArr n M) w3) := HX3; clear HX3 hB3; have hc2 := (cellOfHeap HX.out.box 4).trans f4)
              | (go_at_call 133; clear T3; refine (hasCycle_any _ n M (isOrd_ordArr n M) hn _).mono ?_; rintro e w3 ⟨rfl, hB3⟩; have HX3 := HX.out.step hB3; clear HX hc2; have HX : Hid (RoAt w w2.heap.size arr (ordArr n M) w3) := HX3; clear HX3 hB3; have hc2 := (cellOfHeap HX.out.box 4).trans f4)
              | (go_at_call 134; clear T4; refine (isLattice_any _ n M (isOrd_ordArr n M) hn _).mono ?_; rintro e w3 ⟨rfl, hB3⟩; have HX3 := HX.out.step hB3; clear HX hc2; have HX : Hid (RoAt w w2.heap.size arr (ordArr n M) w3) := HX3; clear HX3 hB3; have hc2 := (cellOfHeap HX.out.box 4).trans f4)
              | (refine wpList_store_row rfl 107 _ _ rfl (w.heap.size + 1) zOrd rfl rfl 107 zOrd HX.out.res (infoOrd (ordArr_size _ _)) rfl (ordArr_all _ _) ?_))
            refine bodyPost_ret (results_row_tmp Tryz.results81 _ _ (w.heap.size + 1) 107 zOrd (0, 0) _ rfl (setRow_heap _ _ zOrd _ _ _ HX.out.res) Tryz.underlying107 rfl (infoOrd (ordArr_size _ _)) (.int .i64 3) rfl) rfl ⟨by rw [HF.out], below_setRow HX.out.below (by omega) _⟩
          · have HF : Hid (roV n L d k = .tuple #[.agg (ordArr n M), .int .i64 0]) := (roV_0 HG.out (HC.out.trans hcy) (HD.out.trans hla)).trans (by rw [HA.out])
            clear HG HM HC HD HA
            have T1 : True := trivial
            have T2 : True := trivial
            have T3 : True := trivial
            have T4 : True := trivial
            go_enter Tryz.func81, Tryz.ntmps81
            go_wp2_with (first
              | (refine wpList_allocOrd rfl rfl _ rfl (w.heap.size + 1) ?hN ?_; case hN => (simp only [World.size_alloc]; done))
              | (go_at_call 131; refine cN.mono ?_; clear cN; rintro e w2 ⟨rfl, hB2⟩; have HX : Hid (RoAt w w2.heap.size arr (ordArr n M) (w2.alloc (.cells (ordArr n M) 107))) := roAt_mk w w2 arr _ (by simpa using hB2); have hc2 := (cellOfHeap HX.out.box 2).trans f2)
              | (refine wpList_allocOrd rfl rfl _ rfl w2.heap.size rfl ?_)
              | (refine wpList_store_row rfl 107 _ _ rfl w2.heap.size (ordArr n M) rfl rfl 107 zOrd (heap_new w2 _) (infoOrd (ordArr_size _ _)) (by rw [ordArr_size]; exact ordArr_size _ _) (ordArr_all _ _) ?_; rw [World.setRow_alloc_new])
              | (refine wpList_load_row rfl 107 _ rfl _ rfl _ _ _ _ HX.out.own Tryz.underlying107 rfl (infoOrd (ordArr_size _ _)) ?_)
              | (refine wpList_load_row_g 107 _ rfl rfl _ rfl _ _ _ _ HX.out.own Tryz.underlying107 rfl (infoOrd (ordArr_size _ _)) ?_)
              | (refine wpList_buildAt rfl 107 _ rfl _ rfl _ [] ?hl built_ord0 ?_; case hl => simp)
              | (go_at_call 132; clear T1; refine (has_any _ n (isOrd_ordArr n M).count d _).mono ?_; rintro e w3 ⟨rfl, hB3⟩; have HX3 := HX.out.step hB3; clear HX hc2; have HX : Hid (RoAt w w2.heap.size arr (ordArr n M) w3) := HX3; clear HX3 hB3; have hc2 := (cellOfHeap HX.out.box 4).trans f4)
              | (go_at_call 132; clear T2; refine (has_any _ n (isOrd_ordArr n M).count k _).mono ?_; rintro e w3 ⟨rfl, hB3⟩; have HX3 := HX.out.step hB3; clear HX hc2; have HX : Hid (RoAt w w2.heap.size arr (ordArr n M) w3) := HX3; clear HX3 hB3; have hc2 := (cellOfHeap HX.out.box 4).trans f4)
              | (go_at_call 133; clear T3; refine (hasCycle_any _ n M (isOrd_ordArr n M) hn _).mono ?_; rintro e w3 ⟨rfl, hB3⟩; have HX3 := HX.out.step hB3; clear HX hc2; have HX : Hid (RoAt w w2.heap.size arr (ordArr n M) w3) := HX3; clear HX3 hB3; have hc2 := (cellOfHeap HX.out.box 4).trans f4)
              | (go_at_call 134; clear T4; refine (isLattice_any _ n M (isOrd_ordArr n M) hn _).mono ?_; rintro e w3 ⟨rfl, hB3⟩; have HX3 := HX.out.step hB3; clear HX hc2; have HX : Hid (RoAt w w2.heap.size arr (ordArr n M) w3) := HX3; clear HX3 hB3; have hc2 := (cellOfHeap HX.out.box 4).trans f4)
              | (refine wpList_store_row rfl 107 _ _ rfl (w.heap.size + 1) (ordArr n M) rfl rfl 107 zOrd HX.out.res (infoOrd (ordArr_size _ _)) (by rw [ordArr_size]; exact ordArr_size _ _) (ordArr_all _ _) ?_))
            refine bodyPost_ret (results_row_tmp Tryz.results81 _ _ (w.heap.size + 1) 107 (ordArr n M) (0, 0) _ rfl (setRow_heap _ _ zOrd _ _ _ HX.out.res) Tryz.underlying107 rfl (infoOrd (ordArr_size _ _)) (.int .i64 0) rfl) rfl ⟨by rw [HF.out], below_setRow HX.out.below (by omega) _⟩
        · have HF : Hid (roV n L d k = .tuple #[.agg zOrd, .int .i64 2]) := roV_2 HG.out (HC.out.trans hcy)
          clear HG HM HC HD HA
          have T1 : True := trivial
          have T2 : True := trivial
          have T3 : True := trivial
          go_enter Tryz.func81, Tryz.ntmps81
          go_wp2_with (first
            | (refine wpList_allocOrd rfl rfl _ rfl (w.heap.size + 1) ?hN ?_; case hN => (simp only [World.size_alloc]; done))
            | (go_at_call 131; refine cN.mono ?_; clear cN; rintro e w2 ⟨rfl, hB2⟩; have HX : Hid (RoAt w w2.heap.size arr (ordArr n M) (w2.alloc (.cells (ordArr n M) 107))) := roAt_mk w w2 arr _ (by simpa using hB2); have hc2 := (cellOfHeap HX.out.box 2).trans f2)
            | (refine wpList_allocOrd rfl rfl _ rfl w2.heap.size rfl ?_)
            | (refine wpList_store_row rfl 107 _ _ rfl w2.heap.size (ordArr n M) rfl rfl 107 zOrd (heap_new w2 _) (infoOrd (ordArr_size _ _)) (by rw [ordArr_size]; exact ordArr_size _ _) (ordArr_all _ _) ?_; rw [World.setRow_alloc_new])
            | (refine wpList_load_row rfl 107 _ rfl _ rfl _ _ _ _ HX.out.own Tryz.underlying107 rfl (infoOrd (ordArr_size _ _)) ?_)
            | (refine wpList_load_row_g 107 _ rfl rfl _ rfl _ _ _ _ HX.out.own Tryz.underlying107 rfl (infoOrd (ordArr_size _ _)) ?_)
            | (refine wpList_buildAt rfl 107 _ rfl _ rfl _ [] ?hl built_ord0 ?_; case hl => simp)
            | (go_at_call 132; clear T1; refine (has_any _ n (isOrd_ordArr n M).count d _).mono ?_; rintro e w3 ⟨rfl, hB3⟩; have HX3 := HX.out.step hB3; clear HX hc2; have HX : Hid (RoAt w w2.heap.size arr (ordArr n M) w3) := HX3; clear HX3 hB3; have hc2 := (cellOfHeap HX.out.box 4).trans f4)
            | (go_at_call 132; clear T2; refine (has_any _ n (isOrd_ordArr n M).count k _).mono ?_; rintro e w3 ⟨rfl, hB3⟩; have HX3 := HX.out.step hB3; clear HX hc2; have HX : Hid (RoAt w w2.heap.size arr (ordArr n M) w3) := HX3; clear HX3 hB3; have hc2 := (cellOfHeap HX.out.box 4).trans f4)
            | (go_at_call 133; clear T3; refine (hasCycle_any _ n M (isOrd_ordArr n M) hn _).mono ?_; rintro e w3 ⟨rfl, hB3⟩; have HX3 := HX.out.step hB3; clear HX hc2; have HX : Hid (RoAt w w2.heap.size arr (ordArr n M) w3) := HX3; clear HX3 hB3; have hc2 := (cellOfHeap HX.out.box 4).trans f4)
            | (refine wpList_store_row rfl 107 _ _ rfl (w.heap.size + 1) zOrd rfl rfl 107 zOrd HX.out.res (infoOrd (ordArr_size _ _)) rfl (ordArr_all _ _) ?_))
          refine bodyPost_ret (results_row_tmp Tryz.results81 _ _ (w.heap.size + 1) 107 zOrd (0, 0) _ rfl (setRow_heap _ _ zOrd _ _ _ HX.out.res) Tryz.underlying107 rfl (infoOrd (ordArr_size _ _)) (.int .i64 2) rfl) rfl ⟨by rw [HF.out], below_setRow HX.out.below (by omega) _⟩
end Go.Proofs.YtllcbnfmihfaaaaGreatDoor
