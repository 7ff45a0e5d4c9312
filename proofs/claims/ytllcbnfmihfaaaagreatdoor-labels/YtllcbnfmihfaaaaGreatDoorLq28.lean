import Derived.Test.YtllcbnfmihfaaaaGreatDoorLq15
namespace Go.Proofs.YtllcbnfmihfaaaaGreatDoor
open Go.RowKit Go.Deep

/-- Where the box of a configuration lies, with its edges. -/
structure CfgAt (s : Nat) (W0 : World) (arr : Array Value) (ea : Option Addr) (L : List (Int × Int)) (W : World) : Prop where
  below : Below (s + 1) W0 W
  box : W.heap[s]? = some (.cells arr 45)
  edges : EdgesAt W ea L
  size : s + 1 ≤ W.heap.size
theorem CfgAt.step {s : Nat} {W0 : World} {arr : Array Value} {ea : Option Addr} {L : List (Int × Int)} {W W' : World} (h : CfgAt s W0 arr ea L W) (hb : Below W.heap.size W W') : CfgAt s W0 arr ea L W' :=
  ⟨h.below.trans (hb.mono h.size), (hb.block _ (by have := h.size; omega)).trans h.box, h.edges.below hb, Nat.le_trans h.size hb.size⟩
theorem cfgAt_mk (w : World) (arr : Array Value) (ea : Option Addr) (L : List (Int × Int)) (h : EdgesAt w ea L) : CfgAt w.heap.size (w.alloc (.cells arr 45)) arr ea L (w.alloc (.cells arr 45)) :=
  ⟨Below.refl _ _, heap_new _ _, h.below ((Below.refl _ _).alloc (Nat.le_refl _) _), by simp⟩
theorem CfgAt.cell {s : Nat} {W0 : World} {arr : Array Value} {ea : Option Addr} {L : List (Int × Int)} {W : World} (h : CfgAt s W0 arr ea L W) (j : Nat) : W.cell? ⟨s, j, none⟩ = arr[j]? := cellOfHeap h.box j
theorem CfgAt.from_ {w : World} {W0 : World} {arr : Array Value} {ea : Option Addr} {L : List (Int × Int)} {W : World} (h : CfgAt w.heap.size W0 arr ea L W) (h0 : Below w.heap.size w W0) : Below w.heap.size w W := h0.trans (h.below.mono (by omega))

/-- What the inner functions of the reference lean on. -/
structure RefOK (arr : Array Value) (n : Nat) (L : List (Int × Int)) (ea : Option Addr) (ecap : Nat) : Prop where
  cfg : CfgE arr n L ea ecap
  hn : n ≤ 6
  hL : L.length ≤ 30
  hE : edgesB n L = true
theorem leq_c {s : Nat} {W0 : World} {arr : Array Value} {n : Nat} {L : List (Int × Int)} {ea : Option Addr} {ecap : Nat} (H : RefOK arr n L ea ecap) (a b : Nat) (ha : a < n) (hb : b < n) {W : World} (h : CfgAt s W0 arr ea L W) :
    Calls Tryz.prog 126 #[.agg arr, .int .i64 a, .int .i64 b] W fun e w' => e = .returned (.bool (leqF n L a b)) ∧ CfgAt s W0 arr ea L w' :=
  (leq_any arr n L ea ecap H.cfg H.hn H.hL H.hE a b ha hb W h.edges).mono fun _ _ ⟨he, hb'⟩ => ⟨he, h.step hb'⟩

set_option maxRecDepth 100000 in
set_option maxHeartbeats 4000000 in
theorem join_any (arr : Array Value) (n : Nat) (L : List (Int × Int)) (ea : Option Addr) (ecap : Nat) (H : RefOK arr n L ea ecap) (a b : Nat) (ha : a < n) (hb : b < n) (w : World) (hA : EdgesAt w ea L) :
    Calls Tryz.prog 127 #[.agg arr, .int .i64 a, .int .i64 b] w fun e w' => ∃ r : Int, e = .returned (.int .i64 r) ∧ Hid (decide (r < 0) = !hasJoinB n (leqF n L) a b) ∧ Below w.heap.size w w' := by
  have f0 := H.cfg.f0
  have hn := H.hn
  have HI : Hid ((Tryz.prog.info? 45).map (·.size) = some arr.size) := infoCfg H.cfg.size
  have HR : Hid (RefOK arr n L ea ecap) := H
  have HX0 : Hid (CfgAt w.heap.size (w.alloc (.cells arr 45)) arr ea L (w.alloc (.cells arr 45))) := cfgAt_mk w arr ea L hA
  have HB0 : Hid (Below w.heap.size w (w.alloc (.cells arr 45))) := (Below.refl _ _).alloc (Nat.le_refl _) _
  clear H hA
  go_enter Tryz.func127, Tryz.ntmps127
  go_wp2
  generalize w.alloc (.cells arr 45) = W0 at *
  go_loopg [7, 8, 9] n (fun g x y z wr => ∃ k : Nat, Hid (k + g = n) ∧ x = .int .i64 k ∧ Hid (CfgAt w.heap.size W0 arr ea L wr) ∧ Hid (∀ j, j < k → leastB n (leqF n L) a b j = false))
  case atStart => exact ⟨0, by show _ = _; omega, rfl, HX0, fun j hj => by omega⟩
  case round =>
    clear HX0
    obtain ⟨k, hk, rfl, HX, HL⟩ := hrel
    have hc0 := (HX.out.cell 0).trans f0
    cases gk with
    | zero =>
      have hlt : ¬ (k : Int) < n := by have := hk.out; omega
      go_wp2
      go_ret
      exact ⟨-1, rfl, by show _ = _; rw [hasJoin_no (fun j hj => HL.out j (by have := hk.out; omega))]; rfl, HX.out.from_ HB0.out⟩
    | succ g =>
      have hlt : (k : Int) < n := by have := hk.out; omega
      cases e1 : leqF n L a k
      · have HF : Hid (leastB n (leqF n L) a b k = false) := by show _ = _; unfold leastB ubB; simp [e1]
        have T1 : True := trivial
        go_wp2_with (first
          | (refine wpList_load_row rfl 45 _ rfl _ rfl _ _ _ _ HX.out.box Tryz.underlying45 rfl HI.out ?_)
          | (refine wpList_load_row_g 45 _ rfl rfl _ rfl _ _ _ _ HX.out.box Tryz.underlying45 rfl HI.out ?_)
          | (go_at_call 126; clear T1; refine (leq_c HR.out a k (by omega) (by omega) HX.out).mono ?_; rintro e w2 ⟨rfl, hX2⟩; clear HX; have HX : Hid (CfgAt w.heap.size W0 arr ea L w2) := hX2; clear hX2))
        clear hc0
        go_loopg [9, 8] 0 (fun g x y wr => x = .int .i64 0 ∧ y = .bool false ∧ Hid (CfgAt w.heap.size W0 arr ea L wr))
        case atStart => exact ⟨rfl, rfl, HX⟩
        case round =>
          clear HX
          obtain ⟨rfl, rfl, HX⟩ := hrel
          have hc0 := (HX.out.cell 0).trans f0
          go_wp2
          go_roundg g
          case measure => omega
          case rel =>
            refine ⟨k + 1, by show _ = _; have := hk.out; omega, by go_num, HX, fun j hj => ?_⟩
            by_cases e : j = k
            · subst e; exact HF.out
            · exact HL.out j (by omega)
      · cases e2 : leqF n L b k
        · have HF : Hid (leastB n (leqF n L) a b k = false) := by show _ = _; unfold leastB ubB; simp [e2]
          have T1 : True := trivial
          have T2 : True := trivial
          go_wp2_with (first
            | (refine wpList_load_row rfl 45 _ rfl _ rfl _ _ _ _ HX.out.box Tryz.underlying45 rfl HI.out ?_)
            | (refine wpList_load_row_g 45 _ rfl rfl _ rfl _ _ _ _ HX.out.box Tryz.underlying45 rfl HI.out ?_)
            | (go_at_call 126; clear T1; refine (leq_c HR.out a k (by omega) (by omega) HX.out).mono ?_; rintro e w2 ⟨rfl, hX2⟩; clear HX; have HX : Hid (CfgAt w.heap.size W0 arr ea L w2) := hX2; clear hX2)
            | (go_at_call 126; clear T2; refine (leq_c HR.out b k (by omega) (by omega) HX.out).mono ?_; rintro e w2 ⟨rfl, hX2⟩; clear HX; have HX : Hid (CfgAt w.heap.size W0 arr ea L w2) := hX2; clear hX2))
          clear hc0
          go_loopg [9, 8] 0 (fun g x y wr => x = .int .i64 0 ∧ y = .bool false ∧ Hid (CfgAt w.heap.size W0 arr ea L wr))
          case atStart => exact ⟨rfl, rfl, HX⟩
          case round =>
            clear HX
            obtain ⟨rfl, rfl, HX⟩ := hrel
            have hc0 := (HX.out.cell 0).trans f0
            go_wp2
            go_roundg g
            case measure => omega
            case rel =>
              refine ⟨k + 1, by show _ = _; have := hk.out; omega, by go_num, HX, fun j hj => ?_⟩
              by_cases e : j = k
              · subst e; exact HF.out
              · exact HL.out j (by omega)
        · have HU : Hid (ubB (leqF n L) a b k = true) := by show _ = _; unfold ubB; simp [e1, e2]
          have T1 : True := trivial
          have T2 : True := trivial
          go_wp2_with (first
            | (refine wpList_load_row rfl 45 _ rfl _ rfl _ _ _ _ HX.out.box Tryz.underlying45 rfl HI.out ?_)
            | (refine wpList_load_row_g 45 _ rfl rfl _ rfl _ _ _ _ HX.out.box Tryz.underlying45 rfl HI.out ?_)
            | (go_at_call 126; clear T1; refine (leq_c HR.out a k (by omega) (by omega) HX.out).mono ?_; rintro e w2 ⟨rfl, hX2⟩; clear HX; have HX : Hid (CfgAt w.heap.size W0 arr ea L w2) := hX2; clear hX2)
            | (go_at_call 126; clear T2; refine (leq_c HR.out b k (by omega) (by omega) HX.out).mono ?_; rintro e w2 ⟨rfl, hX2⟩; clear HX; have HX : Hid (CfgAt w.heap.size W0 arr ea L w2) := hX2; clear hX2))
          clear hc0 e1 e2
          go_loopg [9, 8] (n + 1) (fun g x y wr => ∃ (q : Nat) (o : Bool), Hid (q + g = n + 1) ∧ x = .int .i64 q ∧ y = .bool o ∧ Hid (CfgAt w.heap.size W0 arr ea L wr) ∧ Hid (o = true → q ≤ n ∧ ∀ i, i < q → ubB (leqF n L) a b i = true → (leqF n L) k i = true) ∧ Hid (o = false → leastB n (leqF n L) a b k = false))
          case atStart => exact ⟨0, true, by show _ = _; omega, rfl, rfl, HX, fun _ => ⟨by omega, fun i hi => by omega⟩, fun h => by cases h⟩
          case round =>
            clear HX
            obtain ⟨q, o, hq, rfl, rfl, HX, HT, HN⟩ := hrel
            have hc0 := (HX.out.cell 0).trans f0
            cases o with
            | false =>
              have HF : Hid (leastB n (leqF n L) a b k = false) := HN.out rfl
              by_cases hql : (q : Int) < n
              · go_wp2
                go_roundg g
                case measure => omega
                case rel =>
                  refine ⟨k + 1, by show _ = _; have := hk.out; omega, by go_num, HX, fun j hj => ?_⟩
                  by_cases e : j = k
                  · subst e; exact HF.out
                  · exact HL.out j (by omega)
              · go_wp2
                go_roundg g
                case measure => omega
                case rel =>
                  refine ⟨k + 1, by show _ = _; have := hk.out; omega, by go_num, HX, fun j hj => ?_⟩
                  by_cases e : j = k
                  · subst e; exact HF.out
                  · exact HL.out j (by omega)
            | true =>
              have hqn2 := (HT.out rfl).1
              have HT2 : Hid (∀ i, i < q → ubB (leqF n L) a b i = true → (leqF n L) k i = true) := (HT.out rfl).2
              clear HT HN
              by_cases hqn : q < n
              · have hql : (q : Int) < n := by omega
                cases gk with
                | zero => have := hq.out; omega
                | succ g2 =>
                  cases e1 : leqF n L a q
                  · have HV : Hid (ubB (leqF n L) a b q = true → (leqF n L) k q = true) := fun h => by unfold ubB at h; simp [e1] at h
                    have T1 : True := trivial
                    go_wp2_with (first
                      | (refine wpList_load_row rfl 45 _ rfl _ rfl _ _ _ _ HX.out.box Tryz.underlying45 rfl HI.out ?_)
                      | (refine wpList_load_row_g 45 _ rfl rfl _ rfl _ _ _ _ HX.out.box Tryz.underlying45 rfl HI.out ?_)
                      | (go_at_call 126; clear T1; refine (leq_c HR.out a q (by omega) (by omega) HX.out).mono ?_; rintro e w2 ⟨rfl, hX2⟩; clear HX; have HX : Hid (CfgAt w.heap.size W0 arr ea L w2) := hX2; clear hX2))
                    go_roundg g2
                    case measure => omega
                    case rel => exact ⟨q + 1, true, by show _ = _; have := hq.out; omega, by go_num, rfl, HX, (fun _ => ⟨by omega, fun i hi hu => by by_cases e : i = q; (· subst e; exact HV.out hu); (· exact HT2.out i (by omega) hu)⟩), (fun h => by cases h)⟩
                  · cases e2 : leqF n L b q
                    · have HV : Hid (ubB (leqF n L) a b q = true → (leqF n L) k q = true) := fun h => by unfold ubB at h; simp [e2] at h
                      have T1 : True := trivial
                      have T2 : True := trivial
                      go_wp2_with (first
                        | (refine wpList_load_row rfl 45 _ rfl _ rfl _ _ _ _ HX.out.box Tryz.underlying45 rfl HI.out ?_)
                        | (refine wpList_load_row_g 45 _ rfl rfl _ rfl _ _ _ _ HX.out.box Tryz.underlying45 rfl HI.out ?_)
                        | (go_at_call 126; clear T1; refine (leq_c HR.out a q (by omega) (by omega) HX.out).mono ?_; rintro e w2 ⟨rfl, hX2⟩; clear HX; have HX : Hid (CfgAt w.heap.size W0 arr ea L w2) := hX2; clear hX2)
                        | (go_at_call 126; clear T2; refine (leq_c HR.out b q (by omega) (by omega) HX.out).mono ?_; rintro e w2 ⟨rfl, hX2⟩; clear HX; have HX : Hid (CfgAt w.heap.size W0 arr ea L w2) := hX2; clear hX2))
                      go_roundg g2
                      case measure => omega
                      case rel => exact ⟨q + 1, true, by show _ = _; have := hq.out; omega, by go_num, rfl, HX, (fun _ => ⟨by omega, fun i hi hu => by by_cases e : i = q; (· subst e; exact HV.out hu); (· exact HT2.out i (by omega) hu)⟩), (fun h => by cases h)⟩
                    · cases e3 : leqF n L k q
                      · have HF : Hid (leastB n (leqF n L) a b k = false) := not_least_of (k := q) hqn (by unfold ubB; simp [e1, e2]) e3
                        have T1 : True := trivial
                        have T2 : True := trivial
                        have T3 : True := trivial
                        go_wp2_with (first
                          | (refine wpList_load_row rfl 45 _ rfl _ rfl _ _ _ _ HX.out.box Tryz.underlying45 rfl HI.out ?_)
                          | (refine wpList_load_row_g 45 _ rfl rfl _ rfl _ _ _ _ HX.out.box Tryz.underlying45 rfl HI.out ?_)
                          | (go_at_call 126; clear T1; refine (leq_c HR.out a q (by omega) (by omega) HX.out).mono ?_; rintro e w2 ⟨rfl, hX2⟩; clear HX; have HX : Hid (CfgAt w.heap.size W0 arr ea L w2) := hX2; clear hX2)
                          | (go_at_call 126; clear T2; refine (leq_c HR.out b q (by omega) (by omega) HX.out).mono ?_; rintro e w2 ⟨rfl, hX2⟩; clear HX; have HX : Hid (CfgAt w.heap.size W0 arr ea L w2) := hX2; clear hX2)
                          | (go_at_call 126; clear T3; refine (leq_c HR.out k q (by omega) (by omega) HX.out).mono ?_; rintro e w2 ⟨rfl, hX2⟩; clear HX; have HX : Hid (CfgAt w.heap.size W0 arr ea L w2) := hX2; clear hX2))
                        go_roundg g2
                        case measure => omega
                        case rel => exact ⟨q + 1, false, by show _ = _; have := hq.out; omega, by go_num, rfl, HX, (fun h => by cases h), (fun _ => HF.out)⟩
                      · have HV : Hid (ubB (leqF n L) a b q = true → (leqF n L) k q = true) := fun _ => e3
                        have T1 : True := trivial
                        have T2 : True := trivial
                        have T3 : True := trivial
                        go_wp2_with (first
                          | (refine wpList_load_row rfl 45 _ rfl _ rfl _ _ _ _ HX.out.box Tryz.underlying45 rfl HI.out ?_)
                          | (refine wpList_load_row_g 45 _ rfl rfl _ rfl _ _ _ _ HX.out.box Tryz.underlying45 rfl HI.out ?_)
                          | (go_at_call 126; clear T1; refine (leq_c HR.out a q (by omega) (by omega) HX.out).mono ?_; rintro e w2 ⟨rfl, hX2⟩; clear HX; have HX : Hid (CfgAt w.heap.size W0 arr ea L w2) := hX2; clear hX2)
                          | (go_at_call 126; clear T2; refine (leq_c HR.out b q (by omega) (by omega) HX.out).mono ?_; rintro e w2 ⟨rfl, hX2⟩; clear HX; have HX : Hid (CfgAt w.heap.size W0 arr ea L w2) := hX2; clear hX2)
                          | (go_at_call 126; clear T3; refine (leq_c HR.out k q (by omega) (by omega) HX.out).mono ?_; rintro e w2 ⟨rfl, hX2⟩; clear HX; have HX : Hid (CfgAt w.heap.size W0 arr ea L w2) := hX2; clear hX2))
                        go_roundg g2
                        case measure => omega
                        case rel => exact ⟨q + 1, true, by show _ = _; have := hq.out; omega, by go_num, rfl, HX, (fun _ => ⟨by omega, fun i hi hu => by by_cases e : i = q; (· subst e; exact HV.out hu); (· exact HT2.out i (by omega) hu)⟩), (fun h => by cases h)⟩
              · have hql : ¬ (q : Int) < n := by omega
                have HF : Hid (leastB n (leqF n L) a b k = true) := least_of HU.out (fun i hi => HT2.out i (by omega))
                go_wp2
                go_ret
                exact ⟨k, rfl, by show _ = _; rw [hasJoin_of (j := k) (by omega) HF.out, decide_eq_false (by omega)]; rfl, HX.out.from_ HB0.out⟩

set_option maxRecDepth 100000 in
set_option maxHeartbeats 4000000 in
theorem meet_any (arr : Array Value) (n : Nat) (L : List (Int × Int)) (ea : Option Addr) (ecap : Nat) (H : RefOK arr n L ea ecap) (a b : Nat) (ha : a < n) (hb : b < n) (w : World) (hA : EdgesAt w ea L) :
    Calls Tryz.prog 128 #[.agg arr, .int .i64 a, .int .i64 b] w fun e w' => ∃ r : Int, e = .returned (.int .i64 r) ∧ Hid (decide (r < 0) = !hasJoinB n (fun i j => leqF n L j i) a b) ∧ Below w.heap.size w w' := by
  have f0 := H.cfg.f0
  have hn := H.hn
  have HI : Hid ((Tryz.prog.info? 45).map (·.size) = some arr.size) := infoCfg H.cfg.size
  have HR : Hid (RefOK arr n L ea ecap) := H
  have HX0 : Hid (CfgAt w.heap.size (w.alloc (.cells arr 45)) arr ea L (w.alloc (.cells arr 45))) := cfgAt_mk w arr ea L hA
  have HB0 : Hid (Below w.heap.size w (w.alloc (.cells arr 45))) := (Below.refl _ _).alloc (Nat.le_refl _) _
  clear H hA
  go_enter Tryz.func128, Tryz.ntmps128
  go_wp2
  generalize w.alloc (.cells arr 45) = W0 at *
  go_loopg [7, 8, 9] n (fun g x y z wr => ∃ k : Nat, Hid (k + g = n) ∧ x = .int .i64 k ∧ Hid (CfgAt w.heap.size W0 arr ea L wr) ∧ Hid (∀ j, j < k → leastB n (fun i j => leqF n L j i) a b j = false))
  case atStart => exact ⟨0, by show _ = _; omega, rfl, HX0, fun j hj => by omega⟩
  case round =>
    clear HX0
    obtain ⟨k, hk, rfl, HX, HL⟩ := hrel
    have hc0 := (HX.out.cell 0).trans f0
    cases gk with
    | zero =>
      have hlt : ¬ (k : Int) < n := by have := hk.out; omega
      go_wp2
      go_ret
      exact ⟨-1, rfl, by show _ = _; rw [hasJoin_no (fun j hj => HL.out j (by have := hk.out; omega))]; rfl, HX.out.from_ HB0.out⟩
    | succ g =>
      have hlt : (k : Int) < n := by have := hk.out; omega
      cases e1 : leqF n L k a
      · have HF : Hid (leastB n (fun i j => leqF n L j i) a b k = false) := by show _ = _; unfold leastB ubB; simp [e1]
        have T1 : True := trivial
        go_wp2_with (first
          | (refine wpList_load_row rfl 45 _ rfl _ rfl _ _ _ _ HX.out.box Tryz.underlying45 rfl HI.out ?_)
          | (refine wpList_load_row_g 45 _ rfl rfl _ rfl _ _ _ _ HX.out.box Tryz.underlying45 rfl HI.out ?_)
          | (go_at_call 126; clear T1; refine (leq_c HR.out k a (by omega) (by omega) HX.out).mono ?_; rintro e w2 ⟨rfl, hX2⟩; clear HX; have HX : Hid (CfgAt w.heap.size W0 arr ea L w2) := hX2; clear hX2))
        clear hc0
        go_loopg [9, 8] 0 (fun g x y wr => x = .int .i64 0 ∧ y = .bool false ∧ Hid (CfgAt w.heap.size W0 arr ea L wr))
        case atStart => exact ⟨rfl, rfl, HX⟩
        case round =>
          clear HX
          obtain ⟨rfl, rfl, HX⟩ := hrel
          have hc0 := (HX.out.cell 0).trans f0
          go_wp2
          go_roundg g
          case measure => omega
          case rel =>
            refine ⟨k + 1, by show _ = _; have := hk.out; omega, by go_num, HX, fun j hj => ?_⟩
            by_cases e : j = k
            · subst e; exact HF.out
            · exact HL.out j (by omega)
      · cases e2 : leqF n L k b
        · have HF : Hid (leastB n (fun i j => leqF n L j i) a b k = false) := by show _ = _; unfold leastB ubB; simp [e2]
          have T1 : True := trivial
          have T2 : True := trivial
          go_wp2_with (first
            | (refine wpList_load_row rfl 45 _ rfl _ rfl _ _ _ _ HX.out.box Tryz.underlying45 rfl HI.out ?_)
            | (refine wpList_load_row_g 45 _ rfl rfl _ rfl _ _ _ _ HX.out.box Tryz.underlying45 rfl HI.out ?_)
            | (go_at_call 126; clear T1; refine (leq_c HR.out k a (by omega) (by omega) HX.out).mono ?_; rintro e w2 ⟨rfl, hX2⟩; clear HX; have HX : Hid (CfgAt w.heap.size W0 arr ea L w2) := hX2; clear hX2)
            | (go_at_call 126; clear T2; refine (leq_c HR.out k b (by omega) (by omega) HX.out).mono ?_; rintro e w2 ⟨rfl, hX2⟩; clear HX; have HX : Hid (CfgAt w.heap.size W0 arr ea L w2) := hX2; clear hX2))
          clear hc0
          go_loopg [9, 8] 0 (fun g x y wr => x = .int .i64 0 ∧ y = .bool false ∧ Hid (CfgAt w.heap.size W0 arr ea L wr))
          case atStart => exact ⟨rfl, rfl, HX⟩
          case round =>
            clear HX
            obtain ⟨rfl, rfl, HX⟩ := hrel
            have hc0 := (HX.out.cell 0).trans f0
            go_wp2
            go_roundg g
            case measure => omega
            case rel =>
              refine ⟨k + 1, by show _ = _; have := hk.out; omega, by go_num, HX, fun j hj => ?_⟩
              by_cases e : j = k
              · subst e; exact HF.out
              · exact HL.out j (by omega)
        · have HU : Hid (ubB (fun i j => leqF n L j i) a b k = true) := by show _ = _; unfold ubB; simp [e1, e2]
          have T1 : True := trivial
          have T2 : True := trivial
          go_wp2_with (first
            | (refine wpList_load_row rfl 45 _ rfl _ rfl _ _ _ _ HX.out.box Tryz.underlying45 rfl HI.out ?_)
            | (refine wpList_load_row_g 45 _ rfl rfl _ rfl _ _ _ _ HX.out.box Tryz.underlying45 rfl HI.out ?_)
            | (go_at_call 126; clear T1; refine (leq_c HR.out k a (by omega) (by omega) HX.out).mono ?_; rintro e w2 ⟨rfl, hX2⟩; clear HX; have HX : Hid (CfgAt w.heap.size W0 arr ea L w2) := hX2; clear hX2)
            | (go_at_call 126; clear T2; refine (leq_c HR.out k b (by omega) (by omega) HX.out).mono ?_; rintro e w2 ⟨rfl, hX2⟩; clear HX; have HX : Hid (CfgAt w.heap.size W0 arr ea L w2) := hX2; clear hX2))
          clear hc0 e1 e2
          go_loopg [9, 8] (n + 1) (fun g x y wr => ∃ (q : Nat) (o : Bool), Hid (q + g = n + 1) ∧ x = .int .i64 q ∧ y = .bool o ∧ Hid (CfgAt w.heap.size W0 arr ea L wr) ∧ Hid (o = true → q ≤ n ∧ ∀ i, i < q → ubB (fun i j => leqF n L j i) a b i = true → (fun i j => leqF n L j i) k i = true) ∧ Hid (o = false → leastB n (fun i j => leqF n L j i) a b k = false))
          case atStart => exact ⟨0, true, by show _ = _; omega, rfl, rfl, HX, fun _ => ⟨by omega, fun i hi => by omega⟩, fun h => by cases h⟩
          case round =>
            clear HX
            obtain ⟨q, o, hq, rfl, rfl, HX, HT, HN⟩ := hrel
            have hc0 := (HX.out.cell 0).trans f0
            cases o with
            | false =>
              have HF : Hid (leastB n (fun i j => leqF n L j i) a b k = false) := HN.out rfl
              by_cases hql : (q : Int) < n
              · go_wp2
                go_roundg g
                case measure => omega
                case rel =>
                  refine ⟨k + 1, by show _ = _; have := hk.out; omega, by go_num, HX, fun j hj => ?_⟩
                  by_cases e : j = k
                  · subst e; exact HF.out
                  · exact HL.out j (by omega)
              · go_wp2
                go_roundg g
                case measure => omega
                case rel =>
                  refine ⟨k + 1, by show _ = _; have := hk.out; omega, by go_num, HX, fun j hj => ?_⟩
                  by_cases e : j = k
                  · subst e; exact HF.out
                  · exact HL.out j (by omega)
            | true =>
              have hqn2 := (HT.out rfl).1
              have HT2 : Hid (∀ i, i < q → ubB (fun i j => leqF n L j i) a b i = true → (fun i j => leqF n L j i) k i = true) := (HT.out rfl).2
              clear HT HN
              by_cases hqn : q < n
              · have hql : (q : Int) < n := by omega
                cases gk with
                | zero => have := hq.out; omega
                | succ g2 =>
                  cases e1 : leqF n L q a
                  · have HV : Hid (ubB (fun i j => leqF n L j i) a b q = true → (fun i j => leqF n L j i) k q = true) := fun h => by unfold ubB at h; simp [e1] at h
                    have T1 : True := trivial
                    go_wp2_with (first
                      | (refine wpList_load_row rfl 45 _ rfl _ rfl _ _ _ _ HX.out.box Tryz.underlying45 rfl HI.out ?_)
                      | (refine wpList_load_row_g 45 _ rfl rfl _ rfl _ _ _ _ HX.out.box Tryz.underlying45 rfl HI.out ?_)
                      | (go_at_call 126; clear T1; refine (leq_c HR.out q a (by omega) (by omega) HX.out).mono ?_; rintro e w2 ⟨rfl, hX2⟩; clear HX; have HX : Hid (CfgAt w.heap.size W0 arr ea L w2) := hX2; clear hX2))
                    go_roundg g2
                    case measure => omega
                    case rel => exact ⟨q + 1, true, by show _ = _; have := hq.out; omega, by go_num, rfl, HX, (fun _ => ⟨by omega, fun i hi hu => by by_cases e : i = q; (· subst e; exact HV.out hu); (· exact HT2.out i (by omega) hu)⟩), (fun h => by cases h)⟩
                  · cases e2 : leqF n L q b
                    · have HV : Hid (ubB (fun i j => leqF n L j i) a b q = true → (fun i j => leqF n L j i) k q = true) := fun h => by unfold ubB at h; simp [e2] at h
                      have T1 : True := trivial
                      have T2 : True := trivial
                      go_wp2_with (first
                        | (refine wpList_load_row rfl 45 _ rfl _ rfl _ _ _ _ HX.out.box Tryz.underlying45 rfl HI.out ?_)
                        | (refine wpList_load_row_g 45 _ rfl rfl _ rfl _ _ _ _ HX.out.box Tryz.underlying45 rfl HI.out ?_)
                        | (go_at_call 126; clear T1; refine (leq_c HR.out q a (by omega) (by omega) HX.out).mono ?_; rintro e w2 ⟨rfl, hX2⟩; clear HX; have HX : Hid (CfgAt w.heap.size W0 arr ea L w2) := hX2; clear hX2)
                        | (go_at_call 126; clear T2; refine (leq_c HR.out q b (by omega) (by omega) HX.out).mono ?_; rintro e w2 ⟨rfl, hX2⟩; clear HX; have HX : Hid (CfgAt w.heap.size W0 arr ea L w2) := hX2; clear hX2))
                      go_roundg g2
                      case measure => omega
                      case rel => exact ⟨q + 1, true, by show _ = _; have := hq.out; omega, by go_num, rfl, HX, (fun _ => ⟨by omega, fun i hi hu => by by_cases e : i = q; (· subst e; exact HV.out hu); (· exact HT2.out i (by omega) hu)⟩), (fun h => by cases h)⟩
                    · cases e3 : leqF n L q k
                      · have HF : Hid (leastB n (fun i j => leqF n L j i) a b k = false) := not_least_of (k := q) hqn (by unfold ubB; simp [e1, e2]) e3
                        have T1 : True := trivial
                        have T2 : True := trivial
                        have T3 : True := trivial
                        go_wp2_with (first
                          | (refine wpList_load_row rfl 45 _ rfl _ rfl _ _ _ _ HX.out.box Tryz.underlying45 rfl HI.out ?_)
                          | (refine wpList_load_row_g 45 _ rfl rfl _ rfl _ _ _ _ HX.out.box Tryz.underlying45 rfl HI.out ?_)
                          | (go_at_call 126; clear T1; refine (leq_c HR.out q a (by omega) (by omega) HX.out).mono ?_; rintro e w2 ⟨rfl, hX2⟩; clear HX; have HX : Hid (CfgAt w.heap.size W0 arr ea L w2) := hX2; clear hX2)
                          | (go_at_call 126; clear T2; refine (leq_c HR.out q b (by omega) (by omega) HX.out).mono ?_; rintro e w2 ⟨rfl, hX2⟩; clear HX; have HX : Hid (CfgAt w.heap.size W0 arr ea L w2) := hX2; clear hX2)
                          | (go_at_call 126; clear T3; refine (leq_c HR.out q k (by omega) (by omega) HX.out).mono ?_; rintro e w2 ⟨rfl, hX2⟩; clear HX; have HX : Hid (CfgAt w.heap.size W0 arr ea L w2) := hX2; clear hX2))
                        go_roundg g2
                        case measure => omega
                        case rel => exact ⟨q + 1, false, by show _ = _; have := hq.out; omega, by go_num, rfl, HX, (fun h => by cases h), (fun _ => HF.out)⟩
                      · have HV : Hid (ubB (fun i j => leqF n L j i) a b q = true → (fun i j => leqF n L j i) k q = true) := fun _ => e3
                        have T1 : True := trivial
                        have T2 : True := trivial
                        have T3 : True := trivial
                        go_wp2_with (first
                          | (refine wpList_load_row rfl 45 _ rfl _ rfl _ _ _ _ HX.out.box Tryz.underlying45 rfl HI.out ?_)
                          | (refine wpList_load_row_g 45 _ rfl rfl _ rfl _ _ _ _ HX.out.box Tryz.underlying45 rfl HI.out ?_)
                          | (go_at_call 126; clear T1; refine (leq_c HR.out q a (by omega) (by omega) HX.out).mono ?_; rintro e w2 ⟨rfl, hX2⟩; clear HX; have HX : Hid (CfgAt w.heap.size W0 arr ea L w2) := hX2; clear hX2)
                          | (go_at_call 126; clear T2; refine (leq_c HR.out q b (by omega) (by omega) HX.out).mono ?_; rintro e w2 ⟨rfl, hX2⟩; clear HX; have HX : Hid (CfgAt w.heap.size W0 arr ea L w2) := hX2; clear hX2)
                          | (go_at_call 126; clear T3; refine (leq_c HR.out q k (by omega) (by omega) HX.out).mono ?_; rintro e w2 ⟨rfl, hX2⟩; clear HX; have HX : Hid (CfgAt w.heap.size W0 arr ea L w2) := hX2; clear hX2))
                        go_roundg g2
                        case measure => omega
                        case rel => exact ⟨q + 1, true, by show _ = _; have := hq.out; omega, by go_num, rfl, HX, (fun _ => ⟨by omega, fun i hi hu => by by_cases e : i = q; (· subst e; exact HV.out hu); (· exact HT2.out i (by omega) hu)⟩), (fun h => by cases h)⟩
              · have hql : ¬ (q : Int) < n := by omega
                have HF : Hid (leastB n (fun i j => leqF n L j i) a b k = true) := least_of HU.out (fun i hi => HT2.out i (by omega))
                go_wp2
                go_ret
                exact ⟨k, rfl, by show _ = _; rw [hasJoin_of (j := k) (by omega) HF.out, decide_eq_false (by omega)]; rfl, HX.out.from_ HB0.out⟩
end Go.Proofs.YtllcbnfmihfaaaaGreatDoor
