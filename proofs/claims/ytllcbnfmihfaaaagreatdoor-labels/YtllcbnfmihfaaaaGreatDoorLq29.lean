import Derived.Test.YtllcbnfmihfaaaaGreatDoorLq28
namespace Go.Proofs.YtllcbnfmihfaaaaGreatDoor
open Go.RowKit Go.Deep

def tiedB (n : Nat) (m : Nat → Nat → Bool) (a b : Nat) : Bool := decide (n = n) && (!(a == b) && m a b && m b a)
def orderedB (n : Nat) (m : Nat → Nat → Bool) : Bool := (List.range n).all fun a => (List.range n).all fun b => !tiedB n m a b
theorem orderedB_no {n : Nat} {m : Nat → Nat → Bool} {a b : Nat} (ha : a < n) (hb : b < n) (h : tiedB n m a b = true) : orderedB n m = false := by
  unfold orderedB
  rw [List.all_eq_false]
  refine ⟨a, List.mem_range.2 ha, ?_⟩
  rw [Bool.not_eq_true, List.all_eq_false]
  exact ⟨b, List.mem_range.2 hb, by rw [h]; decide⟩
theorem orderedB_yes {n : Nat} {m : Nat → Nat → Bool} (h : ∀ a b, a < n → b < n → tiedB n m a b = false) : orderedB n m = true := by
  unfold orderedB
  rw [List.all_eq_true]
  intro a ha
  rw [List.all_eq_true]
  intro b hb
  rw [h a b (List.mem_range.1 ha) (List.mem_range.1 hb)]
  rfl
def boundB (n : Nat) (m : Nat → Nat → Bool) (a b : Nat) : Bool := hasJoinB n m a b && hasJoinB n (fun i j => m j i) a b
def latticeB (n : Nat) (m : Nat → Nat → Bool) : Bool := (List.range n).all fun a => (List.range n).all fun b => boundB n m a b
theorem latticeB_no {n : Nat} {m : Nat → Nat → Bool} {a b : Nat} (ha : a < n) (hb : b < n) (h : boundB n m a b = false) : latticeB n m = false := by
  unfold latticeB
  rw [List.all_eq_false]
  refine ⟨a, List.mem_range.2 ha, ?_⟩
  rw [Bool.not_eq_true, List.all_eq_false]
  exact ⟨b, List.mem_range.2 hb, by rw [h]; decide⟩
theorem latticeB_yes {n : Nat} {m : Nat → Nat → Bool} (h : ∀ a b, a < n → b < n → boundB n m a b = true) : latticeB n m = true := by
  unfold latticeB
  rw [List.all_eq_true]
  intro a ha
  rw [List.all_eq_true]
  intro b hb
  exact h a b (List.mem_range.1 ha) (List.mem_range.1 hb)
theorem join_c {s : Nat} {W0 : World} {arr : Array Value} {n : Nat} {L : List (Int × Int)} {ea : Option Addr} {ecap : Nat} (H : RefOK arr n L ea ecap) (a b : Nat) (ha : a < n) (hb : b < n) {W : World} (h : CfgAt s W0 arr ea L W) :
    Calls Tryz.prog 127 #[.agg arr, .int .i64 a, .int .i64 b] W fun e w' => ∃ r : Int, e = .returned (.int .i64 r) ∧ Hid (decide (r < 0) = !hasJoinB n (leqF n L) a b) ∧ CfgAt s W0 arr ea L w' :=
  (join_any arr n L ea ecap H a b ha hb W h.edges).mono fun _ _ ⟨r, he, hr, hb'⟩ => ⟨r, he, hr, h.step hb'⟩
theorem meet_c {s : Nat} {W0 : World} {arr : Array Value} {n : Nat} {L : List (Int × Int)} {ea : Option Addr} {ecap : Nat} (H : RefOK arr n L ea ecap) (a b : Nat) (ha : a < n) (hb : b < n) {W : World} (h : CfgAt s W0 arr ea L W) :
    Calls Tryz.prog 128 #[.agg arr, .int .i64 a, .int .i64 b] W fun e w' => ∃ r : Int, e = .returned (.int .i64 r) ∧ Hid (decide (r < 0) = !hasJoinB n (fun i j => leqF n L j i) a b) ∧ CfgAt s W0 arr ea L w' :=
  (meet_any arr n L ea ecap H a b ha hb W h.edges).mono fun _ _ ⟨r, he, hr, hb'⟩ => ⟨r, he, hr, h.step hb'⟩

set_option maxRecDepth 100000 in
set_option maxHeartbeats 4000000 in
theorem ordered_any (arr : Array Value) (n : Nat) (L : List (Int × Int)) (ea : Option Addr) (ecap : Nat) (H : RefOK arr n L ea ecap) (w : World) (hA : EdgesAt w ea L) :
    Calls Tryz.prog 77 #[.agg arr] w fun e w' => e = .returned (.bool (orderedB n (leqF n L))) ∧ Below w.heap.size w w' := by
  have f0 := H.cfg.f0
  have hn := H.hn
  have HI : Hid ((Tryz.prog.info? 45).map (·.size) = some arr.size) := infoCfg H.cfg.size
  have HR : Hid (RefOK arr n L ea ecap) := H
  have HX0 : Hid (CfgAt w.heap.size (w.alloc (.cells arr 45)) arr ea L (w.alloc (.cells arr 45))) := cfgAt_mk w arr ea L hA
  have HB0 : Hid (Below w.heap.size w (w.alloc (.cells arr 45))) := (Below.refl _ _).alloc (Nat.le_refl _) _
  clear H hA
  go_enter Tryz.func77, Tryz.ntmps77
  go_wp2
  generalize w.alloc (.cells arr 45) = W0 at *
  go_loopg [3, 4] n (fun g x y wr => ∃ k : Nat, Hid (k + g = n) ∧ x = .int .i64 k ∧ Hid (CfgAt w.heap.size W0 arr ea L wr) ∧ Hid (∀ a b, a < k → b < n → tiedB n (leqF n L) a b = false))
  case atStart => exact ⟨0, by show _ = _; omega, rfl, HX0, fun a b ha => by omega⟩
  case round =>
    clear HX0
    obtain ⟨k, hk, rfl, HX, HL⟩ := hrel
    have hc0 := (HX.out.cell 0).trans f0
    cases gk with
    | zero =>
      have hlt : ¬ (k : Int) < n := by have := hk.out; omega
      go_wp2
      go_ret
      exact ⟨by rw [orderedB_yes (fun a b ha hb => HL.out a b (by have := hk.out; omega) hb)]; rfl, HX.out.from_ HB0.out⟩
    | succ g =>
      have hlt : (k : Int) < n := by have := hk.out; omega
      go_wp2
      go_loopg [4] n (fun g x wr => ∃ q : Nat, Hid (q + g = n) ∧ x = .int .i64 q ∧ Hid (CfgAt w.heap.size W0 arr ea L wr) ∧ Hid (∀ b, b < q → tiedB n (leqF n L) k b = false))
      case atStart => exact ⟨0, by show _ = _; omega, rfl, HX, fun b hb => by omega⟩
      case round =>
        clear HX hc0
        obtain ⟨q, hq, rfl, HX, HQ⟩ := hrel
        have hc0 := (HX.out.cell 0).trans f0
        cases gk with
        | zero =>
          have hql : ¬ (q : Int) < n := by have := hq.out; omega
          go_wp2
          go_roundg g
          case measure => omega
          case rel =>
            refine ⟨k + 1, by show _ = _; have := hk.out; omega, by go_num, HX, fun a b ha hb => ?_⟩
            by_cases e : a = k
            · subst e; exact HQ.out b (by have := hq.out; omega)
            · exact HL.out a b (by omega) hb
        | succ g2 =>
          have hql : (q : Int) < n := by have := hq.out; omega
          by_cases hkq : k = q
          · have HF : Hid (tiedB n (leqF n L) k q = false) := by show _ = _; unfold tiedB; simp [hkq]
            have hne : ((k : Int) == q) = true := beq_iff_eq.2 (by omega)
            have hne2 : ((k : Int) != q) = false := by rw [bne_eq_false_iff_eq]; omega
            clear hkq
            go_wp2
            go_roundg g2
            case measure => omega
            case rel =>
              refine ⟨q + 1, by show _ = _; have := hq.out; omega, by go_num, HX, fun b hb => ?_⟩
              by_cases e : b = q
              · subst e; exact HF.out
              · exact HQ.out b (by omega)
          · have hne : ((k : Int) == q) = false := beq_eq_false_iff_ne.2 (by omega)
            have hne2 : ((k : Int) != q) = true := by rw [bne_iff_ne]; omega
            have HKQ : Hid ((k == q) = false) := beq_eq_false_iff_ne.2 hkq
            clear hkq
            cases e1 : leqF n L k q
            · have HF : Hid (tiedB n (leqF n L) k q = false) := by show _ = _; unfold tiedB; simp [e1]
              have T1 : True := trivial
              go_wp2_with (first
                | (refine wpList_load_row rfl 45 _ rfl _ rfl _ _ _ _ HX.out.box Tryz.underlying45 rfl HI.out ?_)
                | (refine wpList_load_row_g 45 _ rfl rfl _ rfl _ _ _ _ HX.out.box Tryz.underlying45 rfl HI.out ?_)
                | (go_at_call 126; clear T1; refine (leq_c HR.out k q (by omega) (by omega) HX.out).mono ?_; rintro e w2 ⟨rfl, hX2⟩; clear HX; have HX : Hid (CfgAt w.heap.size W0 arr ea L w2) := hX2; clear hX2))
              go_roundg g2
              case measure => omega
              case rel =>
                refine ⟨q + 1, by show _ = _; have := hq.out; omega, by go_num, HX, fun b hb => ?_⟩
                by_cases e : b = q
                · subst e; exact HF.out
                · exact HQ.out b (by omega)
            · cases e2 : leqF n L q k
              · have HF : Hid (tiedB n (leqF n L) k q = false) := by show _ = _; unfold tiedB; simp [e2]
                have T1 : True := trivial
                have T2 : True := trivial
                go_wp2_with (first
                  | (refine wpList_load_row rfl 45 _ rfl _ rfl _ _ _ _ HX.out.box Tryz.underlying45 rfl HI.out ?_)
                  | (refine wpList_load_row_g 45 _ rfl rfl _ rfl _ _ _ _ HX.out.box Tryz.underlying45 rfl HI.out ?_)
                  | (go_at_call 126; clear T1; refine (leq_c HR.out k q (by omega) (by omega) HX.out).mono ?_; rintro e w2 ⟨rfl, hX2⟩; clear HX; have HX : Hid (CfgAt w.heap.size W0 arr ea L w2) := hX2; clear hX2)
                  | (go_at_call 126; clear T2; refine (leq_c HR.out q k (by omega) (by omega) HX.out).mono ?_; rintro e w2 ⟨rfl, hX2⟩; clear HX; have HX : Hid (CfgAt w.heap.size W0 arr ea L w2) := hX2; clear hX2))
                go_roundg g2
                case measure => omega
                case rel =>
                  refine ⟨q + 1, by show _ = _; have := hq.out; omega, by go_num, HX, fun b hb => ?_⟩
                  by_cases e : b = q
                  · subst e; exact HF.out
                  · exact HQ.out b (by omega)
              · have HF : Hid (tiedB n (leqF n L) k q = true) := by show _ = _; unfold tiedB; rw [e1, e2, HKQ.out]; simp
                have T1 : True := trivial
                have T2 : True := trivial
                go_wp2_with (first
                  | (refine wpList_load_row rfl 45 _ rfl _ rfl _ _ _ _ HX.out.box Tryz.underlying45 rfl HI.out ?_)
                  | (refine wpList_load_row_g 45 _ rfl rfl _ rfl _ _ _ _ HX.out.box Tryz.underlying45 rfl HI.out ?_)
                  | (go_at_call 126; clear T1; refine (leq_c HR.out k q (by omega) (by omega) HX.out).mono ?_; rintro e w2 ⟨rfl, hX2⟩; clear HX; have HX : Hid (CfgAt w.heap.size W0 arr ea L w2) := hX2; clear hX2)
                  | (go_at_call 126; clear T2; refine (leq_c HR.out q k (by omega) (by omega) HX.out).mono ?_; rintro e w2 ⟨rfl, hX2⟩; clear HX; have HX : Hid (CfgAt w.heap.size W0 arr ea L w2) := hX2; clear hX2))
                go_ret
                exact ⟨by rw [orderedB_no (a := k) (b := q) (by omega) (by omega) HF.out]; rfl, HX.out.from_ HB0.out⟩

set_option maxRecDepth 100000 in
set_option maxHeartbeats 4000000 in
theorem lattice_any (arr : Array Value) (n : Nat) (L : List (Int × Int)) (ea : Option Addr) (ecap : Nat) (H : RefOK arr n L ea ecap) (w : World) (hA : EdgesAt w ea L) :
    Calls Tryz.prog 78 #[.agg arr] w fun e w' => e = .returned (.bool (latticeB n (leqF n L))) ∧ Below w.heap.size w w' := by
  have f0 := H.cfg.f0
  have hn := H.hn
  have HI : Hid ((Tryz.prog.info? 45).map (·.size) = some arr.size) := infoCfg H.cfg.size
  have HR : Hid (RefOK arr n L ea ecap) := H
  have HX0 : Hid (CfgAt w.heap.size (w.alloc (.cells arr 45)) arr ea L (w.alloc (.cells arr 45))) := cfgAt_mk w arr ea L hA
  have HB0 : Hid (Below w.heap.size w (w.alloc (.cells arr 45))) := (Below.refl _ _).alloc (Nat.le_refl _) _
  clear H hA
  go_enter Tryz.func78, Tryz.ntmps78
  go_wp2
  generalize w.alloc (.cells arr 45) = W0 at *
  go_loopg [3, 4] n (fun g x y wr => ∃ k : Nat, Hid (k + g = n) ∧ x = .int .i64 k ∧ Hid (CfgAt w.heap.size W0 arr ea L wr) ∧ Hid (∀ a b, a < k → b < n → boundB n (leqF n L) a b = true))
  case atStart => exact ⟨0, by show _ = _; omega, rfl, HX0, fun a b ha => by omega⟩
  case round =>
    clear HX0
    obtain ⟨k, hk, rfl, HX, HL⟩ := hrel
    have hc0 := (HX.out.cell 0).trans f0
    cases gk with
    | zero =>
      have hlt : ¬ (k : Int) < n := by have := hk.out; omega
      go_wp2
      go_ret
      exact ⟨by rw [latticeB_yes (fun a b ha hb => HL.out a b (by have := hk.out; omega) hb)]; rfl, HX.out.from_ HB0.out⟩
    | succ g =>
      have hlt : (k : Int) < n := by have := hk.out; omega
      go_wp2
      go_loopg [4] n (fun g x wr => ∃ q : Nat, Hid (q + g = n) ∧ x = .int .i64 q ∧ Hid (CfgAt w.heap.size W0 arr ea L wr) ∧ Hid (∀ b, b < q → boundB n (leqF n L) k b = true))
      case atStart => exact ⟨0, by show _ = _; omega, rfl, HX, fun b hb => by omega⟩
      case round =>
        clear HX hc0
        obtain ⟨q, hq, rfl, HX, HQ⟩ := hrel
        have hc0 := (HX.out.cell 0).trans f0
        cases gk with
        | zero =>
          have hql : ¬ (q : Int) < n := by have := hq.out; omega
          go_wp2
          go_roundg g
          case measure => omega
          case rel =>
            refine ⟨k + 1, by show _ = _; have := hk.out; omega, by go_num, HX, fun a b ha hb => ?_⟩
            by_cases e : a = k
            · subst e; exact HQ.out b (by have := hq.out; omega)
            · exact HL.out a b (by omega) hb
        | succ g2 =>
          have hql : (q : Int) < n := by have := hq.out; omega
          cases e1 : hasJoinB n (leqF n L) k q
          · have HF : Hid (boundB n (leqF n L) k q = false) := by show _ = _; unfold boundB; rw [e1]; rfl
            have HE1 : Hid (hasJoinB n (leqF n L) k q = false) := e1
            clear e1
            have T1 : True := trivial
            go_wp2_with (first
              | (refine wpList_load_row rfl 45 _ rfl _ rfl _ _ _ _ HX.out.box Tryz.underlying45 rfl HI.out ?_)
              | (refine wpList_load_row_g 45 _ rfl rfl _ rfl _ _ _ _ HX.out.box Tryz.underlying45 rfl HI.out ?_)
              | (go_at_call 127; clear T1; refine (join_c HR.out k q (by omega) (by omega) HX.out).mono ?_; rintro e w2 ⟨r, rfl, hr, hX2⟩; clear HX; have HX : Hid (CfgAt w.heap.size W0 arr ea L w2) := hX2; clear hX2; have hneg : decide (r < 0) = true := (by rw [hr.out, HE1.out]; rfl); clear hr))
            go_ret
            exact ⟨by rw [latticeB_no (a := k) (b := q) (by omega) (by omega) HF.out]; rfl, HX.out.from_ HB0.out⟩
          · cases e2 : hasJoinB n (fun i j => leqF n L j i) k q
            · have HF : Hid (boundB n (leqF n L) k q = false) := by show _ = _; unfold boundB; rw [e1, e2]; rfl
              have HE1 : Hid (hasJoinB n (leqF n L) k q = true) := e1
              have HE2 : Hid (hasJoinB n (fun i j => leqF n L j i) k q = false) := e2
              clear e1 e2
              have T1 : True := trivial
              have T2 : True := trivial
              go_wp2_with (first
                | (refine wpList_load_row rfl 45 _ rfl _ rfl _ _ _ _ HX.out.box Tryz.underlying45 rfl HI.out ?_)
                | (refine wpList_load_row_g 45 _ rfl rfl _ rfl _ _ _ _ HX.out.box Tryz.underlying45 rfl HI.out ?_)
                | (go_at_call 127; clear T1; refine (join_c HR.out k q (by omega) (by omega) HX.out).mono ?_; rintro e w2 ⟨r, rfl, hr, hX2⟩; clear HX; have HX : Hid (CfgAt w.heap.size W0 arr ea L w2) := hX2; clear hX2; have hpos : decide (r < 0) = false := (by rw [hr.out, HE1.out]; rfl); clear hr)
                | (go_at_call 128; clear T2; refine (meet_c HR.out k q (by omega) (by omega) HX.out).mono ?_; rintro e w2 ⟨r, rfl, hr, hX2⟩; clear HX; have HX : Hid (CfgAt w.heap.size W0 arr ea L w2) := hX2; clear hX2; have hneg : decide (r < 0) = true := (by rw [hr.out, HE2.out]; rfl); clear hr))
              go_ret
              exact ⟨by rw [latticeB_no (a := k) (b := q) (by omega) (by omega) HF.out]; rfl, HX.out.from_ HB0.out⟩
            · have HF : Hid (boundB n (leqF n L) k q = true) := by show _ = _; unfold boundB; rw [e1, e2]; rfl
              have HE1 : Hid (hasJoinB n (leqF n L) k q = true) := e1
              have HE2 : Hid (hasJoinB n (fun i j => leqF n L j i) k q = true) := e2
              clear e1 e2
              have T1 : True := trivial
              have T2 : True := trivial
              go_wp2_with (first
                | (refine wpList_load_row rfl 45 _ rfl _ rfl _ _ _ _ HX.out.box Tryz.underlying45 rfl HI.out ?_)
                | (refine wpList_load_row_g 45 _ rfl rfl _ rfl _ _ _ _ HX.out.box Tryz.underlying45 rfl HI.out ?_)
                | (go_at_call 127; clear T1; refine (join_c HR.out k q (by omega) (by omega) HX.out).mono ?_; rintro e w2 ⟨r, rfl, hr, hX2⟩; clear HX; have HX : Hid (CfgAt w.heap.size W0 arr ea L w2) := hX2; clear hX2; have hpos : decide (r < 0) = false := (by rw [hr.out, HE1.out]; rfl); clear hr)
                | (go_at_call 128; clear T2; refine (meet_c HR.out k q (by omega) (by omega) HX.out).mono ?_; rintro e w2 ⟨r, rfl, hr, hX2⟩; clear HX; have HX : Hid (CfgAt w.heap.size W0 arr ea L w2) := hX2; clear hX2; have hpos : decide (r < 0) = false := (by rw [hr.out, HE2.out]; rfl); clear hr))
              go_roundg g2
              case measure => omega
              case rel =>
                refine ⟨q + 1, by show _ = _; have := hq.out; omega, by go_num, HX, fun b hb => ?_⟩
                by_cases e : b = q
                · subst e; exact HF.out
                · exact HQ.out b (by omega)
end Go.Proofs.YtllcbnfmihfaaaaGreatDoor
