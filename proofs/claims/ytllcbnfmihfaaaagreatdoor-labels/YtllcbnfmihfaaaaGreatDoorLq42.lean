import Derived.Test.YtllcbnfmihfaaaaGreatDoorLq08
import Derived.Test.YtllcbnfmihfaaaaGreatDoorLq26
namespace Go.Proofs.YtllcbnfmihfaaaaGreatDoor
open Go.RowKit Go.Deep

theorem tkV {P : Program} {ops : Array Oper} {Q : Exit → Act → World → Prop} {md : Region.Mode} {S : World → Prop} {oi : Oper} {fuel : Nat} {listed : Array Bool} {a : Act} {w : World} (i dst : Nat) (hi : ops[i]? = some oi) (hk : (Region.noSelect ops && Region.free md ops listed i && (Region.ready md ops listed).contains i && oi.dst == some dst && !Region.wanted oi (yielded ops a.tmps)) = true)
    (hQ : ∀ c a w, Q (.panic c) (a.put (some dst) undef) w → Q (.panic c) a w) (hS : S w)
    (h : wpAnyH P md ops Q S fuel (listed.setIfInBounds i true) (a.put (some dst) undef) w) : wpAnyH P md ops Q S (fuel + 1) listed a w := by
  simp only [Bool.and_eq_true] at hk
  have hd : oi.dst = some dst := by simpa using hk.1.2
  rw [← hd] at hQ h
  exact wpAnyH_take hi hk.1.1.1.1 hk.1.1.1.2 hk.1.1.2 hQ (.inr ⟨by simpa using hk.2, rfl⟩) hS h
theorem updS_range (S : Nat → Bool) (k m : Nat) (h : k ≤ m) : updS (fun x => S x || (decide (k ≤ x) && decide (x < m))) m = fun x => S x || (decide (k ≤ x) && decide (x < m + 1)) := by
  funext x
  unfold updS
  by_cases hx : x = m
  · subst hx
    rw [if_pos rfl, decide_eq_true h, decide_eq_true (Nat.lt_succ_self x)]
    simp
  · rw [if_neg hx]
    have e : decide (x < m) = decide (x < m + 1) := decide_eq_decide.2 (by omega)
    show (S x || (decide (k ≤ x) && decide (x < m))) = _
    rw [e]
theorem tkJ_at {s : List UInt8} {ps : List (List UInt8 × Bool)} {j : Nat} (h : j < ps.length) : tkJ s ps j = tkS (sgS s) (ps[j].1, ps[j].2) := by
  unfold tkJ
  rw [List.getElem?_eq_getElem h]
theorem tkJ_out {s : List UInt8} {ps : List (List UInt8 × Bool)} {j : Nat} (h : ps.length ≤ j) : tkJ s ps j = false := by
  unfold tkJ
  rw [List.getElem?_eq_none h]
theorem rch_take (ss : List (List UInt8)) (ps : List (List UInt8 × Bool)) (i : Nat) (h : i < ss.length) (f : Nat → Bool) : rch ((ss.take (i + 1)).map sgS) ps f = rcS (sgS ss[i]) ps (rch ((ss.take i).map sgS) ps f) := by
  rw [List.take_succ_eq_append_getElem h, List.map_append]
  exact rch_snoc _ _ _ _
set_option maxRecDepth 100000 in
set_option maxHeartbeats 4000000 in
theorem matches_any (w : World) (sa pa : Option Addr) (sc pc : Nat) (ss : List (List UInt8)) (ps : List (List UInt8 × Bool)) (hS : TxsAt w sa ss) (hP : PthAt w pa ps) (hn : ps.length ≤ 4096) (hs : ss.length ≤ 1000) :
    Calls Tryz.prog 196 #[.slice sa ss.length sc, .slice pa ps.length pc] w fun e w' => e = .returned (.bool (mtch (ss.map sgS) ps)) ∧ Below w.heap.size w w' := by
  have HS : Hid (TxsAt w sa ss) := hS
  have HP : Hid (PthAt w pa ps) := hP
  have hmk := mk_bools ps.length hn
  clear hS hP
  have HM0 : Hid (MyAt w w.heap.size (ps.length + 1) (fun k => k == 0) (w.alloc (.cells ((boolArr (ps.length + 1) fun _ => false).setIfInBounds 0 (.bool true)) 4))) := by
    refine ⟨(Below.refl _ _).alloc (Nat.le_refl _) _, Nat.le_refl _, ?_⟩
    rw [heap_new, boolArr_set]
    rw [boolArr_ext (ps.length + 1) (T := fun k => k == 0) (fun x _ => by unfold updS; by_cases h : x = 0 <;> simp [h])]
  have hb0 := boolArr_at (ps.length + 1) (fun _ => false) 0 (by omega)
  go_enter Tryz.func196, Tryz.ntmps196
  go_wp2
  clear hb0
  go_loopg [5, 6] ss.length (fun g y x V => ∃ (i b : Nat), y = .slice (some ⟨b, 0, none⟩) (ps.length + 1) (ps.length + 1) ∧ x = .int .i64 i ∧ Hid (i + g = ss.length) ∧ Hid (MyAt w b (ps.length + 1) (rch ((ss.take i).map sgS) ps (fun k => k == 0)) V))
  case atStart => exact ⟨0, w.heap.size, rfl, rfl, by show _ = _; omega, HM0⟩
  case round =>
    clear HM0
    obtain ⟨i, b, rfl, rfl, hg, HM⟩ := hrel
    cases gk with
    | zero =>
      have hlt : ¬ (i : Int) < (ss.length : Int) := by have := hg.out; omega
      have hcb := (cellOfHeap HM.out.re ps.length).trans (boolArr_at _ _ _ (by omega))
      have HF : Hid (mtch (ss.map sgS) ps = rch ((ss.take i).map sgS) ps (fun k => k == 0) ps.length) := by
        show _ = _
        rw [List.take_of_length_le (by have := hg.out; omega)]
        rfl
      have HB : Hid (Below w.heap.size w wr) := HM.out.below
      clear HM
      generalize rch ((ss.take i).map sgS) ps (fun k => k == 0) ps.length = v0 at hcb HF
      go_wp2
      go_ret
      rw [HF.out]
      exact ⟨rfl, HB.out⟩
    | succ g =>
      have hil : i < ss.length := by have := hg.out; omega
      have hlt : (i : Int) < (ss.length : Int) := by omega
      have HR1 : Hid (rch ((ss.take (i + 1)).map sgS) ps (fun k => k == 0) = rcS (sgS ss[i]) ps (rch ((ss.take i).map sgS) ps (fun k => k == 0))) := rch_take ss ps i hil _
      have HX0 : Hid (MxAt w b wr.heap.size (ps.length + 1) (rch ((ss.take i).map sgS) ps (fun k => k == 0)) (fun _ => false) (wr.alloc (.cells (boolArr (ps.length + 1) fun _ => false) 4))) := HM.out.made
      generalize rch ((ss.take i).map sgS) ps (fun k => k == 0) = f at *
      clear HM
      go_wp2
      generalize wr.alloc (.cells (boolArr (ps.length + 1) fun _ => false) 4) = V0 at *
      generalize wr.heap.size = c at *
      have HSI : Hid (∃ sb so, sa = some ⟨sb, so, none⟩ ∧ sb < w.heap.size ∧ w.cell? ⟨sb, so + i, none⟩ = some (.string ⟨ss[i].toArray⟩)) := HS.out.at_ i hil
      obtain ⟨sb, so, rfl, hsb, cS⟩ := HSI.out
      clear HSI
      generalize ss[i] = s at *
      go_loopg [8] (ps.length + 1) (fun g2 z V => ∃ k : Nat, z = .int .i64 k ∧ Hid (k + g2 = ps.length + 1) ∧ Hid (MxAt w b c (ps.length + 1) f (nxG s ps f k) V))
      case atStart => exact ⟨0, rfl, by show _ = _; omega, HX0⟩
      case round =>
        clear HX0
        obtain ⟨k, rfl, hg2, HX⟩ := hrel
        cases gk with
        | zero =>
          have hlt2 : ¬ (k : Int) ≤ (ps.length : Int) := by have := hg2.out; omega
          have HY : Hid (MyAt w c (ps.length + 1) (rch ((ss.take (i + 1)).map sgS) ps (fun k => k == 0)) wr) := by
            have hk : k = ps.length + 1 := by have := hg2.out; omega
            subst hk
            rw [HR1.out]
            exact ⟨HX.out.below, HX.out.lo.2, by rw [← boolArr_ext (ps.length + 1) (fun x hx => nxG_done s ps f x (by omega))]; exact HX.out.nx⟩
          clear HX
          go_wp2
          go_roundg g
          case measure => omega
          case rel => exact ⟨i + 1, c, rfl, by go_num, by show _ = _; have := hg.out; omega, HY⟩
        | succ g2 =>
          have hkn : k < ps.length + 1 := by have := hg2.out; omega
          have hle2 : (k : Int) ≤ (ps.length : Int) := by omega
          have HN : Hid (∀ x, nxG s ps f (k + 1) x = (nxG s ps f k x || (f k && ((s == [42, 42] && decide (k ≤ x)) || (decide (x = k + 1) && tkJ s ps k))))) := fun x => nxG_succ s ps f k x
          have cf := HX.out.fr k hkn
          have cs : wr.cell? ⟨sb, so + i, none⟩ = some (.string ⟨s.toArray⟩) := (HX.out.below.cell (p := ⟨sb, so + i, none⟩) hsb).trans cS
          cases hf : f k with
          | false =>
            rw [hf] at cf
            have HX1 : Hid (MxAt w b c (ps.length + 1) f (nxG s ps f (k + 1)) wr) := HX.out.same fun x _ => by rw [HN.out x, hf]; simp
            clear HX HN
            go_wp2
            have hS : (fun Z : World => MxAt w b c (ps.length + 1) f (nxG s ps f (k + 1)) Z) { wr with drawn := wr.drawn + 1 } := HX1.out.next (Below.refl _ _).drew
            refine wp_region_held (S := fun Z => MxAt w b c (ps.length + 1) f (nxG s ps f (k + 1)) Z) (by kernel_rfl) ?_
            refine tkH 0 53 (.slice (some ⟨b, 0, none⟩) (ps.length + 1) (ps.length + 1)) rfl (by kernel_rfl) (fun _ _ _ h => h) (fun Z hZ => by kernel_rfl) hS ?_
            refine tkH 1 54 (.int .i64 k) rfl (by kernel_rfl) (fun _ _ _ h => h) (fun Z hZ => by kernel_rfl) hS ?_
            refine tkH 2 55 (.pointer (some ⟨b, k, none⟩)) rfl (by kernel_rfl) (fun _ _ _ h => h) (fun Z hZ => ?y2) hS ?_
            case y2 => (go_simp; intro hh; omega)
            refine tkH 3 56 (.bool false) rfl (by kernel_rfl) (fun _ _ _ h => h) (fun Z hZ => ?y3) hS ?_
            case y3 => (have z1 := hZ.fr k hkn; rw [hf] at z1; go_simp)
            refine tkH 4 57 (.bool false) rfl (by kernel_rfl) (fun _ _ _ h => h) (fun Z hZ => by kernel_rfl) hS ?_
            refine tkV 5 58 rfl (by kernel_rfl) (fun _ _ _ h => h) hS ?_
            refine tkV 6 59 rfl (by kernel_rfl) (fun _ _ _ h => h) hS ?_
            refine tkV 7 60 rfl (by kernel_rfl) (fun _ _ _ h => h) hS ?_
            refine tkV 8 61 rfl (by kernel_rfl) (fun _ _ _ h => h) hS ?_
            refine tkH 9 62 (.bool false) rfl (by kernel_rfl) (fun _ _ _ h => h) (fun Z hZ => by kernel_rfl) hS ?_
            refine tkH 10 63 (.bool false) rfl (by kernel_rfl) (fun _ _ _ h => h) (fun Z hZ => by kernel_rfl) hS ?_
            refine tkV 11 64 rfl (by kernel_rfl) (fun _ _ _ h => h) hS ?_
            refine tkV 12 65 rfl (by kernel_rfl) (fun _ _ _ h => h) hS ?_
            refine tkV 13 66 rfl (by kernel_rfl) (fun _ _ _ h => h) hS ?_
            refine tkV 14 67 rfl (by kernel_rfl) (fun _ _ _ h => h) hS ?_
            refine tkV 15 68 rfl (by kernel_rfl) (fun _ _ _ h => h) hS ?_
            refine tkV 16 69 rfl (by kernel_rfl) (fun _ _ _ h => h) hS ?_
            refine tkV 17 70 rfl (by kernel_rfl) (fun _ _ _ h => h) hS ?_
            refine tkV 18 71 rfl (by kernel_rfl) (fun _ _ _ h => h) hS ?_
            refine tkV 19 72 rfl (by kernel_rfl) (fun _ _ _ h => h) hS ?_
            refine tkH 20 73 (.bool false) rfl (by kernel_rfl) (fun _ _ _ h => h) (fun Z hZ => by kernel_rfl) hS ?_
            refine wpAnyH_done (by kernel_rfl) ?_ _
            go_simp
            have HX2 : Hid (MxAt w b c (ps.length + 1) f (nxG s ps f (k + 1)) wr.drew) := HX1.out.next (Below.refl _ _).drew
            go_wp2
            go_roundg g2
            case measure => omega
            case rel => exact ⟨k + 1, by go_num, by show _ = _; have := hg2.out; omega, HX2⟩
          | true =>
            rw [hf] at cf
            cases hst : (s == [42, 42]) with
            | true =>
              have HN1 : Hid (∀ x, nxG s ps f (k + 1) x = (nxG s ps f k x || decide (k ≤ x))) := by
                intro x
                have ht : tkJ s ps k = false := by
                  unfold tkJ
                  split
                  · unfold tkS
                    rw [if_neg (by have := (sg_star s).2 hst; omega), if_pos ((sg_star s).2 hst)]
                  · rfl
                rw [HN.out x, hf, hst, ht]
                simp
              clear HN
              generalize nxG s ps f k = G at *
              go_wp2
              go_loopg [9] (ps.length + 1 - k) (fun g3 z V => ∃ m : Nat, z = .int .i64 m ∧ Hid (m + g3 = ps.length + 1 ∧ k ≤ m) ∧ Hid (MxAt w b c (ps.length + 1) f (fun x => G x || (decide (k ≤ x) && decide (x < m))) V))
              case atStart => exact ⟨k, rfl, ⟨by omega, Nat.le_refl _⟩, HX.out.same fun x _ => by by_cases h1 : k ≤ x <;> by_cases h2 : x < k <;> simp [h1, h2]; omega⟩
              case round =>
                clear HX cf cs
                obtain ⟨m, rfl, hg3, HX3⟩ := hrel
                cases gk with
                | zero =>
                  have hlt3 : ¬ (m : Int) ≤ (ps.length : Int) := by have := hg3.out.1; omega
                  have HX4 : Hid (MxAt w b c (ps.length + 1) f (nxG s ps f (k + 1)) wr) := HX3.out.same fun x hx => by
                    have e : decide (x < m) = true := decide_eq_true (by have := hg3.out.1; omega)
                    rw [HN1.out x, e, Bool.and_true]
                  have cf3 := HX3.out.fr k hkn
                  rw [hf] at cf3
                  have cs3 : wr.cell? ⟨sb, so + i, none⟩ = some (.string ⟨s.toArray⟩) := (HX3.out.below.cell (p := ⟨sb, so + i, none⟩) hsb).trans cS
                  clear HX3
                  by_cases hkl : k < ps.length
                  · have hkli : (k : Int) < (ps.length : Int) := by omega
                    obtain ⟨b2, off2, rfl, hb2, p0, p1⟩ := HP.out.at_ k hkl
                    have P0 : Hid (w.cell? ⟨b2, off2 + k * 2, none⟩ = some (.string ⟨ps[k].1.toArray⟩)) := p0
                    have P1 : Hid (w.cell? ⟨b2, off2 + k * 2 + 1, none⟩ = some (.bool ps[k].2)) := p1
                    clear p0 p1
                    have cT := fun V => takes_any s ps[k].1 ps[k].2 V
                    have ht : tkS (sgS s) (ps[k].1, ps[k].2) = false := by
                      unfold tkS
                      rw [if_neg (by have := (sg_star s).2 hst; omega), if_pos ((sg_star s).2 hst)]
                    rw [ht] at cT
                    clear ht
                    generalize ps[k] = t at *
                    obtain ⟨key, ix⟩ := t
                    have p0 := P0.out
                    have p1 := P1.out
                    clear P0 P1
                    go_wp2
                    have hS : (fun Z : World => MxAt w b c (ps.length + 1) f (nxG s ps f (k + 1)) Z) { wr with drawn := wr.drawn + 1 } := HX4.out.next (Below.refl _ _).drew
                    refine wp_region_held (S := fun Z => MxAt w b c (ps.length + 1) f (nxG s ps f (k + 1)) Z) (by kernel_rfl) ?_
                    refine tkH 0 53 (.slice (some ⟨b, 0, none⟩) (ps.length + 1) (ps.length + 1)) rfl (by kernel_rfl) (fun _ _ _ h => h) (fun Z hZ => by kernel_rfl) hS ?_
                    refine tkH 1 54 (.int .i64 k) rfl (by kernel_rfl) (fun _ _ _ h => h) (fun Z hZ => by kernel_rfl) hS ?_
                    refine tkH 2 55 (.pointer (some ⟨b, k, none⟩)) rfl (by kernel_rfl) (fun _ _ _ h => h) (fun Z hZ => ?y2) hS ?_
                    case y2 => (go_simp; intro hh; omega)
                    refine tkH 3 56 (.bool true) rfl (by kernel_rfl) (fun _ _ _ h => h) (fun Z hZ => ?y3) hS ?_
                    case y3 => (have z1 := hZ.fr k hkn; rw [hf] at z1; go_simp)
                    refine tkH 4 57 (.bool true) rfl (by kernel_rfl) (fun _ _ _ h => h) (fun Z hZ => by kernel_rfl) hS ?_
                    refine tkH 5 58 (.int .i64 k) rfl (by kernel_rfl) (fun _ _ _ h => h) (fun Z hZ => by kernel_rfl) hS ?_
                    refine tkH 6 59 (.slice (some ⟨b2, off2, none⟩) ps.length pc) rfl (by kernel_rfl) (fun _ _ _ h => h) (fun Z hZ => by kernel_rfl) hS ?_
                    refine tkH 7 60 (.int .i64 ps.length) rfl (by kernel_rfl) (fun _ _ _ h => h) (fun Z hZ => by kernel_rfl) hS ?_
                    refine tkH 8 61 (.bool true) rfl (by kernel_rfl) (fun _ _ _ h => h) (fun Z hZ => ?y8) hS ?_
                    case y8 => (go_simp)
                    refine tkH 9 62 (.bool true) rfl (by kernel_rfl) (fun _ _ _ h => h) (fun Z hZ => by kernel_rfl) hS ?_
                    refine tkH 10 63 (.bool true) rfl (by kernel_rfl) (fun _ _ _ h => h) (fun Z hZ => by kernel_rfl) hS ?_
                    refine tkH 11 64 (.slice (some ⟨sb, so, none⟩) ss.length sc) rfl (by kernel_rfl) (fun _ _ _ h => h) (fun Z hZ => by kernel_rfl) hS ?_
                    refine tkH 12 65 (.int .i64 i) rfl (by kernel_rfl) (fun _ _ _ h => h) (fun Z hZ => by kernel_rfl) hS ?_
                    refine tkH 13 66 (.pointer (some ⟨sb, so + i, none⟩)) rfl (by kernel_rfl) (fun _ _ _ h => h) (fun Z hZ => ?y13) hS ?_
                    case y13 => (go_simp)
                    refine tkH 14 67 (.string ⟨s.toArray⟩) rfl (by kernel_rfl) (fun _ _ _ h => h) (fun Z hZ => ?y14) hS ?_
                    case y14 => (have z1 := (hZ.below.cell (p := ⟨sb, so + i, none⟩) hsb).trans cS; go_simp)
                    refine tkH 15 68 (.slice (some ⟨b2, off2, none⟩) ps.length pc) rfl (by kernel_rfl) (fun _ _ _ h => h) (fun Z hZ => by kernel_rfl) hS ?_
                    refine tkH 16 69 (.int .i64 k) rfl (by kernel_rfl) (fun _ _ _ h => h) (fun Z hZ => by kernel_rfl) hS ?_
                    refine tkH 17 70 (.pointer (some ⟨b2, off2 + k * 2, none⟩)) rfl (by kernel_rfl) (fun _ _ _ h => h) (fun Z hZ => ?y17) hS ?_
                    case y17 => (go_simp)
                    refine tkH 18 71 (.agg #[.string ⟨key.toArray⟩, .bool ix]) rfl (by kernel_rfl) (fun _ _ _ h => h) (fun Z hZ => ?y18) hS ?_
                    case y18 => (have z1 := (hZ.below.cell (p := ⟨b2, off2 + k * 2, none⟩) hb2).trans p0; have z2 := (hZ.below.cell (p := ⟨b2, off2 + k * 2 + 1, none⟩) hb2).trans p1; go_simp)
                    refine rdS 19 rfl (by kernel_rfl) (fun K hK => ?_)
                    go_simp
                    refine (cT _).mono ?_
                    clear cT
                    rintro e w2 ⟨rfl, hB2⟩
                    have HX5 : Hid (MxAt w b c (ps.length + 1) f (nxG s ps f (k + 1)) w2) := (HX4.out.next (Below.refl _ _).drew).next hB2
                    refine hK.out _ _ HX5.out (fun _ => ?_)
                    clear hK hB2 hS
                    have hS := HX5.out
                    refine tkH 20 73 (.bool false) rfl (by kernel_rfl) (fun _ _ _ h => h) (fun Z hZ => by kernel_rfl) hS ?_
                    refine wpAnyH_done (by kernel_rfl) ?_ _
                    go_simp
                    go_wp2
                    go_roundg g2
                    case measure => omega
                    case rel => exact ⟨k + 1, by go_num, by show _ = _; have := hg2.out; omega, HX5⟩
                  · have hkli : ¬ (k : Int) < (ps.length : Int) := by omega
                    go_wp2
                    have hS : (fun Z : World => MxAt w b c (ps.length + 1) f (nxG s ps f (k + 1)) Z) { wr with drawn := wr.drawn + 1 } := HX4.out.next (Below.refl _ _).drew
                    refine wp_region_held (S := fun Z => MxAt w b c (ps.length + 1) f (nxG s ps f (k + 1)) Z) (by kernel_rfl) ?_
                    refine tkH 0 53 (.slice (some ⟨b, 0, none⟩) (ps.length + 1) (ps.length + 1)) rfl (by kernel_rfl) (fun _ _ _ h => h) (fun Z hZ => by kernel_rfl) hS ?_
                    refine tkH 1 54 (.int .i64 k) rfl (by kernel_rfl) (fun _ _ _ h => h) (fun Z hZ => by kernel_rfl) hS ?_
                    refine tkH 2 55 (.pointer (some ⟨b, k, none⟩)) rfl (by kernel_rfl) (fun _ _ _ h => h) (fun Z hZ => ?y2) hS ?_
                    case y2 => (go_simp; intro hh; omega)
                    refine tkH 3 56 (.bool true) rfl (by kernel_rfl) (fun _ _ _ h => h) (fun Z hZ => ?y3) hS ?_
                    case y3 => (have z1 := hZ.fr k hkn; rw [hf] at z1; go_simp)
                    refine tkH 4 57 (.bool true) rfl (by kernel_rfl) (fun _ _ _ h => h) (fun Z hZ => by kernel_rfl) hS ?_
                    refine tkH 5 58 (.int .i64 k) rfl (by kernel_rfl) (fun _ _ _ h => h) (fun Z hZ => by kernel_rfl) hS ?_
                    refine tkH 6 59 (.slice pa ps.length pc) rfl (by kernel_rfl) (fun _ _ _ h => h) (fun Z hZ => by kernel_rfl) hS ?_
                    refine tkH 7 60 (.int .i64 ps.length) rfl (by kernel_rfl) (fun _ _ _ h => h) (fun Z hZ => by kernel_rfl) hS ?_
                    refine tkH 8 61 (.bool false) rfl (by kernel_rfl) (fun _ _ _ h => h) (fun Z hZ => ?y8) hS ?_
                    case y8 => (go_simp)
                    refine tkH 9 62 (.bool false) rfl (by kernel_rfl) (fun _ _ _ h => h) (fun Z hZ => by kernel_rfl) hS ?_
                    refine tkH 10 63 (.bool false) rfl (by kernel_rfl) (fun _ _ _ h => h) (fun Z hZ => by kernel_rfl) hS ?_
                    refine tkV 11 64 rfl (by kernel_rfl) (fun _ _ _ h => h) hS ?_
                    refine tkV 12 65 rfl (by kernel_rfl) (fun _ _ _ h => h) hS ?_
                    refine tkV 13 66 rfl (by kernel_rfl) (fun _ _ _ h => h) hS ?_
                    refine tkV 14 67 rfl (by kernel_rfl) (fun _ _ _ h => h) hS ?_
                    refine tkV 15 68 rfl (by kernel_rfl) (fun _ _ _ h => h) hS ?_
                    refine tkV 16 69 rfl (by kernel_rfl) (fun _ _ _ h => h) hS ?_
                    refine tkV 17 70 rfl (by kernel_rfl) (fun _ _ _ h => h) hS ?_
                    refine tkV 18 71 rfl (by kernel_rfl) (fun _ _ _ h => h) hS ?_
                    refine tkV 19 72 rfl (by kernel_rfl) (fun _ _ _ h => h) hS ?_
                    refine tkH 20 73 (.bool false) rfl (by kernel_rfl) (fun _ _ _ h => h) (fun Z hZ => by kernel_rfl) hS ?_
                    refine wpAnyH_done (by kernel_rfl) ?_ _
                    go_simp
                    have HX5 : Hid (MxAt w b c (ps.length + 1) f (nxG s ps f (k + 1)) wr.drew) := HX4.out.next (Below.refl _ _).drew
                    go_wp2
                    go_roundg g2
                    case measure => omega
                    case rel => exact ⟨k + 1, by go_num, by show _ = _; have := hg2.out; omega, HX5⟩
                | succ g3 =>
                  have hle3 : (m : Int) ≤ (ps.length : Int) := by have := hg3.out.1; omega
                  obtain ⟨cg, fg⟩ := HX3.out.gr m (by have := hg3.out.1; omega)
                  have HX4 : Hid (MxAt w b c (ps.length + 1) f (fun x => G x || (decide (k ≤ x) && decide (x < m + 1))) (wr.setCell ⟨c, m, none⟩ (.bool true))) := by
                    have h := HX3.out.set m
                    rw [updS_range G k m hg3.out.2] at h
                    exact h
                  generalize (G m || (decide (k ≤ m) && decide (m < m))) = v0 at cg
                  clear HX3
                  go_wp2
                  go_roundg g3
                  case measure => omega
                  case rel => exact ⟨m + 1, by go_num, ⟨by have := hg3.out.1; omega, by have := hg3.out.2; omega⟩, HX4⟩
            | false =>
              have HN1 : Hid (∀ x, nxG s ps f (k + 1) x = (nxG s ps f k x || (decide (x = k + 1) && tkJ s ps k))) := by
                intro x
                rw [HN.out x, hf, hst]
                simp
              clear HN
              by_cases hkl : k < ps.length
              · have hkli : (k : Int) < (ps.length : Int) := by omega
                obtain ⟨b2, off2, rfl, hb2, p0, p1⟩ := HP.out.at_ k hkl
                have cT := fun V => takes_any s ps[k].1 ps[k].2 V
                have HT : Hid (tkJ s ps k = tkS (sgS s) (ps[k].1, ps[k].2)) := tkJ_at hkl
                generalize ps[k] = t at *
                obtain ⟨key, ix⟩ := t
                dsimp only at cT HT p0 p1
                cases htk : tkS (sgS s) (key, ix) with
                | false =>
                  rw [htk] at cT
                  have HX1 : Hid (MxAt w b c (ps.length + 1) f (nxG s ps f (k + 1)) wr) := HX.out.same fun x _ => by rw [HN1.out x, HT.out, htk]; simp
                  clear HX HN1 HT htk
                  go_wp2
                  have hS : (fun Z : World => MxAt w b c (ps.length + 1) f (nxG s ps f (k + 1)) Z) { wr with drawn := wr.drawn + 1 } := HX1.out.next (Below.refl _ _).drew
                  refine wp_region_held (S := fun Z => MxAt w b c (ps.length + 1) f (nxG s ps f (k + 1)) Z) (by kernel_rfl) ?_
                  refine tkH 0 53 (.slice (some ⟨b, 0, none⟩) (ps.length + 1) (ps.length + 1)) rfl (by kernel_rfl) (fun _ _ _ h => h) (fun Z hZ => by kernel_rfl) hS ?_
                  refine tkH 1 54 (.int .i64 k) rfl (by kernel_rfl) (fun _ _ _ h => h) (fun Z hZ => by kernel_rfl) hS ?_
                  refine tkH 2 55 (.pointer (some ⟨b, k, none⟩)) rfl (by kernel_rfl) (fun _ _ _ h => h) (fun Z hZ => ?y2) hS ?_
                  case y2 => (go_simp; intro hh; omega)
                  refine tkH 3 56 (.bool true) rfl (by kernel_rfl) (fun _ _ _ h => h) (fun Z hZ => ?y3) hS ?_
                  case y3 => (have z1 := hZ.fr k hkn; rw [hf] at z1; go_simp)
                  refine tkH 4 57 (.bool true) rfl (by kernel_rfl) (fun _ _ _ h => h) (fun Z hZ => by kernel_rfl) hS ?_
                  refine tkH 5 58 (.int .i64 k) rfl (by kernel_rfl) (fun _ _ _ h => h) (fun Z hZ => by kernel_rfl) hS ?_
                  refine tkH 6 59 (.slice (some ⟨b2, off2, none⟩) ps.length pc) rfl (by kernel_rfl) (fun _ _ _ h => h) (fun Z hZ => by kernel_rfl) hS ?_
                  refine tkH 7 60 (.int .i64 ps.length) rfl (by kernel_rfl) (fun _ _ _ h => h) (fun Z hZ => by kernel_rfl) hS ?_
                  refine tkH 8 61 (.bool true) rfl (by kernel_rfl) (fun _ _ _ h => h) (fun Z hZ => ?y8) hS ?_
                  case y8 => (go_simp)
                  refine tkH 9 62 (.bool true) rfl (by kernel_rfl) (fun _ _ _ h => h) (fun Z hZ => by kernel_rfl) hS ?_
                  refine tkH 10 63 (.bool true) rfl (by kernel_rfl) (fun _ _ _ h => h) (fun Z hZ => by kernel_rfl) hS ?_
                  refine tkH 11 64 (.slice (some ⟨sb, so, none⟩) ss.length sc) rfl (by kernel_rfl) (fun _ _ _ h => h) (fun Z hZ => by kernel_rfl) hS ?_
                  refine tkH 12 65 (.int .i64 i) rfl (by kernel_rfl) (fun _ _ _ h => h) (fun Z hZ => by kernel_rfl) hS ?_
                  refine tkH 13 66 (.pointer (some ⟨sb, so + i, none⟩)) rfl (by kernel_rfl) (fun _ _ _ h => h) (fun Z hZ => ?y13) hS ?_
                  case y13 => (go_simp)
                  refine tkH 14 67 (.string ⟨s.toArray⟩) rfl (by kernel_rfl) (fun _ _ _ h => h) (fun Z hZ => ?y14) hS ?_
                  case y14 => (have z1 := (hZ.below.cell (p := ⟨sb, so + i, none⟩) hsb).trans cS; go_simp)
                  refine tkH 15 68 (.slice (some ⟨b2, off2, none⟩) ps.length pc) rfl (by kernel_rfl) (fun _ _ _ h => h) (fun Z hZ => by kernel_rfl) hS ?_
                  refine tkH 16 69 (.int .i64 k) rfl (by kernel_rfl) (fun _ _ _ h => h) (fun Z hZ => by kernel_rfl) hS ?_
                  refine tkH 17 70 (.pointer (some ⟨b2, off2 + k * 2, none⟩)) rfl (by kernel_rfl) (fun _ _ _ h => h) (fun Z hZ => ?y17) hS ?_
                  case y17 => (go_simp)
                  refine tkH 18 71 (.agg #[.string ⟨key.toArray⟩, .bool ix]) rfl (by kernel_rfl) (fun _ _ _ h => h) (fun Z hZ => ?y18) hS ?_
                  case y18 => (have z1 := (hZ.below.cell (p := ⟨b2, off2 + k * 2, none⟩) hb2).trans p0; have z2 := (hZ.below.cell (p := ⟨b2, off2 + k * 2 + 1, none⟩) hb2).trans p1; go_simp)
                  refine rdS 19 rfl (by kernel_rfl) (fun K hK => ?_)
                  go_simp
                  refine (cT _).mono ?_
                  clear cT
                  rintro e w2 ⟨rfl, hB2⟩
                  have HX5 : Hid (MxAt w b c (ps.length + 1) f (nxG s ps f (k + 1)) w2) := (HX1.out.next (Below.refl _ _).drew).next hB2
                  refine hK.out _ _ HX5.out (fun _ => ?_)
                  clear hK hB2 hS
                  have hS := HX5.out
                  refine tkH 20 73 (.bool false) rfl (by kernel_rfl) (fun _ _ _ h => h) (fun Z hZ => by kernel_rfl) hS ?_
                  refine wpAnyH_done (by kernel_rfl) ?_ _
                  go_simp
                  go_wp2
                  go_roundg g2
                  case measure => omega
                  case rel => exact ⟨k + 1, by go_num, by show _ = _; have := hg2.out; omega, HX5⟩
                | true =>
                  rw [htk] at cT
                  have HN2 : Hid (∀ x, updS (nxG s ps f k) (k + 1) x = nxG s ps f (k + 1) x) := by
                    intro x
                    rw [HN1.out x, HT.out, htk]
                    unfold updS
                    by_cases hx : x = k + 1 <;> simp [hx]
                  clear HN1 HT htk
                  go_wp2
                  have hS : (fun Z : World => MxAt w b c (ps.length + 1) f (nxG s ps f k) Z) { wr with drawn := wr.drawn + 1 } := HX.out.next (Below.refl _ _).drew
                  refine wp_region_held (S := fun Z => MxAt w b c (ps.length + 1) f (nxG s ps f k) Z) (by kernel_rfl) ?_
                  refine tkH 0 53 (.slice (some ⟨b, 0, none⟩) (ps.length + 1) (ps.length + 1)) rfl (by kernel_rfl) (fun _ _ _ h => h) (fun Z hZ => by kernel_rfl) hS ?_
                  refine tkH 1 54 (.int .i64 k) rfl (by kernel_rfl) (fun _ _ _ h => h) (fun Z hZ => by kernel_rfl) hS ?_
                  refine tkH 2 55 (.pointer (some ⟨b, k, none⟩)) rfl (by kernel_rfl) (fun _ _ _ h => h) (fun Z hZ => ?y2) hS ?_
                  case y2 => (go_simp; intro hh; omega)
                  refine tkH 3 56 (.bool true) rfl (by kernel_rfl) (fun _ _ _ h => h) (fun Z hZ => ?y3) hS ?_
                  case y3 => (have z1 := hZ.fr k hkn; rw [hf] at z1; go_simp)
                  refine tkH 4 57 (.bool true) rfl (by kernel_rfl) (fun _ _ _ h => h) (fun Z hZ => by kernel_rfl) hS ?_
                  refine tkH 5 58 (.int .i64 k) rfl (by kernel_rfl) (fun _ _ _ h => h) (fun Z hZ => by kernel_rfl) hS ?_
                  refine tkH 6 59 (.slice (some ⟨b2, off2, none⟩) ps.length pc) rfl (by kernel_rfl) (fun _ _ _ h => h) (fun Z hZ => by kernel_rfl) hS ?_
                  refine tkH 7 60 (.int .i64 ps.length) rfl (by kernel_rfl) (fun _ _ _ h => h) (fun Z hZ => by kernel_rfl) hS ?_
                  refine tkH 8 61 (.bool true) rfl (by kernel_rfl) (fun _ _ _ h => h) (fun Z hZ => ?y8) hS ?_
                  case y8 => (go_simp)
                  refine tkH 9 62 (.bool true) rfl (by kernel_rfl) (fun _ _ _ h => h) (fun Z hZ => by kernel_rfl) hS ?_
                  refine tkH 10 63 (.bool true) rfl (by kernel_rfl) (fun _ _ _ h => h) (fun Z hZ => by kernel_rfl) hS ?_
                  refine tkH 11 64 (.slice (some ⟨sb, so, none⟩) ss.length sc) rfl (by kernel_rfl) (fun _ _ _ h => h) (fun Z hZ => by kernel_rfl) hS ?_
                  refine tkH 12 65 (.int .i64 i) rfl (by kernel_rfl) (fun _ _ _ h => h) (fun Z hZ => by kernel_rfl) hS ?_
                  refine tkH 13 66 (.pointer (some ⟨sb, so + i, none⟩)) rfl (by kernel_rfl) (fun _ _ _ h => h) (fun Z hZ => ?y13) hS ?_
                  case y13 => (go_simp)
                  refine tkH 14 67 (.string ⟨s.toArray⟩) rfl (by kernel_rfl) (fun _ _ _ h => h) (fun Z hZ => ?y14) hS ?_
                  case y14 => (have z1 := (hZ.below.cell (p := ⟨sb, so + i, none⟩) hsb).trans cS; go_simp)
                  refine tkH 15 68 (.slice (some ⟨b2, off2, none⟩) ps.length pc) rfl (by kernel_rfl) (fun _ _ _ h => h) (fun Z hZ => by kernel_rfl) hS ?_
                  refine tkH 16 69 (.int .i64 k) rfl (by kernel_rfl) (fun _ _ _ h => h) (fun Z hZ => by kernel_rfl) hS ?_
                  refine tkH 17 70 (.pointer (some ⟨b2, off2 + k * 2, none⟩)) rfl (by kernel_rfl) (fun _ _ _ h => h) (fun Z hZ => ?y17) hS ?_
                  case y17 => (go_simp)
                  refine tkH 18 71 (.agg #[.string ⟨key.toArray⟩, .bool ix]) rfl (by kernel_rfl) (fun _ _ _ h => h) (fun Z hZ => ?y18) hS ?_
                  case y18 => (have z1 := (hZ.below.cell (p := ⟨b2, off2 + k * 2, none⟩) hb2).trans p0; have z2 := (hZ.below.cell (p := ⟨b2, off2 + k * 2 + 1, none⟩) hb2).trans p1; go_simp)
                  refine rdS 19 rfl (by kernel_rfl) (fun K hK => ?_)
                  go_simp
                  refine (cT _).mono ?_
                  clear cT
                  rintro e w2 ⟨rfl, hB2⟩
                  have HX5 : Hid (MxAt w b c (ps.length + 1) f (nxG s ps f k) w2) := (HX.out.next (Below.refl _ _).drew).next hB2
                  refine hK.out _ _ HX5.out (fun _ => ?_)
                  clear hK hB2 hS
                  have hS := HX5.out
                  refine tkH 20 73 (.bool true) rfl (by kernel_rfl) (fun _ _ _ h => h) (fun Z hZ => by kernel_rfl) hS ?_
                  refine wpAnyH_done (by kernel_rfl) ?_ _
                  go_simp
                  obtain ⟨cg, fg⟩ := HX5.out.gr (k + 1) (by omega)
                  clear hS
                  generalize nxG s ps f k (k + 1) = v0 at cg
                  go_wp2
                  go_roundg g2
                  case measure => omega
                  case rel => exact ⟨k + 1, by go_num, by show _ = _; have := hg2.out; omega, (HX5.out.set (k + 1)).same fun x _ => HN2.out x⟩
              · have hkli : ¬ (k : Int) < (ps.length : Int) := by omega
                have HX1 : Hid (MxAt w b c (ps.length + 1) f (nxG s ps f (k + 1)) wr) := HX.out.same fun x _ => by rw [HN1.out x, tkJ_out (by omega)]; simp
                clear HX HN1
                go_wp2
                have hS : (fun Z : World => MxAt w b c (ps.length + 1) f (nxG s ps f (k + 1)) Z) { wr with drawn := wr.drawn + 1 } := HX1.out.next (Below.refl _ _).drew
                refine wp_region_held (S := fun Z => MxAt w b c (ps.length + 1) f (nxG s ps f (k + 1)) Z) (by kernel_rfl) ?_
                refine tkH 0 53 (.slice (some ⟨b, 0, none⟩) (ps.length + 1) (ps.length + 1)) rfl (by kernel_rfl) (fun _ _ _ h => h) (fun Z hZ => by kernel_rfl) hS ?_
                refine tkH 1 54 (.int .i64 k) rfl (by kernel_rfl) (fun _ _ _ h => h) (fun Z hZ => by kernel_rfl) hS ?_
                refine tkH 2 55 (.pointer (some ⟨b, k, none⟩)) rfl (by kernel_rfl) (fun _ _ _ h => h) (fun Z hZ => ?y2) hS ?_
                case y2 => (go_simp; intro hh; omega)
                refine tkH 3 56 (.bool true) rfl (by kernel_rfl) (fun _ _ _ h => h) (fun Z hZ => ?y3) hS ?_
                case y3 => (have z1 := hZ.fr k hkn; rw [hf] at z1; go_simp)
                refine tkH 4 57 (.bool true) rfl (by kernel_rfl) (fun _ _ _ h => h) (fun Z hZ => by kernel_rfl) hS ?_
                refine tkH 5 58 (.int .i64 k) rfl (by kernel_rfl) (fun _ _ _ h => h) (fun Z hZ => by kernel_rfl) hS ?_
                refine tkH 6 59 (.slice pa ps.length pc) rfl (by kernel_rfl) (fun _ _ _ h => h) (fun Z hZ => by kernel_rfl) hS ?_
                refine tkH 7 60 (.int .i64 ps.length) rfl (by kernel_rfl) (fun _ _ _ h => h) (fun Z hZ => by kernel_rfl) hS ?_
                refine tkH 8 61 (.bool false) rfl (by kernel_rfl) (fun _ _ _ h => h) (fun Z hZ => ?y8) hS ?_
                case y8 => (go_simp)
                refine tkH 9 62 (.bool false) rfl (by kernel_rfl) (fun _ _ _ h => h) (fun Z hZ => by kernel_rfl) hS ?_
                refine tkH 10 63 (.bool false) rfl (by kernel_rfl) (fun _ _ _ h => h) (fun Z hZ => by kernel_rfl) hS ?_
                refine tkV 11 64 rfl (by kernel_rfl) (fun _ _ _ h => h) hS ?_
                refine tkV 12 65 rfl (by kernel_rfl) (fun _ _ _ h => h) hS ?_
                refine tkV 13 66 rfl (by kernel_rfl) (fun _ _ _ h => h) hS ?_
                refine tkV 14 67 rfl (by kernel_rfl) (fun _ _ _ h => h) hS ?_
                refine tkV 15 68 rfl (by kernel_rfl) (fun _ _ _ h => h) hS ?_
                refine tkV 16 69 rfl (by kernel_rfl) (fun _ _ _ h => h) hS ?_
                refine tkV 17 70 rfl (by kernel_rfl) (fun _ _ _ h => h) hS ?_
                refine tkV 18 71 rfl (by kernel_rfl) (fun _ _ _ h => h) hS ?_
                refine tkV 19 72 rfl (by kernel_rfl) (fun _ _ _ h => h) hS ?_
                refine tkH 20 73 (.bool false) rfl (by kernel_rfl) (fun _ _ _ h => h) (fun Z hZ => by kernel_rfl) hS ?_
                refine wpAnyH_done (by kernel_rfl) ?_ _
                go_simp
                have HX2 : Hid (MxAt w b c (ps.length + 1) f (nxG s ps f (k + 1)) wr.drew) := HX1.out.next (Below.refl _ _).drew
                go_wp2
                go_roundg g2
                case measure => omega
                case rel => exact ⟨k + 1, by go_num, by show _ = _; have := hg2.out; omega, HX2⟩
end Go.Proofs.YtllcbnfmihfaaaaGreatDoor
