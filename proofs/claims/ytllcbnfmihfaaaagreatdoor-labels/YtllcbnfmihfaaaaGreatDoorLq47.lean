import Derived.Test.YtllcbnfmihfaaaaGreatDoorLq40
namespace Go.Proofs.YtllcbnfmihfaaaaGreatDoor
open Go.RowKit

theorem ly_stay {W V w2 : World} {A tb L : Nat} {q : Aut} {sv : Value} {st : Nat → Nat} {tk : Nat → Nat → Nat} (h : LyAt W A tb L q sv st tk V) (hne : A ≠ tb) {k j : Nat} (hk : k < 16) (hw : w2 = V.drew.setCell ⟨A, 3 + k, none⟩ (.int .u16 ((st k ||| 2 ^ j : Nat) : Int))) : LyAt W A tb L q sv (stU st k j true) tk w2 := by
  rw [hw, ← stU_true]
  exact h.stays hne k (st k ||| 2 ^ j) hk
theorem ly_take {W V w2 : World} {A tb L : Nat} {q : Aut} {sv : Value} {st : Nat → Nat} {tk : Nat → Nat → Nat} (h : LyAt W A tb L q sv st tk V) (hne : A ≠ tb) (htb : W.heap.size ≤ tb) {x k j o : Nat} (hx : x < L) (hk : k < 16) (ho : o = x * 16) (hw : w2 = V.drew.setCell ⟨tb, o + k, none⟩ (.int .u16 ((tk x k ||| 2 ^ j : Nat) : Int))) : LyAt W A tb L q sv st (tk1 tk x k j) w2 := by
  rw [hw, ho]
  exact h.one hne htb x k j hx hk
/-- How the laying of patterns ends. -/
def LySays (W : World) (A : Nat) (q : Aut) (sv : Value) (ks : List (List UInt8)) (e : Ending) (W' : World) : Prop :=
  e = .returned (.tuple #[]) ∧ ∃ tb st tk, W.heap.size ≤ tb ∧ LyAt W A tb (2 + ks.length) q sv st tk W' ∧ LyD q.rs ks st tk
set_option maxRecDepth 100000 in
set_option maxHeartbeats 4000000 in
theorem layPatterns_any (W0 W : World) (A : Nat) (q : Aut) (sv : Value) (ks : List (List UInt8)) (hW0 : Below W0.heap.size W0 W) (hrow : W.heap[A]? = some (.cells (autD q (fun _ => 0) (.slice none 0 0) sv) 168)) (hA0 : W0.heap.size ≤ A) (hn : q.rs.length ≤ 16) (h8 : ∀ i (h : i < q.rs.length), q.rs[i].1.length ≤ 8) (hk3 : ∀ i (h : i < q.rs.length) j (h2 : j < q.rs[i].1.length), q.rs[i].1[j].1 ≤ 3 ∧ q.rs[i].1[j].2.length ≤ 1000000000)
    (hr : PruAt W0 q.ra q.rs) (hm : ImK W q.lm ks) (hks : ks.length ≤ 128) (hin : ∀ i (h : i < q.rs.length) j (h2 : j < q.rs[i].1.length), q.rs[i].1[j].1 = 3 → q.rs[i].1[j].2 ∈ ks) (hAl : A ≠ q.lm) :
    Calls Tryz.prog 85 #[.pointer (some ⟨A, 0, none⟩)] W (LySays W A q sv ks) := by
  have c2 : W.cell? ⟨A, 2, none⟩ = some (.map (some q.lm)) := (cell_of_row W A 2 _ _ _ hrow).trans (autD_2 _ _ _ _)
  have hlen := hm.len Tryz.underlying159
  have HROW : Hid (W.heap[A]? = some (.cells (autD q (fun _ => 0) (.slice none 0 0) sv) 168)) := hrow
  have f19 : W.frozen? ⟨A, 19, none⟩ = false := frozen_of_row W A 19 _ _ hrow
  have c19 : W.cell? ⟨A, 19, none⟩ = some (.slice none 0 0) := (cell_of_row W A 19 _ _ _ hrow).trans (autD_19 _ _ _ _)
  have HR : Hid (PruAt W0 q.ra q.rs) := hr
  have HW0 : Hid (Below W0.heap.size W0 W) := hW0
  have HM : Hid (ImK W q.lm ks) := hm
  have HK3 : Hid (∀ i (h : i < q.rs.length) j (h2 : j < q.rs[i].1.length), q.rs[i].1[j].1 ≤ 3 ∧ q.rs[i].1[j].2.length ≤ 1000000000) := hk3
  have HIN : Hid (∀ i (h : i < q.rs.length) j (h2 : j < q.rs[i].1.length), q.rs[i].1[j].1 = 3 → q.rs[i].1[j].2 ∈ ks) := hin
  have H8 : Hid (∀ i (h : i < q.rs.length), q.rs[i].1.length ≤ 8) := h8
  have HMK : Hid (∀ w : World, (Instr.makeSlice 165 (.int .i64 (wrap64 (2 + (ks.length : Int)))) (.int .i64 (wrap64 (2 + (ks.length : Int))))).run Tryz.prog w = .ok (.slice (some ⟨w.heap.size, 0, none⟩) (2 + ks.length) (2 + ks.length)) (w.alloc (.cells (madeCells (plA zPl) ((2 + ks.length) * 16)) 164))) := mk_tk ks.length hks
  have HKS : Hid (ks.length ≤ 128) := hks
  clear hrow hr hW0 hm hk3 hin h8 hks
  go_enter Tryz.func85, Tryz.ntmps85
  have hmk := HMK.out
  have lA : A < W.heap.size := (Array.getElem?_eq_some_iff.1 HROW.out).1
  have hAne : A ≠ W.heap.size := by omega
  have HEQ : Hid ((W.alloc (.cells (madeCells (plA zPl) ((2 + ks.length) * 16)) 164)).setCell ⟨A, 19, none⟩ (.slice (some ⟨W.heap.size, 0, none⟩) (2 + ks.length) (2 + ks.length)) = (W.setCell ⟨A, 19, none⟩ (.slice (some ⟨W.heap.size, 0, none⟩) (2 + ks.length) (2 + ks.length))).alloc (.cells (madeCells (plA zPl) ((2 + ks.length) * 16)) 164)) := by show _ = _; go_simp
  have HL0 : Hid (LyAt W A W.heap.size (2 + ks.length) q sv (fun _ => 0) (fun _ _ => 0) ((W.setCell ⟨A, 19, none⟩ (.slice (some ⟨W.heap.size, 0, none⟩) (2 + ks.length) (2 + ks.length))).alloc (.cells (madeCells (plA zPl) ((2 + ks.length) * 16)) 164))) := by
    have h := lyAt_start (L := 2 + ks.length) HROW.out
    rw [HEQ.out] at h
    exact h
  have c0 : W.cell? ⟨A, 0, none⟩ = some (.slice q.ra q.rs.length q.rc) := (cell_of_row _ A 0 _ _ _ HROW.out).trans (autD_0 _ _ _ _)
  obtain ⟨ra, HRA⟩ : ∃ ra, Hid (q.ra = ra) := ⟨_, rfl⟩
  rw [HRA.out] at c0
  have HRR : Hid (PruAt W0 ra q.rs) := by rw [← HRA.out]; exact HR.out
  clear HR HRA
  go_wp2
  clear c2 hlen f19 c19 c0 hmk HMK HEQ
  obtain ⟨L, HL⟩ : ∃ L, Hid (L = 2 + ks.length) := ⟨_, rfl⟩
  obtain ⟨tb, HTB⟩ : ∃ tb, Hid (W.heap.size ≤ tb ∧ tb = W.heap.size) := ⟨_, Nat.le_refl _, rfl⟩
  have hAt : A ≠ tb := by have := HTB.out.2; omega
  have HL1 : Hid (LyAt W A tb L q sv (fun _ => 0) (fun _ _ => 0) ((W.setCell ⟨A, 19, none⟩ (.slice (some ⟨W.heap.size, 0, none⟩) (2 + ks.length) (2 + ks.length))).alloc (.cells (madeCells (plA zPl) ((2 + ks.length) * 16)) 164))) := by
    rw [HL.out, HTB.out.2]
    exact HL0.out
  clear HL0
  generalize (W.setCell ⟨A, 19, none⟩ (.slice (some ⟨W.heap.size, 0, none⟩) (2 + ks.length) (2 + ks.length))).alloc (.cells (madeCells (plA zPl) ((2 + ks.length) * 16)) 164) = V00 at *
  go_loopg [22] q.rs.length (fun g z wr => ∃ (k : Nat) (st : Nat → Nat) (tk : Nat → Nat → Nat), z = .int .i64 k ∧ Hid (k + g = q.rs.length) ∧ Hid (LyAt W A tb L q sv st tk wr) ∧ Hid (LyM q.rs ks k 0 st tk))
  case atStart => exact ⟨0, _, _, rfl, by show _ = _; omega, HL1, lyM_start _ _⟩
  case round =>
    clear HL1
    obtain ⟨k, st, tk, rfl, hg, HN, HK⟩ := hrel
    cases gk with
    | zero =>
      have hlt : ¬ (k : Int) < (q.rs.length : Int) := by have := hg.out; omega
      go_wp2
      go_end0
      refine ⟨rfl, tb, st, tk, HTB.out.1, ?_, HK.out.done (by have := hg.out; omega)⟩
      rw [← HL.out]
      exact HN.out
    | succ g =>
      have hkn : k < q.rs.length := by have := hg.out; omega
      have hlt : (k : Int) < (q.rs.length : Int) := by omega
      obtain ⟨b, off, pa, pc, rfl, hb, e0, e1, e2, hseg⟩ := (HRR.out.below (HN.out.low HW0.out hA0)).at_ k hkn
      have HSG : Hid (SegAt W0 pa q.rs[k].1) := by
        obtain ⟨b', off', pa', pc', hab, hb', f0, f1, f2, hs'⟩ := HRR.out.at_ k hkn
        injection hab with hab
        injection hab with hab1 hab2
        subst hab1
        subst hab2
        have e3 := ((HN.out.low HW0.out hA0).cell (p := ⟨b, off + k * 3, none⟩) hb').trans f0
        rw [e0] at e3
        injection e3 with e3
        injection e3 with e3 _ _
        subst e3
        exact hs'
      have hk8 := H8.out k hkn
      have hk16 : k < 16 := by omega
      have HKJ : Hid (∀ j (h2 : j < q.rs[k].1.length), (q.rs[k].1[j].1 ≤ 3 ∧ q.rs[k].1[j].2.length ≤ 1000000000) ∧ (q.rs[k].1[j].1 = 3 → q.rs[k].1[j].2 ∈ ks)) := fun j h2 => ⟨HK3.out k hkn j h2, HIN.out k hkn j h2⟩
      have HRK : Hid (q.rs[k]? = some q.rs[k]) := List.getElem?_eq_getElem hkn
      have HN1 : Hid (LyAt W A tb L q sv st tk (wr.alloc (.cells #[.slice pa q.rs[k].1.length pc, .int .i64 q.rs[k].2.1, .int .i64 q.rs[k].2.2] 230))) := HN.out.next ((Below.refl _ _).alloc (Nat.le_refl _) _)
      clear hseg
      go_wp2
      clear e0 e1 e2 HN
      generalize wr.alloc (.cells #[.slice pa q.rs[k].1.length pc, .int .i64 q.rs[k].2.1, .int .i64 q.rs[k].2.2] 230) = V0 at *
      generalize q.rs[k] = R at *
      obtain ⟨ss, lb, ac⟩ := R
      dsimp only at HSG hk8 HKJ
      go_loopg [30] ss.length (fun g2 z V => ∃ (j : Nat) (st : Nat → Nat) (tk : Nat → Nat → Nat), z = .int .i64 j ∧ Hid (j + g2 = ss.length) ∧ Hid (LyAt W A tb L q sv st tk V) ∧ Hid (LyM q.rs ks k j st tk))
      case atStart => exact ⟨0, st, tk, rfl, by show _ = _; omega, HN1, HK⟩
      case round =>
        clear HN1 HK
        obtain ⟨j, st, tk, rfl, hg2, HN2, HK2⟩ := hrel
        cases gk with
        | zero =>
          have hlt2 : ¬ (j : Int) < (ss.length : Int) := by have := hg2.out; omega
          go_wp2
          go_roundg g
          case measure => omega
          case rel => exact ⟨k + 1, st, tk, by go_num, by show _ = _; have := hg.out; omega, HN2, HK2.out.rule HRK.out (by have := hg2.out; show ss.length ≤ j; omega)⟩
        | succ g2 =>
          have hjl : j < ss.length := by have := hg2.out; omega
          have hlt2 : (j : Int) < (ss.length : Int) := by omega
          obtain ⟨b2, off2, rfl, hb2, s0, s1⟩ := (HSG.out.below (HN2.out.low HW0.out hA0)).at_ j hjl
          obtain ⟨⟨hkd, hkl⟩, hmem⟩ := HKJ.out j hjl
          have HSJ : Hid (ss[j]? = some ss[j]) := List.getElem?_eq_getElem hjl
          have HKL : Hid (ss[j].2.length ≤ 1000000000) := hkl
          have HMEM : Hid (ss[j].1 = 3 → ss[j].2 ∈ ks) := hmem
          have HKD : Hid (ss[j].1 ≤ 3) := hkd
          have hj16 : j < 16 := by omega
          clear hkl hmem hkd
          generalize ss[j] = sg at *
          have HN3 : Hid (LyAt W A tb L q sv st tk (wr.alloc (.cells #[.int .i64 sg.1, .string ⟨sg.2.toArray⟩] 235))) := HN2.out.next ((Below.refl _ _).alloc (Nat.le_refl _) _)
          have HLT := HK2.out.lt H8.out
          have HSTL : Hid (∀ r, st r < 256) := HLT.1
          have HTKL : Hid (∀ x r, tk x r < 256) := HLT.2
          clear HLT
          have HP3 : Hid (LyM q.rs ks k (j + 1) (stU st k j (sg.1 == 1)) (fun x => stU (tk x) k j (tkX ks sg x))) := HK2.out.place HRK.out HSJ.out
          have HTL : Hid (tb < wr.heap.size) := by
            obtain ⟨cur, h1, _⟩ := HN2.out.tks
            exact (Array.getElem?_eq_some_iff.1 h1).1
          obtain ⟨kd, key⟩ := sg
          have HB3 : Hid ((wr.alloc (.cells #[.int .i64 kd, .string ⟨key.toArray⟩] 235)).heap[wr.heap.size]? = some (.cells #[.int .i64 kd, .string ⟨key.toArray⟩] 235)) := heap_new _ _
          dsimp only at HKL HMEM HKD
          have d19 := HN2.out.c19
          have hAw : A < wr.heap.size := (Array.getElem?_eq_some_iff.1 HN2.out.row).1
          have hL1 : (1 : Int) < (L : Int) := by have := HL.out; omega
          have hL9 : L ≤ 130 := by have := HL.out; have := HKS.out; omega
          clear HN2 HK2
          rcases (by have := HKD.out; omega : kd = 0 ∨ kd = 1 ∨ kd = 2 ∨ kd = 3) with rfl | rfl | rfl | rfl
          · have HP4 : Hid (LyM q.rs ks k (j + 1) st (fun x => stU (tk x) k j true)) := by
              have h := HP3.out
              have e : stU st k j (((0, key) : Nat × List UInt8).1 == 1) = st := stU_false st k j
              rw [e] at h
              exact h
            clear HP3
            go_wp2
            generalize wr.alloc (.cells #[.int .i64 ((0 : Nat) : Int), .string ⟨key.toArray⟩] 235) = V1 at *
            go_loopg [44] L (fun g3 z V => ∃ m : Nat, z = .int .i64 m ∧ Hid (m + g3 = L) ∧ Hid (LyAt W A tb L q sv st (tkm tk m k j) V))
            case atStart => exact ⟨0, rfl, by show _ = _; omega, by rw [tkm_zero]; exact HN3⟩
            case round =>
              clear HN3 HB3 d19
              obtain ⟨m, rfl, hg3, HN4⟩ := hrel
              cases gk with
              | zero =>
                have hlt3 : ¬ (m : Int) < (L : Int) := by have := hg3.out; omega
                have HN5 : Hid (LyAt W A tb L q sv st (fun x => stU (tk x) k j true) wr) := HN4.out.alike fun x r hx => by
                  unfold tkm
                  rw [if_pos (by have := hg3.out; omega)]
                clear HN4
                go_wp2
                go_roundg g2
                case measure => omega
                case rel => exact ⟨j + 1, st, _, by go_num, by show _ = _; have := hg2.out; omega, HN5, HP4⟩
              | succ g3 =>
                have hmL : m < L := by have := hg3.out; omega
                have hlt3 : (m : Int) < (L : Int) := by omega
                have d19 := HN4.out.c19
                obtain ⟨ct, cf⟩ := HN4.out.ct m k hmL hk16
                have hlt16 : tkm tk m k j m k < 65536 := by
                  unfold tkm
                  rw [if_neg (by omega)]
                  have := HTKL.out m k
                  omega
                have cA := plAdd_any wr tb (m * 16) (tkm tk m k j m k) k j hk16 hj16 hlt16 ct cf
                clear ct cf hlt16
                go_wp2_with (first
                  | (go_at_call 137; refine cA.mono ?_; clear cA; rintro e w2 ⟨rfl, hw2⟩; have HN5 : Hid (LyAt W A tb L q sv st (tk1 (tkm tk m k j) m k j) w2) := ly_take HN4.out hAt HTB.out.1 hmL hk16 rfl hw2; clear hw2 d19))
                go_roundg g3
                case measure => omega
                case rel => exact ⟨m + 1, by go_num, by show _ = _; have := hg3.out; omega, by rw [← tkm_succ]; exact HN5⟩
          · have HP4 : Hid (LyM q.rs ks k (j + 1) (stU st k j true) tk) := by
              have h := HP3.out
              have e : (fun x => stU (tk x) k j (tkX ks (1, key) x)) = tk := by
                funext x
                exact stU_false (tk x) k j
              rw [e] at h
              exact h
            obtain ⟨ct, cf⟩ := HN3.out.cs k hk16
            have cA := plAdd_any _ A 3 (st k) k j hk16 hj16 (by have := HSTL.out k; omega) ct cf
            clear HP3 ct cf
            go_wp2_with (first
              | (go_at_call 137; refine cA.mono ?_; clear cA; rintro e w2 ⟨rfl, hw2⟩; have HN5 : Hid (LyAt W A tb L q sv (stU st k j true) tk w2) := ly_stay HN3.out hAt hk16 hw2; clear hw2 d19 HN3))
            go_roundg g2
            case measure => omega
            case rel => exact ⟨j + 1, _, tk, by go_num, by show _ = _; have := hg2.out; omega, HN5, HP4⟩
          · have HP4 : Hid (LyM q.rs ks k (j + 1) st (tk1 tk 1 k j)) := by
              have h := HP3.out
              have e : (fun x => stU (tk x) k j (tkX ks (2, key) x)) = tk1 tk 1 k j := by
                funext x
                exact (tk1_eq tk 1 k j x).symm
              have e2 : stU st k j (((2, key) : Nat × List UInt8).1 == 1) = st := stU_false st k j
              rw [e, e2] at h
              exact h
            obtain ⟨ct, cf⟩ := HN3.out.ct 1 k (by omega) hk16
            have cA := plAdd_any _ tb 16 (tk 1 k) k j hk16 hj16 (by have := HTKL.out 1 k; omega) ct cf
            clear HP3 ct cf
            go_wp2_with (first
              | (go_at_call 137; refine cA.mono ?_; clear cA; rintro e w2 ⟨rfl, hw2⟩; have HN5 : Hid (LyAt W A tb L q sv st (tk1 tk 1 k j) w2) := ly_take HN3.out hAt HTB.out.1 (by omega) hk16 rfl hw2; clear hw2 d19 HN3))
            go_roundg g2
            case measure => omega
            case rel => exact ⟨j + 1, st, _, by go_num, by show _ = _; have := hg2.out; omega, HN5, HP4⟩
          · obtain ⟨x, HX⟩ : ∃ x, Hid (x = (fnL ks (.string key)).getD 0) := ⟨_, rfl⟩
            have HXL : Hid (x < L) := by
              have h := HMEM.out rfl
              show x < L
              rw [HX.out, fnL_in h, HL.out]
              have := List.idxOf_lt_length_iff.2 h
              show 2 + ks.idxOf key < _
              omega
            have HP4 : Hid (LyM q.rs ks k (j + 1) st (tk1 tk x k j)) := by
              have h := HP3.out
              have e : (fun y => stU (tk y) k j (tkX ks (3, key) y)) = tk1 tk x k j := by
                funext y
                rw [tk1_eq, HX.out]
                rfl
              have e2 : stU st k j (((3, key) : Nat × List UInt8).1 == 1) = st := stU_false st k j
              rw [e, e2] at h
              exact h
            have hxL : x < L := HXL.out
            have hxi : (x : Int) < (L : Int) := by omega
            clear HP3
            go_wp2
            generalize wr.alloc (.cells #[.int .i64 ((3 : Nat) : Int), .string ⟨key.toArray⟩] 235) = V1 at *
            generalize wr.heap.size = M at *
            have hS : (fun Z : World => (∃ tk, LyAt W A tb L q sv st tk Z) ∧ Z.heap[M]? = some (.cells #[.int .i64 ((3 : Nat) : Int), .string ⟨key.toArray⟩] 235)) { V1 with drawn := V1.drawn + 1 } := ⟨⟨tk, HN3.out.next (Below.refl _ _).drew⟩, HB3.out⟩
            refine wp_region_held (S := fun Z => (∃ tk, LyAt W A tb L q sv st tk Z) ∧ Z.heap[M]? = some (.cells #[.int .i64 ((3 : Nat) : Int), .string ⟨key.toArray⟩] 235)) (by kernel_rfl) ?_
            refine tkH 0 77 (.pointer (some ⟨A, 0, none⟩)) rfl (by kernel_rfl) (fun _ _ _ h => h) (fun Z hZ => by kernel_rfl) hS ?_
            refine tkH 1 78 (.pointer (some ⟨A, 0, none⟩)) rfl (by kernel_rfl) (fun _ _ _ h => h) (fun Z hZ => by kernel_rfl) hS ?_
            refine tkH 2 79 (.pointer (some ⟨A, 19, none⟩)) rfl (by kernel_rfl) (fun _ _ _ h => h) (fun Z hZ => by kernel_rfl) hS ?_
            refine tkH 3 80 (.slice (some ⟨tb, 0, none⟩) L L) rfl (by kernel_rfl) (fun _ _ _ h => h) (fun Z hZ => ?y3) hS ?_
            case y3 => (obtain ⟨tk', hZ1⟩ := hZ.1; have z1 := hZ1.c19; go_simp)
            refine tkH 4 81 (.pointer (some ⟨A, 0, none⟩)) rfl (by kernel_rfl) (fun _ _ _ h => h) (fun Z hZ => by kernel_rfl) hS ?_
            refine tkH 5 82 (.pointer (some ⟨A, 0, none⟩)) rfl (by kernel_rfl) (fun _ _ _ h => h) (fun Z hZ => by kernel_rfl) hS ?_
            refine tkH 6 83 (.pointer (some ⟨A, 2, none⟩)) rfl (by kernel_rfl) (fun _ _ _ h => h) (fun Z hZ => by kernel_rfl) hS ?_
            refine tkH 7 84 (.map (some q.lm)) rfl (by kernel_rfl) (fun _ _ _ h => h) (fun Z hZ => ?y7) hS ?_
            case y7 => (obtain ⟨tk', hZ1⟩ := hZ.1; have z1 := hZ1.c2; go_simp)
            refine tkH 8 85 (.pointer (some ⟨M, 1, none⟩)) rfl (by kernel_rfl) (fun _ _ _ h => h) (fun Z hZ => by kernel_rfl) hS ?_
            refine tkH 9 86 (.string ⟨key.toArray⟩) rfl (by kernel_rfl) (fun _ _ _ h => h) (fun Z hZ => ?y9) hS ?_
            case y9 => (have z1 := cellOfHeap hZ.2 1; go_simp)
            refine tkH 10 87 (.int .i64 x) rfl (by kernel_rfl) (fun _ _ _ h => h) (fun Z hZ => ?y10) hS ?_
            case y10 => (obtain ⟨tk', hZ1⟩ := hZ.1; have z3 := im_look (hZ1.names HM.out hAl).im stK Tryz.underlying159 (st_key key HKL.out); rw [← HX.out] at z3; go_simp)
            refine tkH 11 88 (.pointer (some ⟨tb, x * 16, none⟩)) rfl (by kernel_rfl) (fun _ _ _ h => h) (fun Z hZ => ?y11) hS ?_
            case y11 => (go_simp)
            refine tkH 12 89 (.int .i64 k) rfl (by kernel_rfl) (fun _ _ _ h => h) (fun Z hZ => by kernel_rfl) hS ?_
            refine tkH 13 90 (.int .i64 j) rfl (by kernel_rfl) (fun _ _ _ h => h) (fun Z hZ => by kernel_rfl) hS ?_
            obtain ⟨ct, cf⟩ := (HN3.out.next (Below.refl _ _).drew).ct x k hxL hk16
            have cA := plAdd_any _ tb (x * 16) (tk x k) k j hk16 hj16 (by have := HTKL.out x k; omega) ct cf
            clear ct cf
            refine rdS 14 rfl (by kernel_rfl) (fun K hK => ?_)
            go_simp
            refine cA.mono ?_
            clear cA
            rintro e w2 ⟨rfl, hw2⟩
            have HN5 : Hid (LyAt W A tb L q sv st (tk1 tk x k j) w2) := ly_take (HN3.out.next (Below.refl _ _).drew) hAt HTB.out.1 hxL hk16 rfl hw2
            have hS8 : (fun Z : World => (∃ tk, LyAt W A tb L q sv st tk Z) ∧ Z.heap[M]? = some (.cells #[.int .i64 ((3 : Nat) : Int), .string ⟨key.toArray⟩] 235)) w2 := ⟨⟨_, HN5.out⟩, by rw [hw2]; exact (Below.heap_setCell _ _ _ _ (by have := HTL.out; simp; omega)).trans HB3.out⟩
            clear hw2 HN3 HB3
            refine hK.out _ _ hS8 (fun _ => ?_)
            clear hK hS hS8
            refine wpAnyH_done (by kernel_rfl) ?_ _
            go_simp
            go_wp2
            go_roundg g2
            case measure => omega
            case rel => exact ⟨j + 1, st, _, by go_num, by show _ = _; have := hg2.out; omega, HN5, HP4⟩
end Go.Proofs.YtllcbnfmihfaaaaGreatDoor
