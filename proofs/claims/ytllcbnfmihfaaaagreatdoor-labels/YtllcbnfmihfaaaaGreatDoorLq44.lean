import Derived.Test.YtllcbnfmihfaaaaGreatDoorLq43
namespace Go.Proofs.YtllcbnfmihfaaaaGreatDoor
open Go.RowKit

def enR (r : List (List UInt8) × Int × Int) : List Value × Nat × Int × Int := (r.1.map strV, r.1.length, r.2.1, r.2.2)
/-- The reference's rules in a row of their own. -/
def RrB (W : World) (lo : Nat) (v : Value) (rs : List (List (List UInt8) × Int × Int)) : Prop := ∃ xs, W.ownsRow lo 220 3 v rs.length xs ∧ RwB W lo 9 xs (rs.map enR)
/-- How a policy's reading ends. -/
def RsSays (n : Nat) (s : ByteArray) (w : World) (e : Ending) (w' : World) : Prop :=
  ∃ a m cap, e = .returned (.tuple #[.slice a m cap, .int .i64 (rulesV n s.data.toList)]) ∧ Below w.heap.size w w' ∧ (rulesV n s.data.toList < 0 → RrB w' w.heap.size (.slice a m cap) (polR s.data.toList))
theorem own_lo {W : World} {base lo : Nat} {e : TypeId} {size : Nat} {v : Value} {n : Nat} {xs : List Value} (h : W.ownsRow base e size v n xs) (hl : lo ≤ base) : W.ownsRow lo e size v n xs := by
  refine ⟨h.1, ?_⟩
  rcases h.2 with h0 | ⟨g', cp, cur, h0, h1, hh, h2⟩
  · exact .inl h0
  · exact .inr ⟨g', cp, cur, h0, by omega, hh, h2⟩
theorem rr_push {W4 w5 : World} {o : Obj} {base lo : Nat} {v : Value} {k : Nat} {xs : List Value} {es : List (List Value × Nat × Int × Int)} {ra : Option Addr} {rm rc : Nat} {rx ry : Int} {p : ByteArray} (ho : W4.ownsRow base 220 3 v k xs) (hr : RwB W4 lo 9 xs es)
    (hc : rm = (rulR p.data.toList).1.length ∧ rx = (rulR p.data.toList).2.1 ∧ ry = (rulR p.data.toList).2.2 ∧ CelB W4 lo 9 ra ((rulR p.data.toList).1.map strV)) (hg : (W4.alloc o).grownBy w5 v.ownBlock) :
    RwB w5 lo 9 (xs ++ [.slice ra rm rc, .int .i64 rx, .int .i64 ry]) (es ++ [enR (rulR p.data.toList)]) := by
  obtain ⟨h1, h2, h3, h4⟩ := hc
  have h := RwB.push (pa := ra) (pc := rc) hr (e := enR (rulR p.data.toList)) h4
  rw [h1, h2, h3]
  refine h.kept fun b cur fr k1 k3 => ⟨k1, ?_⟩
  have hb := (Array.getElem?_eq_some_iff.1 k3).1
  refine (hg.block b (by rw [World.size_alloc]; omega) (fun e => ?_)).trans ((Below.heap_alloc _ _ _ hb).trans k3)
  rcases ho.2 with ⟨h0, _⟩ | ⟨g', cap', cur', h0, hb', hh, _⟩
  · rw [h0] at e
    cases e
  · rw [h0] at e
    injection e with e
    have e' : b = g' := e
    rw [← e', k3] at hh
    injection hh with hh
    injection hh with _ hh _
    revert hh
    decide
set_option maxRecDepth 100000 in
set_option maxHeartbeats 8000000 in
theorem rules_seg (c : Cfg) (n : Nat) (hn : c.labels = n) (w : World) :
    Calls Tryz.prog 80 #[.agg c.arr] w fun e w' => RsSays n c.pol w e w' := by
  have hl : c.pol.data.toList.length = c.pol.size := Array.length_toList
  have f3 : c.arr[3]? = some (.string c.pol) := rfl
  have HF0 : Hid (c.arr[0]? = some (.int .i64 n)) := by show _ = _; rw [← hn]; rfl
  obtain ⟨i0, hi, hz0, hz1, hz2⟩ := info_parts Tryz.infoRule
  by_cases hbig : (2000 : Int) < c.pol.size
  · have HV : Hid (rulesV n c.pol.data.toList = 0) := by show _ = _; unfold rulesV; rw [if_pos (by omega)]
    go_enter Tryz.func80, Tryz.ntmps80
    go_wp2
    go_ret2
    exact ⟨_, _, _, by rw [HV.out]; rfl, (Below.refl _ _).alloc (Nat.le_refl _) _, fun e => by rw [HV.out] at e; omega⟩
  · cases he : (c.pol.toList == [])
    · have hne : c.pol.size ≠ 0 := by
        intro h
        have : c.pol.toList = [] := by rw [Lib.toList_data]; exact List.eq_nil_of_length_eq_zero (by omega)
        rw [this] at he
        exact absurd he (by decide)
      have HV : Hid (rulesV n c.pol.data.toList = firstBad n (splitL 10 c.pol.data.toList) 0) := by show _ = _; unfold rulesV; rw [if_neg (by omega), if_neg (by omega)]
      have hps : c.pol.size ≤ 100000 := by omega
      go_enter Tryz.func80, Tryz.ntmps80
      have T1 : True := trivial
      go_wp2_with (first
        | (go_at_call 129; clear T1; refine (split_any c.pol 10 10 rfl _ hps).mono ?_; rintro e w2 ⟨v, ps, rfl, HO, HB, HE⟩; obtain ⟨g, cap, rfl, hg, hgs, hcs⟩ := strs_of_own HO (ne_len HE)))
      have hw2 : w.heap.size < w2.heap.size := by have := HB.size; simp only [World.size_alloc] at this; omega
      have HXR : Hid (w2.heap[w.heap.size]? = some (.cells c.arr 45)) := (HB.block _ (by simp)).trans (heap_new _ _)
      have HX : Hid (∀ j, w2.cell? ⟨w.heap.size, j, none⟩ = c.arr[j]?) := fun j => cellOfHeap ((HB.block _ (by simp)).trans (heap_new _ _)) j
      have HCS : Hid (∀ (j : Nat) (hj : j < ps.length), w2.cell? ⟨g, j, none⟩ = some (Value.string ps[j])) := hcs
      have HV2 : Hid (rulesV n c.pol.data.toList = firstBad n (ps.map (·.data.toList)) 0) := by show _ = _; rw [HV.out, HE]
      have HBW : Hid (Below w.heap.size w w2) := ((Below.refl _ _).alloc (Nat.le_refl _) _).trans (HB.mono (by simp))
      have HSZ : Hid (∀ p, p ∈ ps → p.size ≤ 100000) := fun p hp => by
        have := splitL_size 10 c.pol.data.toList p.data.toList (by rw [← HE]; exact List.mem_map_of_mem hp)
        have h4 : p.data.toList.length = p.size := Array.length_toList
        omega
      have hpl : ps.length ≤ 100001 := by
        have h1 := congrArg List.length HE
        have h2 := splitL_len 10 c.pol.data.toList
        rw [List.length_map] at h1
        omega
      have hgw : w.heap.size < g := by simp only [World.size_alloc] at hg; omega
      have HPL : Hid (polR c.pol.data.toList = ps.map (fun p => rulR p.data.toList)) := by
        show _ = _
        unfold polR
        rw [if_neg (by omega), ← HE, List.map_map]
        rfl
      clear HB HO hcs HE HV hg
      go_loopg [4, 6] ps.length (fun gk v x wr => ∃ (k : Nat) (xs : List Value) (ao : Option Addr) (cv : Nat), Hid (k + gk = ps.length) ∧ v = .slice ao k cv ∧ x = .int .i64 k ∧ Hid (wr.ownsRow w2.heap.size 220 3 v k xs) ∧ Hid (Below w2.heap.size w2 wr) ∧ Hid (rulesV n c.pol.data.toList = firstBad n ((ps.map (·.data.toList)).drop k) k) ∧ Hid (RwB wr w2.heap.size 9 xs ((ps.take k).map fun p => enR (rulR p.data.toList))))
      case atStart => exact ⟨0, [], none, 0, by show _ = _; omega, rfl, rfl, World.ownsRow_nil _ _ _ _, Below.refl _ _, HV2.out, rwB_nil _ _ _⟩
      case round =>
        obtain ⟨k, xs, ao, cv, hk, rfl, rfl, HOW, HBB, HL, HRW⟩ := hrel
        have hsz2 := HBB.out.size
        cases gk with
        | zero =>
          have hlt : ¬ (k : Int) < ps.length := by have := hk.out; omega
          have HF : Hid (rulesV n c.pol.data.toList = -1) := by
            show _ = _
            rw [HL.out, List.drop_eq_nil_of_le (by rw [List.length_map]; have := hk.out; omega)]
            rfl
          go_wp2
          go_ret2
          refine ⟨_, _, _, by rw [HF.out]; rfl, HBW.out.trans (HBB.out.mono (by omega)), fun _ => ?_⟩
          have hkp : k = ps.length := by have := hk.out; omega
          subst hkp
          have h1 := HRW.out
          rw [List.take_length] at h1
          refine ⟨xs, ?_, ?_⟩
          · rw [HPL.out, List.length_map]
            exact own_lo HOW.out (by omega)
          · rw [HPL.out, List.map_map]
            exact h1.kept fun b cur fr k1 k3 => ⟨by omega, k3⟩
        | succ gg =>
          have hlt : (k : Int) < ps.length := by have := hk.out; omega
          have hkn : k < ps.length := by omega
          have hst : wr.cell? ⟨g, k, none⟩ = some (.string ps[k]) := (HBB.out.cell (p := ⟨g, k, none⟩) hgs).trans (HCS.out k hkn)
          have HBX : wr.heap[w.heap.size]? = some (.cells c.arr 45) := (HBB.out.block _ hw2).trans HXR.out
          have n1 := World.new_ne wr _ hst
          have hxw : w.heap.size < wr.heap.size := by omega
          have hxg : g < wr.heap.size := by omega
          obtain ⟨p, hp⟩ : ∃ p, p = ps[k] := ⟨_, rfl⟩
          have HP : Hid (p = ps[k]) := hp
          rw [← hp] at hst
          have cR : ∀ W, Calls Tryz.prog 130 #[.agg c.arr, .string p] W fun e w' => RrSays n p W e w' := fun W => rule_seg c.arr n HF0.out rfl p W (by rw [hp]; exact HSZ.out ps[k] (List.getElem_mem hkn))
          have HC : Hid (rulesV n c.pol.data.toList = if ruleB n p.data.toList = true ∧ k < 16 then firstBad n ((ps.map (·.data.toList)).drop (k + 1)) (k + 1) else (k : Int)) := by
            show _ = _
            rw [HL.out, List.drop_eq_getElem_cons (by rw [List.length_map]; exact hkn), firstBad, List.getElem_map, ← hp]
          clear hp hl f3 he hne hps HX HCS HSZ HL
          go_wp2
          refine wp_region_held (S := fun W => W.heap[w.heap.size]? = some (.cells c.arr 45) ∧ W.cell? ⟨g, k, none⟩ = some (.string p)) (by kernel_rfl) ?_
          have hS : (fun W : World => W.heap[w.heap.size]? = some (.cells c.arr 45) ∧ W.cell? ⟨g, k, none⟩ = some (.string p)) { wr with drawn := wr.drawn + 1 } := ⟨HBX, hst⟩
          refine wpAnyH_take (i := 0) (v := .agg c.arr) rfl (by kernel_rfl) (by kernel_rfl) (by kernel_rfl) (fun _ _ _ h => h) (.inl ⟨rfl, fun W hW => yields_row 45 (.tmp 1) rfl w.heap.size rfl _ _ _ _ hW.1 Tryz.underlying45 rfl (infoCfg rfl)⟩) hS ?_
          refine wpAnyH_take (i := 1) (v := .slice (some ⟨g, 0, none⟩) ps.length cap) rfl (by kernel_rfl) (by kernel_rfl) (by kernel_rfl) (fun _ _ _ h => h) (.inl ⟨rfl, fun W hW => rfl⟩) hS ?_
          refine wpAnyH_take (i := 2) (v := .int .i64 k) rfl (by kernel_rfl) (by kernel_rfl) (by kernel_rfl) (fun _ _ _ h => h) (.inl ⟨rfl, fun W hW => rfl⟩) hS ?_
          refine wpAnyH_take (i := 3) (v := .pointer (some ⟨g, k, none⟩)) rfl (by kernel_rfl) (by kernel_rfl) (by kernel_rfl) (fun _ _ _ h => h) (.inl ⟨rfl, fun W hW => ?y3⟩) hS ?_
          case y3 => go_simp
          refine wpAnyH_take (i := 4) (v := .string p) rfl (by kernel_rfl) (by kernel_rfl) (by kernel_rfl) (fun _ _ _ h => h) (.inl ⟨rfl, fun W hW => ?y4⟩) hS ?_
          case y4 => (have h2 := hW.2; go_simp)
          refine wpAnyH_ready (rs := [5, 9]) (by kernel_rfl) (by simp) ?_
          refine AllReadyH.cons rfl (fun K hK => ?_) (AllReadyH.cons rfl (fun K hK => ?_) AllReadyH.nil)
          · go_simp
            refine (cR _).mono ?_
            rintro e w' ⟨ra, rm, rc, rx, ry, rfl, hB, hCC⟩
            simp only []
            have HCC : Hid (ruleB n p.data.toList = true → rm = (rulR p.data.toList).1.length ∧ rx = (rulR p.data.toList).2.1 ∧ ry = (rulR p.data.toList).2.2 ∧ CelB w' wr.heap.size 9 ra ((rulR p.data.toList).1.map strV)) := hCC
            clear hCC
            refine hK.out _ _ ⟨(hB.block _ hxw).trans HBX, (hB.cell (p := ⟨g, k, none⟩) hxg).trans hst⟩ (fun hS2 => ?_)
            clear hK
            refine wpAnyH_take (i := 6) rfl (by kernel_rfl) (by kernel_rfl) (by kernel_rfl) (fun _ _ _ h => h) (.inl ⟨rfl, fun W hW => rfl⟩) hS2 ?_
            refine wpAnyH_take (i := 7) (v := .agg (rulA ra rm rc rx ry)) rfl (by kernel_rfl) (by kernel_rfl) (by kernel_rfl) (fun _ _ _ h => h) (.inl ⟨rfl, fun W hW => rfl⟩) hS2 ?_
            refine wpAnyH_take (i := 8) (v := .bool (ruleB n p.data.toList)) rfl (by kernel_rfl) (by kernel_rfl) (by kernel_rfl) (fun _ _ _ h => h) (.inl ⟨rfl, fun W hW => rfl⟩) hS2 ?_
            have hsw := hB.size
            refine wpAnyH_ready (rs := [9]) (by kernel_rfl) (by simp) ?_
            refine AllReadyH.cons rfl (fun K hK => ?_) AllReadyH.nil
            go_simp
            refine hK.out _ _ ⟨(Below.heap_alloc _ _ _ (Nat.lt_of_lt_of_le hxw hsw)).trans hS2.1, (World.cell?_alloc_some _ _ _ (by rw [hS2.2]; rfl)).trans hS2.2⟩ (fun hS3 => ?_)
            clear hK
            refine wpAnyH_ready (rs := [10]) (by kernel_rfl) (by simp) ?_
            refine AllReadyH.cons rfl (fun K hK => ?_) AllReadyH.nil
            rw [if_pos (by rfl)]
            refine wp_store_row 220 _ _ rfl w'.heap.size (rulA ra rm rc rx ry) rfl rfl 220 zRul (heap_new w' _) infoRul rfl (rulA_all _ _ _ _ _) ?_
            rw [World.setRow_alloc_new]
            refine hK.out _ _ ⟨(Below.heap_alloc _ _ _ (Nat.lt_of_lt_of_le hxw hsw)).trans hS2.1, (World.cell?_alloc_some _ _ _ (by rw [hS2.2]; rfl)).trans hS2.2⟩ (fun hS4 => ?_)
            clear hK
            refine wpAnyH_take (i := 11) (v := .bool (ruleB n p.data.toList)) rfl (by kernel_rfl) (by kernel_rfl) (by kernel_rfl) (fun _ _ _ h => h) (.inl ⟨rfl, fun W hW => rfl⟩) hS4 ?_
            refine wpAnyH_done (by kernel_rfl) ?_ _
            have HAF : Hid (After w2 wr w'.heap.size (rulA ra rm rc rx ry) (w'.alloc (.cells (rulA ra rm rc rx ry) 220))) := after1 HBB.out hB
            have HC4 : Hid (ruleB n p.data.toList = true → rm = (rulR p.data.toList).1.length ∧ rx = (rulR p.data.toList).2.1 ∧ ry = (rulR p.data.toList).2.2 ∧ CelB (w'.alloc (.cells (rulA ra rm rc rx ry) 220)) wr.heap.size 9 ra ((rulR p.data.toList).1.map strV)) := fun h => ⟨(HCC.out h).1, (HCC.out h).2.1, (HCC.out h).2.2.1, (HCC.out h).2.2.2.below ((Below.refl _ _).alloc (Nat.le_refl _) _)⟩
            clear HCC
            generalize w'.alloc (.cells (rulA ra rm rc rx ry) 220) = W4 at *
            generalize w'.heap.size = N at *
            cases e1 : ruleB n p.data.toList
            · have HF : Hid (rulesV n c.pol.data.toList = k) := by show _ = _; rw [HC.out, if_neg (by rw [e1]; simp)]
              go_wp2
              go_ret2
              exact ⟨_, _, _, by rw [HF.out]; rfl, HBW.out.trans (HAF.out.below.mono (by omega)), fun e => by rw [HF.out] at e; omega⟩
            · by_cases h16 : (16 : Int) ≤ k
              · have HF : Hid (rulesV n c.pol.data.toList = k) := by show _ = _; rw [HC.out, if_neg (by omega)]
                go_wp2
                go_ret2
                exact ⟨_, _, _, by rw [HF.out]; rfl, HBW.out.trans (HAF.out.below.mono (by omega)), fun e => by rw [HF.out] at e; omega⟩
              · have HF : Hid (rulesV n c.pol.data.toList = firstBad n ((ps.map (·.data.toList)).drop (k + 1)) (k + 1)) := by show _ = _; rw [HC.out, if_pos ⟨e1, by omega⟩]
                have HO4 : Hid (W4.ownsRow w2.heap.size 220 3 (.slice ao k cv) k xs) := own_keep HOW.out HAF.out.same
                have hs4 : w2.heap.size ≤ W4.heap.size := HAF.out.below.size
                have HRW4 : Hid (RwB W4 w2.heap.size 9 xs ((ps.take k).map fun p => enR (rulR p.data.toList))) := HRW.out.kept fun b cur fr k1 k3 => ⟨k1, (HAF.out.same b (Array.getElem?_eq_some_iff.1 k3).1).trans k3⟩
                have HC5 : Hid (rm = (rulR p.data.toList).1.length ∧ rx = (rulR p.data.toList).2.1 ∧ ry = (rulR p.data.toList).2.2 ∧ CelB W4 w2.heap.size 9 ra ((rulR p.data.toList).1.map strV)) := ⟨(HC4.out e1).1, (HC4.out e1).2.1, (HC4.out e1).2.2.1, (HC4.out e1).2.2.2.kept fun b cur fr k1 k3 => ⟨by omega, k3⟩⟩
                clear HC4
                have HROW : Hid (W4.heap[N]? = some (.cells #[.slice ra rm rc, .int .i64 rx, .int .i64 ry] 220)) := HAF.out.row
                go_wp2_with (first
                  | (refine wpList_load_row rfl 220 _ rfl _ rfl _ _ _ _ HROW.out Tryz.underlying220 rfl infoRul ?_)
                  | (at_builtin; refine wpList_append_own _ rfl _ _ 152 rfl w2.heap.size 220 i0 (.agg zRul) 3 40 Tryz.underlying152 hi hz0 hz1 hz2 rfl (by decide) _ _ _ rfl (HO4.out.alloc _) ⟨W4.heap.size, 0, none⟩ 1 1 [.slice ra rm rc, .int .i64 rx, .int .i64 ry] rfl rfl (cell_row_new _ _ _) (fun x hx => by simp at hx; rcases hx with rfl | rfl | rfl <;> rfl) (by unfold maxLen; omega) (by omega) (by simp; omega) ?_; intro v' w5 hown' hgrow5 hnil5))
                go_roundg gg
                case measure => omega
                case rel =>
                  obtain ⟨g3, cap3, hv3⟩ : ∃ g3 cap3, v' = .slice (some ⟨g3, 0, none⟩) (k + 1) cap3 := by
                    rcases hown'.2 with ⟨_, h⟩ | ⟨g3, cap3, _, h, _⟩
                    · omega
                    · exact ⟨g3, cap3, h⟩
                  exact ⟨k + 1, xs ++ [Value.slice ra rm rc, Value.int .i64 rx, Value.int .i64 ry], some ⟨g3, 0, none⟩, cap3, by show _ = _; have := hk.out; omega, hv3, by go_num, (by show World.ownsRow _ _ _ _ _ _ _; exact hown'), (HAF.out.below.alloc hs4 _).grown hgrow5 (by simp; omega) (fun q hq => (HO4.out.lt q hq).1), HF.out, by have h := rr_push (rc := rc) HO4.out HRW4.out HC5.out hgrow5; rw [HP.out] at h; rw [List.take_succ_eq_append_getElem hkn, List.map_append]; exact h⟩
          · go_simp
            refine hK.out _ _ ⟨(Below.heap_alloc _ _ _ hxw).trans HBX, (World.cell?_alloc_some _ _ _ (by rw [hst]; rfl)).trans hst⟩ (fun hS2 => ?_)
            clear hK
            refine wpAnyH_ready (rs := [5]) (by kernel_rfl) (by simp) ?_
            refine AllReadyH.cons rfl (fun K hK => ?_) AllReadyH.nil
            go_simp
            refine (cR _).mono ?_
            rintro e w' ⟨ra, rm, rc, rx, ry, rfl, hB, hCC⟩
            simp only []
            have HCC : Hid (ruleB n p.data.toList = true → rm = (rulR p.data.toList).1.length ∧ rx = (rulR p.data.toList).2.1 ∧ ry = (rulR p.data.toList).2.2 ∧ CelB w' (wr.heap.size + 1) 9 ra ((rulR p.data.toList).1.map strV)) := by have h := hCC; simp only [World.size_alloc, World.drew] at h; exact h
            clear hCC
            have hB' : Below (wr.heap.size + 1) (wr.alloc (.cells zRul 220)).drew w' := by have := hB; simp only [World.size_alloc, World.drew] at this; exact this
            refine hK.out _ _ ⟨(hB'.block _ (by omega)).trans hS2.1, (hB'.cell (p := ⟨g, k, none⟩) (show g < _ by omega)).trans hS2.2⟩ (fun hS3 => ?_)
            clear hK
            refine wpAnyH_take (i := 6) rfl (by kernel_rfl) (by kernel_rfl) (by kernel_rfl) (fun _ _ _ h => h) (.inl ⟨rfl, fun W hW => rfl⟩) hS3 ?_
            refine wpAnyH_take (i := 7) (v := .agg (rulA ra rm rc rx ry)) rfl (by kernel_rfl) (by kernel_rfl) (by kernel_rfl) (fun _ _ _ h => h) (.inl ⟨rfl, fun W hW => rfl⟩) hS3 ?_
            refine wpAnyH_take (i := 8) (v := .bool (ruleB n p.data.toList)) rfl (by kernel_rfl) (by kernel_rfl) (by kernel_rfl) (fun _ _ _ h => h) (.inl ⟨rfl, fun W hW => rfl⟩) hS3 ?_
            refine wpAnyH_ready (rs := [10]) (by kernel_rfl) (by simp) ?_
            refine AllReadyH.cons rfl (fun K hK => ?_) AllReadyH.nil
            rw [if_pos (by rfl)]
            refine wp_store_row 220 _ _ rfl wr.heap.size (rulA ra rm rc rx ry) rfl rfl 220 zRul ((hB'.block _ (by omega)).trans (heap_new wr _)) infoRul rfl (rulA_all _ _ _ _ _) ?_
            have HAF : Hid (After w2 wr wr.heap.size (rulA ra rm rc rx ry) (w'.setRow wr.heap.size (rulA ra rm rc rx ry))) := after2 HBB.out hB'
            refine hK.out _ _ ⟨(HAF.out.same _ hxw).trans HBX, (World.cell?_of_block (w := wr) (HAF.out.same g hxg)).trans hst⟩ (fun hS4 => ?_)
            clear hK
            refine wpAnyH_take (i := 11) (v := .bool (ruleB n p.data.toList)) rfl (by kernel_rfl) (by kernel_rfl) (by kernel_rfl) (fun _ _ _ h => h) (.inl ⟨rfl, fun W hW => rfl⟩) hS4 ?_
            refine wpAnyH_done (by kernel_rfl) ?_ _
            have HC4 : Hid (ruleB n p.data.toList = true → rm = (rulR p.data.toList).1.length ∧ rx = (rulR p.data.toList).2.1 ∧ ry = (rulR p.data.toList).2.2 ∧ CelB (w'.setRow wr.heap.size (rulA ra rm rc rx ry)) wr.heap.size 9 ra ((rulR p.data.toList).1.map strV)) := fun h => ⟨(HCC.out h).1, (HCC.out h).2.1, (HCC.out h).2.2.1, (HCC.out h).2.2.2.kept fun b cur fr h1 h3 => ⟨by omega, (setRow_other _ wr.heap.size b _ (by omega)).trans h3⟩⟩
            clear HCC
            generalize w'.setRow wr.heap.size (rulA ra rm rc rx ry) = W4 at *
            cases e1 : ruleB n p.data.toList
            · have HF : Hid (rulesV n c.pol.data.toList = k) := by show _ = _; rw [HC.out, if_neg (by rw [e1]; simp)]
              go_wp2
              go_ret2
              exact ⟨_, _, _, by rw [HF.out]; rfl, HBW.out.trans (HAF.out.below.mono (by omega)), fun e => by rw [HF.out] at e; omega⟩
            · by_cases h16 : (16 : Int) ≤ k
              · have HF : Hid (rulesV n c.pol.data.toList = k) := by show _ = _; rw [HC.out, if_neg (by omega)]
                go_wp2
                go_ret2
                exact ⟨_, _, _, by rw [HF.out]; rfl, HBW.out.trans (HAF.out.below.mono (by omega)), fun e => by rw [HF.out] at e; omega⟩
              · have HF : Hid (rulesV n c.pol.data.toList = firstBad n ((ps.map (·.data.toList)).drop (k + 1)) (k + 1)) := by show _ = _; rw [HC.out, if_pos ⟨e1, by omega⟩]
                have HO4 : Hid (W4.ownsRow w2.heap.size 220 3 (.slice ao k cv) k xs) := own_keep HOW.out HAF.out.same
                have hs4 : w2.heap.size ≤ W4.heap.size := HAF.out.below.size
                have HRW4 : Hid (RwB W4 w2.heap.size 9 xs ((ps.take k).map fun p => enR (rulR p.data.toList))) := HRW.out.kept fun b cur fr k1 k3 => ⟨k1, (HAF.out.same b (Array.getElem?_eq_some_iff.1 k3).1).trans k3⟩
                have HC5 : Hid (rm = (rulR p.data.toList).1.length ∧ rx = (rulR p.data.toList).2.1 ∧ ry = (rulR p.data.toList).2.2 ∧ CelB W4 w2.heap.size 9 ra ((rulR p.data.toList).1.map strV)) := ⟨(HC4.out e1).1, (HC4.out e1).2.1, (HC4.out e1).2.2.1, (HC4.out e1).2.2.2.kept fun b cur fr k1 k3 => ⟨by omega, k3⟩⟩
                clear HC4
                have HROW : Hid (W4.heap[wr.heap.size]? = some (.cells #[.slice ra rm rc, .int .i64 rx, .int .i64 ry] 220)) := HAF.out.row
                go_wp2_with (first
                  | (refine wpList_load_row rfl 220 _ rfl _ rfl _ _ _ _ HROW.out Tryz.underlying220 rfl infoRul ?_)
                  | (at_builtin; refine wpList_append_own _ rfl _ _ 152 rfl w2.heap.size 220 i0 (.agg zRul) 3 40 Tryz.underlying152 hi hz0 hz1 hz2 rfl (by decide) _ _ _ rfl (HO4.out.alloc _) ⟨W4.heap.size, 0, none⟩ 1 1 [.slice ra rm rc, .int .i64 rx, .int .i64 ry] rfl rfl (cell_row_new _ _ _) (fun x hx => by simp at hx; rcases hx with rfl | rfl | rfl <;> rfl) (by unfold maxLen; omega) (by omega) (by simp; omega) ?_; intro v' w5 hown' hgrow5 hnil5))
                go_roundg gg
                case measure => omega
                case rel =>
                  obtain ⟨g3, cap3, hv3⟩ : ∃ g3 cap3, v' = .slice (some ⟨g3, 0, none⟩) (k + 1) cap3 := by
                    rcases hown'.2 with ⟨_, h⟩ | ⟨g3, cap3, _, h, _⟩
                    · omega
                    · exact ⟨g3, cap3, h⟩
                  exact ⟨k + 1, xs ++ [Value.slice ra rm rc, Value.int .i64 rx, Value.int .i64 ry], some ⟨g3, 0, none⟩, cap3, by show _ = _; have := hk.out; omega, hv3, by go_num, (by show World.ownsRow _ _ _ _ _ _ _; exact hown'), (HAF.out.below.alloc hs4 _).grown hgrow5 (by simp; omega) (fun q hq => (HO4.out.lt q hq).1), HF.out, by have h := rr_push (rc := rc) HO4.out HRW4.out HC5.out hgrow5; rw [HP.out] at h; rw [List.take_succ_eq_append_getElem hkn, List.map_append]; exact h⟩
    · have HV : Hid (rulesV n c.pol.data.toList = -1) := by
        show _ = _
        have h0 : c.pol.data.toList = [] := by rw [← Lib.toList_data]; exact eq_of_beq he
        unfold rulesV; rw [h0]; rfl
      go_enter Tryz.func80, Tryz.ntmps80
      go_wp2
      go_ret2
      refine ⟨none, 0, 0, by rw [HV.out]; rfl, (Below.refl _ _).alloc (Nat.le_refl _) _, fun _ => ?_⟩
      have hp : polR c.pol.data.toList = [] := by
        have h0 : c.pol.data.toList = [] := by rw [← Lib.toList_data]; exact eq_of_beq he
        unfold polR; rw [h0]; rfl
      rw [hp]
      exact ⟨[], World.ownsRow_nil _ _ _ _, rwB_nil _ _ _⟩
end Go.Proofs.YtllcbnfmihfaaaaGreatDoor
