import Derived.Test.YtllcbnfmihfaaaaGreatDoorLq02
import Derived.Test.YtllcbnfmihfaaaaGreatDoorLq14
import Derived.Test.YtllcbnfmihfaaaaGreatDoorLq15
namespace Go.Proofs.YtllcbnfmihfaaaaGreatDoor
open Go.RowKit

def zRul : Array Value := #[.slice none 0 0, .int .i64 0, .int .i64 0]
def rulA (a : Option Addr) (n cap : Nat) (x y : Int) : Array Value := #[.slice a n cap, .int .i64 x, .int .i64 y]
theorem rulA_all (a : Option Addr) (n cap : Nat) (x y : Int) : (rulA a n cap x y).all (·.oneCell') = true := by simp [rulA, Value.oneCell']
theorem zRul_all : zRul.all (·.oneCell') = true := rulA_all none 0 0 0 0
theorem built_rul (a : Option Addr) (n cap : Nat) (x y : Int) : Tryz.prog.built 220 [(0, .slice a n cap), (1, .int .i64 x), (2, .int .i64 y)] = some (rulA a n cap x y) := by kernel_rfl
theorem infoRul : (Tryz.prog.info? 220).map (·.size) = some 3 := by kernel_rfl

/-- A line: three parts. -/
def ruleL (n : Nat) : List (List UInt8) → Bool
  | [a, b, c] => patB a && (labB b n && actV ⟨c.toArray⟩ != 0)
  | _ => false
def ruleB (n : Nat) (l : List UInt8) : Bool := ruleL n (splitL 32 l)
theorem ruleL_not {n : Nat} {q : List (List UInt8)} (h : q.length ≠ 3) : ruleL n q = false := by
  match q, h with
  | [], _ => rfl
  | [_], _ => rfl
  | [_, _], _ => rfl
  | _ :: _ :: _ :: _ :: _, _ => rfl

structure RulAt (w : World) (arr : Array Value) (W : World) : Prop where
  below : Below w.heap.size w W
  box : W.heap[w.heap.size]? = some (.cells arr 45)
  res : W.heap[w.heap.size + 1]? = some (.cells zRul 220)
  lo : w.heap.size + 1 < W.heap.size
theorem RulAt.step {w : World} {arr : Array Value} {W W' : World} (h : RulAt w arr W) (hb : Below W.heap.size W W') : RulAt w arr W' := by
  have := h.lo
  exact ⟨h.below.trans (hb.mono h.below.size), (hb.block _ (by omega)).trans h.box, (hb.block _ (by omega)).trans h.res, Nat.lt_of_lt_of_le this hb.size⟩
theorem rulAt_mk (w w2 : World) (arr : Array Value) (hb : Below (w.heap.size + 1 + 1) ((w.alloc (.cells arr 45)).alloc (.cells zRul 220)) w2) : RulAt w arr w2 := by
  have hz := hb.size
  simp only [World.size_alloc] at hz
  refine ⟨(((Below.refl _ _).alloc (Nat.le_refl _) _).alloc (by simp) _).trans (hb.mono (by omega)), ?_, ?_, by omega⟩
  · rw [hb.block _ (by omega), Below.heap_alloc _ _ _ (by simp)]; exact heap_new _ _
  · rw [hb.block _ (by omega)]
    have := heap_new (w.alloc (.cells arr 45)) (.cells zRul 220)
    rwa [World.size_alloc] at this

theorem map3 {ps : List ByteArray} (h : ps.length = 3) : ∃ p0 p1 p2, ps = [p0, p1, p2] := by
  match ps, h with
  | [a, b, c], _ => exact ⟨a, b, c, rfl⟩
theorem back (p : ByteArray) : (⟨p.data.toList.toArray⟩ : ByteArray) = p := by cases p; rfl
theorem rule_cut {n : Nat} {l : List UInt8} {ps : List ByteArray} (HE : ps.map (·.data.toList) = splitL 32 l) :
    (ps.length ≠ 3 ∧ ruleB n l = false) ∨ ∃ p0 p1 p2, ps = [p0, p1, p2] ∧ ((p1.size ≠ 1 ∧ ruleB n l = false) ∨ ∃ h : p1.size = 1,
      ((p1[0].toNat : Int) < 48 ∧ ruleB n l = false) ∨ ((57 : Int) < p1[0].toNat ∧ ruleB n l = false) ∨
      ((48 : Int) ≤ p1[0].toNat ∧ (p1[0].toNat : Int) ≤ 57 ∧ ruleB n l = (patB p0.data.toList && (actV p2 != 0 && hasB n ((p1[0].toNat : Int) - 48))))) := by
  by_cases h3 : ps.length = 3
  · right
    obtain ⟨p0, p1, p2, rfl⟩ := map3 h3
    refine ⟨p0, p1, p2, rfl, ?_⟩
    have e : ruleB n l = (patB p0.data.toList && (labB p1.data.toList n && actV p2 != 0)) := by
      unfold ruleB
      rw [← HE]
      simp only [List.map_cons, List.map_nil, ruleL, back]
    by_cases h1 : p1.size = 1
    · right
      refine ⟨h1, ?_⟩
      rw [one_byte h1] at e
      by_cases ha : (p1[0].toNat : Int) < 48
      · left
        refine ⟨ha, ?_⟩
        rw [e]
        simp only [labB]
        rw [decide_eq_false (by omega)]
        simp
      · right
        by_cases hb : (57 : Int) < p1[0].toNat
        · left
          refine ⟨hb, ?_⟩
          rw [e]
          simp only [labB]
          rw [decide_eq_false (by omega)]
          simp
        · right
          refine ⟨by omega, by omega, ?_⟩
          rw [e]
          simp only [labB, hasB]
          rw [decide_eq_true (show 48 ≤ p1[0].toNat ∧ p1[0].toNat ≤ 57 by omega), Bool.true_and, Bool.and_comm (actV p2 != 0)]
          congr 2
          rw [decide_eq_decide]
          omega
    · left
      refine ⟨h1, ?_⟩
      rw [e, (lab_not (n := n) (by rw [Array.length_toList]; exact h1)).2]
      simp
  · left
    refine ⟨h3, ?_⟩
    unfold ruleB
    exact ruleL_not (by rw [← HE, List.length_map]; exact h3)

theorem rule_cut2 {n g : Nat} {s : ByteArray} {ps : List ByteArray} {w2 : World} (hs : s.size ≤ 100000) (HE : ps.map (·.data.toList) = splitL 32 s.data.toList) (hcs : ∀ j (hj : j < ps.length), w2.cell? ⟨g, j, none⟩ = some (.string ps[j])) :
    (¬ (ps.length : Int) = 3 ∧ Hid (ruleB n s.data.toList = false)) ∨
    (∃ p0 p1 p2, ps = [p0, p1, p2] ∧ w2.cell? ⟨g, 1, none⟩ = some (.string p1) ∧ ¬ (p1.size : Int) = 1 ∧ Hid (ruleB n s.data.toList = false)) ∨
    (∃ p0 p1 p2, ps = [p0, p1, p2] ∧ w2.cell? ⟨g, 1, none⟩ = some (.string p1) ∧ ∃ h : p1.size = 1, (p1.size : Int) = 1 ∧ (p1[0].toNat : Int) < 48 ∧ Hid (ruleB n s.data.toList = false)) ∨
    (∃ p0 p1 p2, ps = [p0, p1, p2] ∧ w2.cell? ⟨g, 1, none⟩ = some (.string p1) ∧ ∃ h : p1.size = 1, (p1.size : Int) = 1 ∧ (48 : Int) ≤ p1[0].toNat ∧ (57 : Int) < p1[0].toNat ∧ Hid (ruleB n s.data.toList = false)) ∨
    (∃ p0 p1 p2, ps = [p0, p1, p2] ∧ w2.cell? ⟨g, 0, none⟩ = some (.string p0) ∧ w2.cell? ⟨g, 1, none⟩ = some (.string p1) ∧ w2.cell? ⟨g, 2, none⟩ = some (.string p2) ∧ ∃ h : p1.size = 1, (p1.size : Int) = 1 ∧ (48 : Int) ≤ p1[0].toNat ∧ (p1[0].toNat : Int) ≤ 57 ∧ Hid (p0.size ≤ 100000) ∧
      Hid (ruleB n s.data.toList = (patB p0.data.toList && (actV p2 != 0 && hasB n ((p1[0].toNat : Int) - 48))))) := by
  rcases rule_cut (n := n) HE with ⟨h3, HF⟩ | ⟨p0, p1, p2, rfl, ⟨h1, HF⟩ | ⟨h1, ⟨h48, HF⟩ | ⟨h57, HF⟩ | ⟨h48, h57, HF⟩⟩⟩
  · exact Or.inl ⟨by omega, HF⟩
  · exact Or.inr (Or.inl ⟨p0, p1, p2, rfl, hcs 1 (by simp), by omega, HF⟩)
  · exact Or.inr (Or.inr (Or.inl ⟨p0, p1, p2, rfl, hcs 1 (by simp), h1, by omega, h48, HF⟩))
  · exact Or.inr (Or.inr (Or.inr (Or.inl ⟨p0, p1, p2, rfl, hcs 1 (by simp), h1, by omega, by omega, h57, HF⟩)))
  · refine Or.inr (Or.inr (Or.inr (Or.inr ⟨p0, p1, p2, rfl, hcs 0 (by simp), hcs 1 (by simp), hcs 2 (by simp), h1, by omega, h48, h57, ?_, HF⟩)))
    show _ ≤ _
    have := splitL_size 32 s.data.toList p0.data.toList (by rw [← HE]; simp)
    have h3 : s.data.toList.length = s.size := Array.length_toList
    have h4 : p0.data.toList.length = p0.size := Array.length_toList
    omega

set_option maxRecDepth 100000 in
set_option maxHeartbeats 4000000 in
theorem rule_any (arr : Array Value) (n : Nat) (f0 : arr[0]? = some (.int .i64 n)) (hsz : arr.size = 11) (s : ByteArray) (w : World) (hs : s.size ≤ 100000) :
    Calls Tryz.prog 130 #[.agg arr, .string s] w fun e w' =>
      ∃ a m cap x y, e = .returned (.tuple #[.agg (rulA a m cap x y), .bool (ruleB n s.data.toList)]) ∧ Below w.heap.size w w' := by
  have HS : Hid (arr.size = 11) := hsz
  have HF0 : Hid (arr[0]? = some (.int .i64 n)) := f0
  have HIR : Hid ((Tryz.prog.info? 220).map (·.size) = some zRul.size) := infoRul
  clear hsz f0
  go_enter Tryz.func130, Tryz.ntmps130
  have T1 : True := trivial
  have T2 : True := trivial
  go_wp2_with (first
    | (go_at_call 129; go_loud (clear T1; refine (split_any s 32 32 rfl _ hs).mono ?_; rintro e w2 ⟨v, ps, rfl, HO, HB, HE⟩; obtain ⟨g, cap, rfl, hg, hgs, hcs⟩ := strs_of_own HO (ne_len HE); have HT : Hid (RulAt w arr w2) := rulAt_mk w w2 arr (by simp only [World.size_alloc] at HB; exact HB); clear HB HO hg; rcases rule_cut2 (n := n) hs HE hcs with ⟨h3', HF⟩ | ⟨p0, p1, p2, rfl, hc1, h1', HF⟩ | ⟨p0, p1, p2, rfl, hc1, h1, h1', h48, HF⟩ | ⟨p0, p1, p2, rfl, hc1, h1, h1', h48, h57, HF⟩ | ⟨p0, p1, p2, rfl, hc0, hc1, hc2, h1, h1', h48, h57, HP0, HF⟩; all_goals clear HE hcs))
    | (refine wpList_store_row rfl 220 _ _ rfl (w.heap.size + 1) zRul rfl rfl 220 zRul HT.out.res HIR.out rfl zRul_all ?_))
  all_goals first
    | (refine bodyPost_ret (results_row_tmp Tryz.results130 _ _ (w.heap.size + 1) 220 zRul (0, 0) _ rfl (setRow_heap _ _ zRul _ _ _ HT.out.res) Tryz.underlying220 rfl infoRul (.bool false) rfl) rfl ⟨none, 0, 0, 0, 0, by rw [HF.out]; rfl, below_setRow HT.out.below (by omega) _⟩)
    | skip
  refine (pattern_any p0 _ HP0.out).mono ?_
  rintro e w3 ⟨pa, pm, pc, rfl, hB3⟩
  have HT3 : Hid (RulAt w arr w3) := HT.out.step hB3
  have hd1 : w3.cell? ⟨g, 1, none⟩ = some (.string p1) := (hB3.cell (p := ⟨g, 1, none⟩) hgs).trans hc1
  have hd2 : w3.cell? ⟨g, 2, none⟩ = some (.string p2) := (hB3.cell (p := ⟨g, 2, none⟩) hgs).trans hc2
  clear HT hc0 hc1 hc2 hB3 HP0
  cases e1 : patB p0.data.toList
  · have HFF : Hid (ruleB n s.data.toList = false) := by show _ = _; rw [HF.out, e1]; rfl
    clear HF
    go_wp2_with (first
      | (go_at_call 179; refine (action_any p2 _).mono ?_; rintro e w4 ⟨rfl, rfl⟩)
      | (refine wpList_store_row rfl 220 _ _ rfl (w.heap.size + 1) (rulA pa pm pc ((p1[0].toNat : Int) - 48) (actV p2)) rfl rfl 220 zRul HT3.out.res HIR.out rfl (rulA_all _ _ _ _ _) ?_))
    refine bodyPost_ret (results_row_tmp Tryz.results130 _ _ (w.heap.size + 1) 220 (rulA pa pm pc ((p1[0].toNat : Int) - 48) (actV p2)) (0, 0) _ rfl (setRow_heap _ _ zRul _ _ _ HT3.out.res) Tryz.underlying220 rfl infoRul (.bool false) rfl) rfl ⟨_, _, _, _, _, by rw [HFF.out], below_setRow HT3.out.below (by omega) _⟩
  · by_cases e2 : actV p2 = 0
    · have HFF : Hid (ruleB n s.data.toList = false) := by show _ = _; rw [HF.out, e1, e2]; rfl
      clear HF
      go_wp2_with (first
        | (go_at_call 179; refine (action_any p2 _).mono ?_; rintro e w4 ⟨rfl, rfl⟩)
        | (refine wpList_store_row rfl 220 _ _ rfl (w.heap.size + 1) (rulA pa pm pc ((p1[0].toNat : Int) - 48) 0) rfl rfl 220 zRul HT3.out.res HIR.out rfl (rulA_all _ _ _ _ _) ?_))
      refine bodyPost_ret (results_row_tmp Tryz.results130 _ _ (w.heap.size + 1) 220 (rulA pa pm pc ((p1[0].toNat : Int) - 48) 0) (0, 0) _ rfl (setRow_heap _ _ zRul _ _ _ HT3.out.res) Tryz.underlying220 rfl infoRul (.bool false) rfl) rfl ⟨_, _, _, _, _, by rw [HFF.out], below_setRow HT3.out.below (by omega) _⟩
    · have e2' : (actV p2 != 0) = true := by simp [e2]
      have HFF : Hid (ruleB n s.data.toList = hasB n ((p1[0].toNat : Int) - 48)) := by show _ = _; rw [HF.out, e1, e2']; rfl
      clear HF
      go_wp2_with (first
        | (go_at_call 179; refine (action_any p2 _).mono ?_; rintro e w4 ⟨rfl, rfl⟩)
        | (go_at_call 76; refine (label_any arr n HF0.out _ _).mono ?_; rintro e w5 ⟨rfl, hB5⟩; have HT5 : Hid (RulAt w arr w5) := HT3.out.step hB5)
        | (refine wpList_load_row_g 45 _ rfl ?hw _ rfl _ _ _ _ HT3.out.box Tryz.underlying45 rfl (infoCfg HS.out) ?_; case hw => simp [go_sem]; done)
        | (refine wpList_store_row rfl 220 _ _ rfl (w.heap.size + 1) (rulA pa pm pc ((p1[0].toNat : Int) - 48) (actV p2)) rfl rfl 220 zRul HT5.out.res HIR.out rfl (rulA_all _ _ _ _ _) ?_))
      refine bodyPost_ret (results_row_tmp Tryz.results130 _ _ (w.heap.size + 1) 220 (rulA pa pm pc ((p1[0].toNat : Int) - 48) (actV p2)) (0, 0) _ rfl (setRow_heap _ _ zRul _ _ _ HT5.out.res) Tryz.underlying220 rfl infoRul (.bool (hasB n ((p1[0].toNat : Int) - 48))) rfl) rfl ⟨_, _, _, _, _, by rw [HFF.out], below_setRow HT5.out.below (by omega) _⟩
end Go.Proofs.YtllcbnfmihfaaaaGreatDoor
