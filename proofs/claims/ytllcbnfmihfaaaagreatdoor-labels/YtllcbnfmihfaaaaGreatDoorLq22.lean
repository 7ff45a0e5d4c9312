import Derived.Lib.TrimUEq
import Derived.RangeFuncRecord
import Derived.Shelf.Unicode.ValidAny
import Derived.Test.YtllcbnfmihfaaaaGreatDoorLq14
import Derived.Test.YtllcbnfmihfaaaaGreatDoorLq18
import Derived.Test.YtllcbnfmihfaaaaGreatDoorLq21
namespace Go.Proofs.YtllcbnfmihfaaaaGreatDoor
open Go.RowKit Go.Shelf

/-- 'next' on the iterator over a string, wherever its block lies. -/
theorem run_next_at {P : Program} (W : World) (N : Nat) (s : ByteArray) (pos : Nat) (ty : TypeId) (hN : W.heap[N]? = some (.stringIter s pos)) (h : pos < s.size) :
    (Instr.next (.pointer (some ⟨N, 0, none⟩)) true ty).run P W =
      .ok (.tuple #[.bool true, .int .i64 pos, .int .i32 (Utf8.decode s pos).1]) (W.putObj N (.stringIter s (pos + (Utf8.decode s pos).2))) := by
  simp only [Instr.next, getObj, setObj, Sem.run_bind, Sem.run, hN, Result.andThen, h, if_true, World.putObj]
  simp [goInt]
theorem run_next_stop {P : Program} (W : World) (N : Nat) (s : ByteArray) (pos : Nat) (ty : TypeId) (hN : W.heap[N]? = some (.stringIter s pos)) (h : ¬ pos < s.size) :
    (Instr.next (.pointer (some ⟨N, 0, none⟩)) true ty).run P W = .ok (.tuple #[.bool false]) W := by
  simp [Instr.next, getObj, Sem.run, hN, h]
theorem below_putObj {B : Nat} {a w : World} (h : Below B a w) {g : Nat} (hg : B ≤ g) (o : Obj) : Below B a (w.putObj g o) :=
  h.trans ⟨rfl, rfl, rfl, by simp [World.putObj], fun k hk => World.putObj_heap_other (by omega)⟩

/-- What isLiteral's loop stands on. -/
structure IterAt (w : World) (N : Nat) (s : ByteArray) (i : Nat) (W : World) : Prop where
  below : Below w.heap.size w W
  it : W.heap[N]? = some (.stringIter s i)
theorem IterAt.step {w : World} {N : Nat} {s : ByteArray} {i : Nat} {W W' : World} (h : IterAt w N s i W) (hb : Below W.heap.size W W') : IterAt w N s i W' :=
  ⟨h.below.trans (hb.mono h.below.size), (hb.block _ (Array.getElem?_eq_some_iff.1 h.it).1).trans h.it⟩
theorem IterAt.next {w : World} {N : Nat} {s : ByteArray} {i : Nat} {W : World} (h : IterAt w N s i W) (hN : w.heap.size ≤ N) (j : Nat) : IterAt w N s j (W.putObj N (.stringIter s j)) :=
  ⟨below_putObj h.below hN _, World.putObj_heap_same (Array.getElem?_eq_some_iff.1 h.it).1⟩

theorem badR_cases (r : Nat) : badR r = (decide ((r : Int) ≤ 32) || sgnB (r : Int)) := by
  unfold badR sgnB
  rw [Bool.eq_iff_iff]
  simp only [Bool.or_eq_true, decide_eq_true_eq, beq_iff_eq]
  omega

set_option maxRecDepth 100000 in
set_option maxHeartbeats 2000000 in
theorem isLiteral_any (s : ByteArray) (w : World) (hs : s.size ≤ 2000) (hg : Glob w) :
    Calls Tryz.prog 217 #[.string s] w fun e w' => e = .returned (.bool (litB s.data.toList)) ∧ Below w.heap.size w w' := by
  have hl : s.data.toList.length = s.size := Array.length_toList
  have cV : Calls Tryz.prog 236 #[.string s] w fun e w' => e = .returned (.bool (Lib.validD s.data.toList)) ∧ Below w.heap.size w w' :=
    Any.utf8_ValidString Tryz.lays196 s w (by omega) hg.tabs
  clear hg
  cases hv : Lib.validD s.data.toList
  · have HB : Hid (litB s.data.toList = false) := by show _ = _; rw [litB_eq, hv]; rfl
    rw [hv] at cV
    clear hv
    go_enter Tryz.func217, Tryz.ntmps217
    go_wp2_with (first | (go_at_call 236; refine cV.mono ?_; clear cV; rintro e w2 ⟨rfl, hB⟩))
    go_ret
    exact ⟨by rw [HB.out]; rfl, hB⟩
  · obtain ⟨A, HA⟩ : ∃ A, Hid (litQ s.data.toList.length s.data.toList = A) := ⟨_, show _ = _ from rfl⟩
    have HB : Hid (litB s.data.toList = cntB A) := by show _ = _; rw [litB_eq, hv, HA.out]; rfl
    rw [hv] at cV
    clear hv
    go_enter Tryz.func217, Tryz.ntmps217
    go_wp2_with (first | (go_at_call 236; refine cV.mono ?_; clear cV; rintro e w2 ⟨rfl, hB⟩))
    have HI : Hid (IterAt w w2.heap.size s 0 (w2.iter s 0)) := ⟨hB.alloc hB.size _, World.iter_heap _ _ _⟩
    have hN : w.heap.size ≤ w2.heap.size := hB.size
    clear hB
    generalize w2.iter s 0 = W0 at *
    generalize w2.heap.size = N at *
    go_loopg [3, 5] s.size (fun g x _ wr => ∃ n i : Nat, x = .int .i64 n ∧ Hid (n ≤ i) ∧ Hid (i ≤ s.size) ∧ Hid (s.size ≤ i + g) ∧ Hid (IterAt w N s i wr) ∧ Hid (A = (litQ g (s.data.toList.drop i)).map (· + n)))
    case atStart =>
      refine ⟨0, 0, rfl, Nat.le_refl _, Nat.zero_le _, by show _ ≤ _; omega, HI, ?_⟩
      show _ = _
      rw [← HA.out, hl, List.drop_zero]
      cases litQ s.size s.data.toList <;> rfl
    case round =>
      clear HI
      obtain ⟨n, i, rfl, hni, his, hig, HI, HL⟩ := hrel
      by_cases h1 : i = s.size
      · have HF : Hid (litB s.data.toList = decide (1 ≤ n ∧ n ≤ 16)) := by
          show _ = _
          have hA : A = some n := by
            rw [HL.out, h1, ← hl, List.drop_length]
            cases gk <;> simp [litQ]
          rw [HB.out, hA]; rfl
        have hnx := fun ty => run_next_stop (P := Tryz.prog) wr N s i ty HI.out.it (by omega)
        clear h1
        by_cases ha : (1 : Int) ≤ n
        · by_cases hb : (n : Int) ≤ 16
          · have HF2 : Hid (litB s.data.toList = true) := by show _ = _; rw [HF.out, decide_eq_true (by omega)]
            go_wp2
            go_ret
            exact ⟨by rw [HF2.out]; rfl, HI.out.below⟩
          · have HF2 : Hid (litB s.data.toList = false) := by show _ = _; rw [HF.out, decide_eq_false (by omega)]
            go_wp2
            go_ret
            exact ⟨by rw [HF2.out]; rfl, HI.out.below⟩
        · have HF2 : Hid (litB s.data.toList = false) := by show _ = _; rw [HF.out, decide_eq_false (by omega)]
          go_wp2
          go_ret
          exact ⟨by rw [HF2.out]; rfl, HI.out.below⟩
      · have hn : i < s.size := by have := his.out; omega
        obtain ⟨g, rfl⟩ : ∃ g, gk = g + 1 := ⟨gk - 1, by have := hig.out; omega⟩
        have hnx := fun ty => run_next_at (P := Tryz.prog) wr N s i ty HI.out.it hn
        obtain ⟨r, hr⟩ : ∃ r, (Utf8.decode s i).1 = r := ⟨_, rfl⟩
        obtain ⟨k, hk⟩ : ∃ k, (Utf8.decode s i).2 = k := ⟨_, rfl⟩
        rw [hr, hk] at hnx
        have HD : Hid (s.data.toList.drop i = s[i] :: s.data.toList.drop (i + 1)) := by show _ = _; rw [List.drop_eq_getElem_cons (by omega)]; rfl
        have hde := Lib.decodeL_drop s i
        have HC : Hid (litQ (g + 1) (s.data.toList.drop i) = if badR r = true then none else (litQ g (s.data.toList.drop (i + k))).map (· + 1)) := by
          show _ = _
          have h0 : (Lib.decodeL (s.data.toList.drop i)).1 = r := by rw [hde]; exact hr
          have h1 : (Lib.decodeL (s.data.toList.drop i)).2 = k := by rw [hde]; exact hk
          rw [HD.out] at h0 h1 ⊢
          rw [litQ, h0, h1, ← HD.out, List.drop_drop]
        have hk1 : 1 ≤ k := by have := Lib.decodeL_width (s.data.toList.drop i); rw [hde, hk] at this; exact this
        have hkl : k ≤ s.size - i := by
          have := Lib.decodeL_le (s.data.toList.drop i) (by intro h; have := congrArg List.length h; rw [List.length_drop] at this; simp at this; omega)
          rw [hde, hk, List.length_drop] at this
          omega
        have HN : Hid (badR r = true → litB s.data.toList = false) := fun h => by
          have hA : A = none := by rw [HL.out, HC.out, if_pos h]; rfl
          rw [HB.out, hA]; rfl
        have HY : Hid (badR r = false → A = (litQ g (s.data.toList.drop (i + k))).map (· + (n + 1))) := fun h => by
          rw [HL.out, HC.out, if_neg (by rw [h]; simp), Option.map_map]
          congr 1
          funext x
          simp only [Function.comp]
          omega
        have HI2 : Hid (IterAt w N s (i + k) (wr.putObj N (.stringIter s (i + k)))) := HI.out.next hN _
        have hn9 : n ≤ 2000 := by have := hni.out; have := his.out; omega
        have HBD := badR_cases r
        clear HD HC HL hde hr hk HI h1
        generalize wr.putObj N (.stringIter s (i + k)) = W2 at *
        by_cases h32 : (r : Int) ≤ 32
        · have HF := HN.out (by rw [HBD, decide_eq_true h32]; rfl)
          have HF2 : Hid (litB s.data.toList = false) := HF
          clear HF HBD
          go_wp2
          go_ret
          exact ⟨by rw [HF2.out]; rfl, HI2.out.below⟩
        · have cC := containsRune_any (r : Int) (by omega) W2
          rw [decide_eq_false h32, Bool.false_or] at HBD
          cases hsg : sgnB (r : Int)
          · have HT : Hid (A = (litQ g (s.data.toList.drop (i + k))).map (· + (n + 1))) := HY.out (by rw [HBD, hsg])
            rw [hsg] at cC
            clear HBD HN HY hsg
            go_wp2_with (first | (go_at_call 237; refine cC.mono ?_; clear cC; rintro e w3 ⟨rfl, hB3⟩; have HI3 : Hid (IterAt w N s (i + k) w3) := HI2.out.step hB3; clear HI2 hB3))
            go_roundg g
            case measure => omega
            case rel =>
              refine ⟨n + 1, i + k, by go_num, ?_, ?_, ?_, HI3, HT⟩
              all_goals (show _ ≤ _; have := hni.out; have := his.out; have := hig.out; omega)
          · have HF2 : Hid (litB s.data.toList = false) := HN.out (by rw [HBD, hsg])
            rw [hsg] at cC
            clear HBD HN HY hsg
            go_wp2_with (first | (go_at_call 237; refine cC.mono ?_; clear cC; rintro e w3 ⟨rfl, hB3⟩; have HI3 : Hid (IterAt w N s (i + k) w3) := HI2.out.step hB3; clear HI2 hB3))
            go_ret
            exact ⟨by rw [HF2.out]; rfl, HI3.out.below⟩
end Go.Proofs.YtllcbnfmihfaaaaGreatDoor
