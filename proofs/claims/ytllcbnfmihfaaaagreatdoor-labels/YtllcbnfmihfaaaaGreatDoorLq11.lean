import Derived.Test.YtllcbnfmihfaaaaGreatDoorLq09
import Derived.Test.YtllcbnfmihfaaaaGreatDoorLq10
namespace Go.Proofs.YtllcbnfmihfaaaaGreatDoor
open Go.RowKit

theorem okAt_lt {lo hi : Int} {l : List UInt8} {j : Nat} (h : okAt lo hi l j = true) : j < l.length := by
  unfold okAt at h
  rw [Bool.and_eq_true] at h
  exact of_decide_eq_true h.1
theorem begF_le {lo hi : Int} {l : List UInt8} : ∀ {g j : Nat}, (begF lo hi l g j).2 = true → j ≤ l.length → (begF lo hi l g j).1 ≤ l.length
  | 0, _, _, hj => hj
  | g + 1, j, h, _ => by
    unfold begF at h ⊢
    by_cases ho : okAt lo hi l j = true
    · rw [if_pos ho] at h ⊢
      exact begF_le h (okAt_lt ho)
    · rw [if_neg ho] at h
      exact absurd h (by simp)
theorem szL_le (l : List UInt8) (hl : 0 < l.length) : szL l ≤ l.length := by
  unfold szL
  by_cases h : (begV l).2 = true
  · rw [if_pos h]
    unfold begV at h ⊢
    by_cases hk : (secs (l.getD 0 0).toNat).2.2 = 0
    · rw [if_pos hk]; exact Nat.zero_le _
    · rw [if_neg hk] at h ⊢
      exact begF_le h hl
  · rw [if_neg h]; exact Nat.zero_le _

/-- No byte of a literal begins so. -/
def badB (b : UInt8) : Bool := decide (b.toNat ≤ 32) || (b.toNat == 42 || (b.toNat == 91 || (b.toNat == 93 || (b.toNat == 47 || b.toNat == 46))))
/-- How many characters; none: it is none. -/
def litC : Nat → List UInt8 → Option Nat
  | _, [] => some 0
  | 0, _ :: _ => none
  | g + 1, b :: t => if szL (b :: t) = 0 ∨ badB b = true then none else (litC g ((b :: t).drop (szL (b :: t)))).map (· + 1)
def cntB : Option Nat → Bool
  | some n => decide (1 ≤ n ∧ n ≤ 16)
  | none => false
def litB (l : List UInt8) : Bool := cntB (litC l.length l)

set_option maxRecDepth 100000 in
set_option maxHeartbeats 2000000 in
theorem literal_any (s : ByteArray) (w : World) (hs : s.size ≤ 4611686018427387904) :
    Calls Tryz.prog 211 #[.string s] w fun e w' => e = .returned (.bool (litB s.data.toList)) ∧ w' = w := by
  have hl : s.data.toList.length = s.size := Array.length_toList
  obtain ⟨A, HA⟩ : ∃ A, Hid (litC s.data.toList.length s.data.toList = A) := ⟨_, show _ = _ from rfl⟩
  have HB : Hid (litB s.data.toList = cntB A) := by show _ = _; unfold litB; rw [HA.out]
  go_enter Tryz.func211, Tryz.ntmps211
  go_wp2
  go_loopg [3, 4] s.size (fun g x y wr => ∃ n i : Nat, x = .int .i64 n ∧ y = .int .i64 i ∧ w = wr ∧ Hid (n ≤ i) ∧ Hid (i ≤ s.size) ∧ Hid (s.size ≤ i + g) ∧ Hid (A = (litC g (s.data.toList.drop i)).map (· + n)))
  case atStart =>
    refine ⟨0, 0, rfl, rfl, rfl, Nat.le_refl _, Nat.zero_le _, by show _ ≤ _; omega, ?_⟩
    show _ = _
    rw [← HA.out, hl, List.drop_zero]
    cases litC s.size s.data.toList <;> rfl
  case round =>
    obtain ⟨n, i, rfl, rfl, rfl, hni, his, hig, HL⟩ := hrel
    by_cases h1 : i = s.size
    · have hlt : ¬ (i : Int) < s.size := by omega
      have HF : Hid (litB s.data.toList = decide (1 ≤ n ∧ n ≤ 16)) := by
        show _ = _
        have hA : A = some n := by
          rw [HL.out, h1, ← hl, List.drop_length]
          cases gk <;> simp [litC]
        rw [HB.out, hA]; rfl
      by_cases ha : (1 : Int) ≤ n
      · by_cases hb : (n : Int) ≤ 16
        · have HF2 : Hid (litB s.data.toList = true) := by show _ = _; rw [HF.out, decide_eq_true (by omega)]
          go_wp2
          go_ret
          exact ⟨by rw [HF2.out]; rfl, rfl⟩
        · have HF2 : Hid (litB s.data.toList = false) := by show _ = _; rw [HF.out, decide_eq_false (by omega)]
          go_wp2
          go_ret
          exact ⟨by rw [HF2.out]; rfl, rfl⟩
      · have HF2 : Hid (litB s.data.toList = false) := by show _ = _; rw [HF.out, decide_eq_false (by omega)]
        go_wp2
        go_ret
        exact ⟨by rw [HF2.out]; rfl, rfl⟩
    · have hlt : (i : Int) < s.size := by have := his.out; omega
      have hn : i < s.size := by omega
      obtain ⟨g, rfl⟩ : ∃ g, gk = g + 1 := ⟨gk - 1, by have := hig.out; omega⟩
      obtain ⟨k, HK⟩ : ∃ k, Hid (szL (s.data.toList.drop i) = k) := ⟨_, show _ = _ from rfl⟩
      have HD : Hid (s.data.toList.drop i = s[i] :: s.data.toList.drop (i + 1)) := by show _ = _; rw [List.drop_eq_getElem_cons (by omega)]; rfl
      have HC : Hid (litC (g + 1) (s.data.toList.drop i) = if k = 0 ∨ badB s[i] = true then none else (litC g (s.data.toList.drop (i + k))).map (· + 1)) := by
        show _ = _
        have := HK.out
        rw [HD.out] at this ⊢
        rw [litC, this, ← HD.out, List.drop_drop]
      have hkl : k ≤ s.size - i := by
        have := szL_le (s.data.toList.drop i) (by rw [List.length_drop]; omega)
        rw [HK.out, List.length_drop] at this
        omega
      have HN : Hid (k = 0 ∨ badB s[i] = true → litB s.data.toList = false) := fun h => by
        have hA : A = none := by rw [HL.out, HC.out, if_pos h]; rfl
        rw [HB.out, hA]; rfl
      have HY : Hid (¬ (k = 0 ∨ badB s[i] = true) → A = (litC g (s.data.toList.drop (i + k))).map (· + (n + 1))) := fun h => by
        rw [HL.out, HC.out, if_neg h, Option.map_map]
        congr 1
        funext x
        simp only [Function.comp]
        omega
      have HBad : Hid (badB s[i] = true ↔ ((s[i].toNat : Int) ≤ 32 ∨ (s[i].toNat : Int) = 42 ∨ (s[i].toNat : Int) = 91 ∨ (s[i].toNat : Int) = 93 ∨ (s[i].toNat : Int) = 47 ∨ (s[i].toNat : Int) = 46)) := by
        show _ ↔ _
        unfold badB
        simp only [Bool.or_eq_true, decide_eq_true_eq, beq_iff_eq]
        omega
      clear HD HC HL
      have hn9 : n ≤ 4611686018427387904 := by have := hni.out; have := his.out; omega
      go_wp2_with (first
        | (go_at_call 43; refine (size_any s i _ hn hs).mono ?_; rintro e w2 ⟨rfl, rfl⟩; rw [HK.out]))
      all_goals first
        | (go_ret
           have hF := HN.out (by rw [HBad.out]; first | omega | (simp only [beq_iff_eq] at *; omega))
           exact ⟨by rw [hF]; rfl, rfl⟩)
        | (go_roundg g
           case measure => omega
           case rel =>
             have hT := HY.out (by rw [HBad.out]; first | omega | (simp only [beq_eq_false_iff_ne] at *; omega))
             refine ⟨n + 1, i + k, by go_num, by go_num, rfl, ?_, ?_, ?_, hT⟩
             all_goals (show _ ≤ _; have := hni.out; have := his.out; have := hig.out; omega))
        | skip
end Go.Proofs.YtllcbnfmihfaaaaGreatDoor
namespace Go.Proofs.YtllcbnfmihfaaaaGreatDoor
open Go.RowKit

/-- What the sets of places hang on: how many rules there are, and where they stay. -/
structure AuR (W : World) (A : Nat) (ra : Option Addr) (rc n : Nat) (st : Nat → Nat) : Prop where
  lt : A < W.heap.size
  rules : W.cell? ⟨A, 0, none⟩ = some (.slice ra n rc)
  stays : ∀ r, r < 16 → W.cell? ⟨A, 3 + r, none⟩ = some (.int .u16 (st r))
theorem AuR.below {W W' : World} {A : Nat} {ra : Option Addr} {rc n : Nat} {st : Nat → Nat} (h : AuR W A ra rc n st) (hb : Below W.heap.size W W') : AuR W' A ra rc n st :=
  ⟨Nat.lt_of_lt_of_le h.lt hb.size, (hb.cell (p := ⟨A, _, none⟩) h.lt).trans h.rules, fun r hr => (hb.cell (p := ⟨A, _, none⟩) h.lt).trans (h.stays r hr)⟩
/-- What widening gives. -/
def WdY (n : Nat) (st P Y : Nat → Nat) : Prop := (∀ r, r < n → ∀ k, (Y r).testBit k = wdB (st r) (P r) k) ∧ (∀ r, n ≤ r → Y r = P r) ∧ ∀ r, Y r < 512
def WdSays (n : Nat) (st P : Nat → Nat) (e : Ending) : Prop := ∃ Y, e = .returned (.agg (plA Y)) ∧ WdY n st P Y
theorem wid_c {W : World} {A : Nat} {ra : Option Addr} {rc n : Nat} {st : Nat → Nat} (h : AuR W A ra rc n st) (P : Nat → Nat) (hP : ∀ r, P r < 512) (hst : ∀ r, st r < 256) (hn : n ≤ 16) :
    Calls Tryz.prog 139 #[.pointer (some ⟨A, 0, none⟩), .agg (plA P)] W fun e W' => WdSays n st P e ∧ Below W.heap.size W W' :=
  widened_any W A ra rc n st P hP hst hn h.lt h.rules h.stays
/-- The first place of the first rules. -/
def one (k : Nat) : Nat → Nat := fun r => if r < k then 1 else 0
theorem one_zero : one 0 = zPl := by funext r; rfl
theorem one_succ (k : Nat) : (fun i => if i = k then (one k k ||| 2 ^ 0 : Nat) else one k i) = one (k + 1) := by
  funext r
  unfold one
  by_cases h : r = k
  · subst h
    rw [if_pos rfl, if_neg (by omega), if_pos (by omega)]
    rfl
  · rw [if_neg h]
    by_cases h2 : r < k
    · rw [if_pos h2, if_pos (by omega)]
    · rw [if_neg h2, if_neg (by omega)]
theorem one_lt (k r : Nat) : one k r < 512 := by unfold one; split <;> omega
/-- Where start stands. -/
structure SoAt (W : World) (X : Nat → Nat) (V : World) : Prop where
  ret : V.heap[W.heap.size]? = some (.cells (plA zPl) 164)
  p : V.heap[W.heap.size + 1]? = some (.cells (plA X) 164)
  below : Below W.heap.size W V
theorem SoAt.next {W V V' : World} {X : Nat → Nat} (h : SoAt W X V) (hb : Below V.heap.size V V') : SoAt W X V' :=
  ⟨(hb.block _ (Array.getElem?_eq_some_iff.1 h.ret).1).trans h.ret, (hb.block _ (Array.getElem?_eq_some_iff.1 h.p).1).trans h.p, h.below.trans (hb.mono h.below.size)⟩
theorem soAt_mk (W : World) : SoAt W zPl ((W.alloc (.cells (plA zPl) 164)).alloc (.cells (plA zPl) 164)) :=
  ⟨(Below.heap_alloc _ _ _ (by simp)).trans (heap_new _ _), by have := heap_new (W.alloc (.cells (plA zPl) 164)) (.cells (plA zPl) 164); simpa using this, ((Below.refl _ _).alloc (Nat.le_refl _) _).alloc (by simp) _⟩
set_option maxRecDepth 100000 in
set_option maxHeartbeats 1000000 in
theorem start_any (W : World) (A : Nat) (ra : Option Addr) (rc n : Nat) (st : Nat → Nat) (hst : ∀ r, st r < 256) (hn : n ≤ 16) (h : AuR W A ra rc n st) :
    Calls Tryz.prog 87 #[.pointer (some ⟨A, 0, none⟩)] W fun e W' => WdSays n st (one n) e ∧ Below W.heap.size W W' := by
  have HA : Hid (AuR W A ra rc n st) := h
  have HS0 : Hid (SoAt W zPl ((W.alloc (.cells #[.int .u16 0, .int .u16 0, .int .u16 0, .int .u16 0, .int .u16 0, .int .u16 0, .int .u16 0, .int .u16 0, .int .u16 0, .int .u16 0, .int .u16 0, .int .u16 0, .int .u16 0, .int .u16 0, .int .u16 0, .int .u16 0] 164)).alloc (.cells #[.int .u16 0, .int .u16 0, .int .u16 0, .int .u16 0, .int .u16 0, .int .u16 0, .int .u16 0, .int .u16 0, .int .u16 0, .int .u16 0, .int .u16 0, .int .u16 0, .int .u16 0, .int .u16 0, .int .u16 0, .int .u16 0] 164))) := soAt_mk W
  have c0 := h.rules
  have hlt := h.lt
  clear h
  go_enter Tryz.func87, Tryz.ntmps87
  go_wp2
  go_loopg [10] n (fun g z V => ∃ k : Nat, z = .int .i64 k ∧ Hid (k + g = n) ∧ Hid (SoAt W (one k) V))
  case atStart => exact ⟨0, rfl, by show _ = _; omega, by rw [one_zero]; exact HS0⟩
  case round =>
    clear HS0
    obtain ⟨k, rfl, hk, HS⟩ := hrel
    cases gk with
    | zero =>
      have hl : ¬ (k : Int) < (n : Int) := by have := hk.out; omega
      have hkn : k = n := by have := hk.out; omega
      subst hkn
      have cW := fun V hb => wid_c (HA.out.below (W' := V) hb) (one k) (one_lt k) hst hn
      go_wp2_with (first
        | (go_at_call 139; refine (cW _ HS.out.below).mono ?_; clear cW; rintro e w2 ⟨⟨Y, rfl, hY⟩, hB2⟩; have HS2 : Hid (SoAt W (one k) w2) := HS.out.next hB2; have HY : Hid (WdY k st (one k) Y) := hY; clear hY hB2)
        | (refine wpList_load_row rfl 164 (.tmp 3) rfl (W.heap.size + 1) rfl _ _ _ _ HS.out.p Tryz.underlying164 rfl (infoPl _) ?_)
        | (refine wpList_store_row rfl 164 (.tmp 2) (.tmp 18) rfl W.heap.size (plA Y) rfl rfl 164 (plA zPl) HS2.out.ret (infoPl Y) (plA_sz _ _) (plA_one Y) ?_))
      refine bodyPost_ret (results_cell_row Tryz.results87 _ _ W.heap.size 164 (plA Y) (0, 0) _ rfl (setRow_heap _ _ _ _ _ _ HS2.out.ret) Tryz.underlying164 rfl (infoPl Y)) rfl ⟨⟨Y, rfl, HY.out⟩, below_setRow HS2.out.below (Nat.le_refl _) _⟩
    | succ g =>
      have hkl : k < n := by have := hk.out; omega
      have hl : (k : Int) < (n : Int) := by omega
      have hc : wr.cell? ⟨W.heap.size + 1, 0 + k, none⟩ = some (.int .u16 (one k k)) := by
        have h := cellOfHeap HS.out.p (0 + k)
        rw [plA_at _ (0 + k) (by omega)] at h
        rw [h, Nat.zero_add]
      have hf : wr.frozen? ⟨W.heap.size + 1, 0 + k, none⟩ = false := frozen_of_row wr (W.heap.size + 1) (0 + k) _ _ HS.out.p
      have cA := plAdd_any wr (W.heap.size + 1) 0 (one k k) k 0 (by omega) (by omega) (by have := one_lt k k; omega) hc hf
      have HN : Hid (SoAt W (one (k + 1)) (wr.setCell ⟨W.heap.size + 1, k, none⟩ (.int .u16 ((one k k ||| 1 : Nat) : Int))).drew) := by
        refine ⟨(Below.heap_setCell wr _ _ _ (by simp)).trans HS.out.ret, ?_, (HS.out.below.setCell (by simp) _).drew⟩
        have h := heap_setCell_same wr (W.heap.size + 1) k _ _ (.int .u16 ((one k k ||| 1 : Nat) : Int)) HS.out.p
        rw [plA_set, show (1 : Nat) = 2 ^ 0 from rfl, one_succ] at h
        exact h
      go_wp2_with (first
        | (go_at_call 137; refine cA.mono ?_; clear cA; rintro e w2 ⟨rfl, rfl⟩))
      go_roundg g
      case measure => omega
      case rel => exact ⟨k + 1, by go_num, by show _ = _; have := hk.out; omega, HN⟩
end Go.Proofs.YtllcbnfmihfaaaaGreatDoor
