import Derived.Test.YtllcbnfmihfaaaaGreatDoorLq07
import Derived.Test.YtllcbnfmihfaaaaGreatDoorLq17
import Derived.Test.YtllcbnfmihfaaaaGreatDoorLq25
import Derived.Test.YtllcbnfmihfaaaaGreatDoorLq39
import Derived.Test.YtllcbnfmihfaaaaGreatDoorLq42
namespace Go.Proofs.YtllcbnfmihfaaaaGreatDoor
open Go.RowKit

/-- The first rule whose pattern the path can be cut by. -/
def lbF (dflt : Int) : List (List (Nat × List UInt8) × Int × Int) → List (List UInt8 × Bool) → Int × Int
  | [], _ => (dflt, 1)
  | x :: rs, p => if mtch x.1 p then x.2 else lbF dflt rs p
/-- A set of places is that of a path. -/
def PlP (rs : List (List (Nat × List UInt8) × Int × Int)) (p : List (List UInt8 × Bool)) (Y : Nat → Nat) : Prop := ∀ r (h : r < rs.length), ∀ k, (Y r).testBit k = plc rs[r].1 p k
theorem wdB_wdP {ss : List (Nat × List UInt8)} {st x : Nat} {P : Nat → Bool} (hs : ∀ k, st.testBit k = stay ss k) (hx : ∀ k, x.testBit k = P k) : ∀ k, wdB st x k = wdP ss P k
  | 0 => hx 0
  | k + 1 => by rw [wdB, wdP, hx, hs, wdB_wdP hs hx k]
theorem gon_goP {ss : List (Nat × List UInt8)} {st tk x : Nat} {t : List UInt8 × Bool} {P : Nat → Bool} (hs : ∀ k, st.testBit k = stay ss k) (ht : ∀ k, tk.testBit k = take1 ss t k) (hx : ∀ k, x.testBit k = P k) (k : Nat) : (gon st tk x).testBit k = goP ss t P k := by
  unfold gon
  rw [Nat.testBit_or, Nat.testBit_and, Nat.testBit_shiftLeft, Nat.testBit_and, hx, hs]
  cases k with
  | zero => rw [goP]; simp
  | succ k =>
    rw [goP, Nat.add_sub_cancel, hx, ht]
    simp
theorem gB_stay {rs : List (List (Nat × List UInt8) × Int × Int)} {r : Nat} (h : r < rs.length) (k : Nat) : gB rs r k (fun s => s.1 == 1) = stay rs[r].1 k := by
  unfold gB stay
  rw [List.getElem?_eq_getElem h]
  show (match rs[r].1[k]? with | some s => s.1 == 1 | none => false) = _
  cases rs[r].1[k]? <;> rfl
theorem idx_inj {ks : List (List UInt8)} {a b : List UInt8} (ha : a ∈ ks) (hb : b ∈ ks) (e : ks.idxOf a = ks.idxOf b) : a = b := by
  have h1 := List.idxOf_lt_length_iff.2 ha
  have h2 := List.idxOf_lt_length_iff.2 hb
  have e1 := List.getElem_idxOf h1
  have e2 := List.getElem_idxOf h2
  rw [← e1, ← e2]
  simp [e]
theorem tkX_tkS {ks : List (List UInt8)} {s : Nat × List UInt8} (h : s.1 = 3 → s.2 ∈ ks) (h3 : s.1 ≤ 3) (key : List UInt8) (ix : Bool) : tkX ks s (ltrF (fnL ks) key ix) = tkS s (key, ix) := by
  unfold tkX tkS
  split
  · rfl
  · split
    · rfl
    · split
      · cases ix with
        | true => rfl
        | false =>
          show (((fnL ks (.string key)).getD 0) == 1) = false
          by_cases hm : key ∈ ks
          · rw [fnL_in hm]
            simp
            omega
          · rw [fnL_out hm]
            rfl
      · have hs := h (by omega)
        rw [fnL_in hs]
        cases ix with
        | true =>
          show ((1 : Nat) == 2 + ks.idxOf s.2) = false
          simp
          omega
        | false =>
          show (((fnL ks (.string key)).getD 0) == 2 + ks.idxOf s.2) = (!false && key == s.2)
          by_cases hm : key ∈ ks
          · rw [fnL_in hm]
            show (2 + ks.idxOf key == 2 + ks.idxOf s.2) = _
            by_cases he : key = s.2
            · rw [he]
              simp
            · have hne : ks.idxOf key ≠ ks.idxOf s.2 := fun e => he (idx_inj hm hs e)
              have a1 : (2 + ks.idxOf key == 2 + ks.idxOf s.2) = false := by simpa using hne
              rw [a1]
              simp [he]
          · rw [fnL_out hm]
            have hne : key ≠ s.2 := fun e => hm (e ▸ hs)
            have a1 : ((none : Option Nat).getD 0 == 2 + ks.idxOf s.2) = false := by simp; omega
            rw [a1]
            simp [hne]
theorem ltrF_lt {ks : List (List UInt8)} (key : List UInt8) (ix : Bool) : ltrF (fnL ks) key ix < 2 + ks.length := by
  unfold ltrF
  split
  · omega
  · by_cases hm : key ∈ ks
    · rw [fnL_in hm]
      have := List.idxOf_lt_length_iff.2 hm
      show 2 + ks.idxOf key < _
      omega
    · rw [fnL_out hm]
      show 0 < _
      omega
theorem gB_take {rs : List (List (Nat × List UInt8) × Int × Int)} {ks : List (List UInt8)} {r : Nat} (h : r < rs.length) (h3 : ∀ s ∈ rs[r].1, s.1 ≤ 3 ∧ (s.1 = 3 → s.2 ∈ ks)) (key : List UInt8) (ix : Bool) (k : Nat) : gB rs r k (fun s => tkX ks s (ltrF (fnL ks) key ix)) = take1 rs[r].1 (key, ix) k := by
  unfold gB take1
  rw [List.getElem?_eq_getElem h]
  show (match rs[r].1[k]? with | some s => tkX ks s (ltrF (fnL ks) key ix) | none => false) = _
  cases hs : rs[r].1[k]? with
  | none => rfl
  | some s =>
    have hm := h3 s (List.mem_of_getElem? hs)
    exact tkX_tkS hm.2 hm.1 key ix
theorem plP_start {rs : List (List (Nat × List UInt8) × Int × Int)} {ks : List (List UInt8)} {st : Nat → Nat} {tk : Nat → Nat → Nat} (hd : LyD rs ks st tk) {Y : Nat → Nat} (hY : WdY rs.length st (one rs.length) Y) : PlP rs [] Y := by
  intro r h k
  rw [hY.1 r h k]
  have hs : ∀ k, (st r).testBit k = stay rs[r].1 k := fun k => (hd.s r k).trans (gB_stay h k)
  have hx : ∀ k, (one rs.length r).testBit k = (k == 0) := by
    intro k
    unfold one
    rw [if_pos h]
    cases k with
    | zero => rfl
    | succ k => rw [Nat.testBit_succ]; simp
  rw [wdB_wdP hs hx k]
  rfl
theorem plP_next {rs : List (List (Nat × List UInt8) × Int × Int)} {ks : List (List UInt8)} {st : Nat → Nat} {tk : Nat → Nat → Nat} (hd : LyD rs ks st tk) (h3 : ∀ r (h : r < rs.length), ∀ s ∈ rs[r].1, s.1 ≤ 3 ∧ (s.1 = 3 → s.2 ∈ ks)) {P Y : Nat → Nat} {p : List (List UInt8 × Bool)} (hP : PlP rs p P) (key : List UInt8) (ix : Bool)
    (hY : WdY rs.length st (gonP st (tk (ltrF (fnL ks) key ix)) P rs.length) Y) : PlP rs ((key, ix) :: p) Y := by
  intro r h k
  rw [hY.1 r h k]
  have hs : ∀ k, (st r).testBit k = stay rs[r].1 k := fun k => (hd.s r k).trans (gB_stay h k)
  have ht : ∀ k, (tk (ltrF (fnL ks) key ix) r).testBit k = take1 rs[r].1 (key, ix) k := fun k => (hd.t _ r k).trans (gB_take h (h3 r h) key ix k)
  have hx : ∀ k, (gonP st (tk (ltrF (fnL ks) key ix)) P rs.length r).testBit k = goP rs[r].1 (key, ix) (plc rs[r].1 p) k := by
    intro k
    unfold gonP
    rw [if_pos h]
    exact gon_goP hs ht (hP r h) k
  rw [wdB_wdP hs hx k]
  rfl
theorem plP_at {rs : List (List (Nat × List UInt8) × Int × Int)} {p : List (List UInt8 × Bool)} {X Y : Nat → Nat} (h : PlP rs p Y) (hn : rs.length ≤ 16) (he : ∀ r, r < 16 → X r = Y r) : PlP rs p X := by
  intro r hr k
  rw [he r (by omega)]
  exact h r hr k
theorem jdg_lbF (dflt : Int) (p : List (List UInt8 × Bool)) (Y : Nat → Nat) : ∀ (rs : List (List (Nat × List UInt8) × Int × Int)) (o : Nat), (∀ r (h : r < rs.length), ∀ k, (Y (o + r)).testBit k = plc rs[r].1 p.reverse k) → jdg dflt rs Y o = lbF dflt rs p
  | [], _, _ => rfl
  | x :: rs, o, h => by
    have h0 := h 0 (by simp) x.1.length
    rw [jdg, lbF]
    have e : (Y o).testBit x.1.length = mtch x.1 p := h0.trans (plc_mtch x.1 p)
    rw [e, jdg_lbF dflt p Y rs (o + 1) (fun r hr k => by
      have := h (r + 1) (by simpa using hr) k
      rw [show o + 1 + r = o + (r + 1) by omega, this]
      rfl)]
theorem plP_jdg {rs : List (List (Nat × List UInt8) × Int × Int)} {p : List (List UInt8 × Bool)} {Y : Nat → Nat} (h : PlP rs p.reverse Y) (dflt : Int) : jdg dflt rs Y 0 = lbF dflt rs p :=
  jdg_lbF dflt p Y rs 0 (fun r hr k => by rw [Nat.zero_add]; exact h r hr k)
theorem mem_addS {ks : List (List UInt8)} {s : Nat × List UInt8} {b : List UInt8} (h : b ∈ ks) : b ∈ addS ks s := by
  unfold addS
  split
  · exact List.mem_append_left _ h
  · exact h
theorem mem_foldS {b : List UInt8} : ∀ (ss : List (Nat × List UInt8)) (ks : List (List UInt8)), b ∈ ks → b ∈ ss.foldl addS ks
  | [], _, h => h
  | _ :: ss, _, h => mem_foldS ss _ (mem_addS h)
theorem foldS_has : ∀ (ss : List (Nat × List UInt8)) (ks : List (List UInt8)) (s : Nat × List UInt8), s ∈ ss → s.1 = 3 → s.2 ∈ ss.foldl addS ks
  | x :: ss, ks, s, hs, h3 => by
    rcases List.mem_cons.1 hs with rfl | hs
    · refine mem_foldS ss _ ?_
      unfold addS
      by_cases hm : s.2 ∈ ks
      · rw [if_neg (fun h => h.2 hm)]
        exact hm
      · rw [if_pos ⟨h3, hm⟩]
        simp
    · exact foldS_has ss _ s hs h3
theorem mem_foldR {b : List UInt8} : ∀ (rs : List (List (Nat × List UInt8) × Int × Int)) (ks : List (List UInt8)), b ∈ ks → b ∈ rs.foldl addR ks
  | [], _, h => h
  | r :: rs, _, h => mem_foldR rs _ (mem_foldS r.1 _ h)
theorem foldR_has : ∀ (rs : List (List (Nat × List UInt8) × Int × Int)) (ks : List (List UInt8)) (r : List (Nat × List UInt8) × Int × Int), r ∈ rs → ∀ s ∈ r.1, s.1 = 3 → s.2 ∈ rs.foldl addR ks
  | x :: rs, ks, r, hr, s, hs, h3 => by
    rcases List.mem_cons.1 hr with rfl | hr
    · exact mem_foldR rs _ (foldS_has r.1 ks s hs h3)
    · exact foldR_has rs _ r hr s hs h3
theorem keysR_has {rs : List (List (Nat × List UInt8) × Int × Int)} {i j : Nat} (h : i < rs.length) (h2 : j < rs[i].1.length) (h3 : rs[i].1[j].1 = 3) : rs[i].1[j].2 ∈ keysR rs :=
  foldR_has rs [] rs[i] (List.getElem_mem h) _ (List.getElem_mem h2) h3
theorem foldR_le : ∀ (rs : List (List (Nat × List UInt8) × Int × Int)) (ks : List (List UInt8)), (∀ r ∈ rs, r.1.length ≤ 8) → (rs.foldl addR ks).length ≤ ks.length + 8 * rs.length
  | [], _, _ => by simp
  | r :: rs, ks, h => by
    have h1 := foldR_le rs (addR ks r) (fun x hx => h x (List.mem_cons_of_mem _ hx))
    have h2 : (addR ks r).length ≤ ks.length + r.1.length := foldS_le r.1 ks
    have h3 := h r (by simp)
    rw [List.foldl_cons, List.length_cons]
    omega
theorem keysR_le {rs : List (List (Nat × List UInt8) × Int × Int)} (hn : rs.length ≤ 16) (h8 : ∀ i (h : i < rs.length), rs[i].1.length ≤ 8) : (keysR rs).length ≤ 128 := by
  have h := foldR_le rs [] (fun r hr => by
    obtain ⟨i, hi, rfl⟩ := List.getElem_of_mem hr
    exact h8 i hi)
  unfold keysR
  simp at h
  omega
end Go.Proofs.YtllcbnfmihfaaaaGreatDoor
namespace Go.Proofs.YtllcbnfmihfaaaaGreatDoor
open Go.RowKit

/-- The reference's rules in memory. -/
structure RruAt (w : World) (a : Option Addr) (rs : List (List (List UInt8) × Int × Int)) : Prop where
  at_ : ∀ i (h : i < rs.length), ∃ b off pa pc, a = some ⟨b, off, none⟩ ∧ b < w.heap.size ∧ w.cell? ⟨b, off + i * 3, none⟩ = some (.slice pa rs[i].1.length pc) ∧ w.cell? ⟨b, off + i * 3 + 1, none⟩ = some (.int .i64 rs[i].2.1) ∧ w.cell? ⟨b, off + i * 3 + 2, none⟩ = some (.int .i64 rs[i].2.2) ∧ TxsAt w pa rs[i].1
theorem RruAt.below {w w' : World} {a : Option Addr} {rs : List (List (List UInt8) × Int × Int)} (h : RruAt w a rs) (hb : Below w.heap.size w w') : RruAt w' a rs :=
  ⟨fun i hi => by
    obtain ⟨b, off, pa, pc, ha, hlt, h1, h2, h3, h4⟩ := h.at_ i hi
    exact ⟨b, off, pa, pc, ha, Nat.lt_of_lt_of_le hlt hb.size, (hb.cell (p := ⟨b, _, none⟩) hlt).trans h1, (hb.cell (p := ⟨b, _, none⟩) hlt).trans h2, (hb.cell (p := ⟨b, _, none⟩) hlt).trans h3, h4.below hb⟩⟩
/-- Where labelOf stands. -/
structure LoAt (w : World) (arr : Array Value) (W : World) : Prop where
  below : Below w.heap.size w W
  box : W.heap[w.heap.size]? = some (.cells arr 45)
theorem LoAt.next {w : World} {arr : Array Value} {W W' : World} (h : LoAt w arr W) (hb : Below W.heap.size W W') : LoAt w arr W' :=
  ⟨h.below.trans (hb.mono h.below.size), (hb.block _ (Array.getElem?_eq_some_iff.1 h.box).1).trans h.box⟩
set_option maxRecDepth 100000 in
set_option maxHeartbeats 2000000 in
theorem labelOf_any (w : World) (arr : Array Value) (d : Int) (hd : arr[2]? = some (.int .i64 d)) (ra pa : Option Addr) (rc pc : Nat) (rs : List (List (List UInt8) × Int × Int)) (ps : List (List UInt8 × Bool)) (hR : RruAt w ra rs) (hP : PthAt w pa ps) (hn : ps.length ≤ 4096) (hr : rs.length ≤ 1000) (hs : ∀ i (h : i < rs.length), rs[i].1.length ≤ 1000) :
    Calls Tryz.prog 155 #[.agg arr, .slice ra rs.length rc, .slice pa ps.length pc] w fun e w' => e = .returned (.tuple #[.int .i64 (lbF d (rs.map enS) ps).1, .int .i64 (lbF d (rs.map enS) ps).2]) ∧ Below w.heap.size w w' := by
  have HR : Hid (RruAt w ra rs) := hR
  have HP : Hid (PthAt w pa ps) := hP
  have HL0 : Hid (LoAt w arr (w.alloc (.cells arr 45))) := ⟨(Below.refl _ _).alloc (Nat.le_refl _) _, heap_new _ _⟩
  clear hR hP
  go_enter Tryz.func155, Tryz.ntmps155
  go_wp2
  generalize w.alloc (.cells arr 45) = V0 at *
  go_loopg [8] rs.length (fun g x V => ∃ i : Nat, x = .int .i64 i ∧ Hid (i + g = rs.length) ∧ Hid (LoAt w arr V) ∧ Hid (lbF d (rs.map enS) ps = lbF d ((rs.drop i).map enS) ps))
  case atStart => exact ⟨0, rfl, by show _ = _; omega, HL0, rfl⟩
  case round =>
    clear HL0
    obtain ⟨i, rfl, hg, HL, HF⟩ := hrel
    cases gk with
    | zero =>
      have hlt : ¬ (i : Int) < (rs.length : Int) := by have := hg.out; omega
      have HE : Hid (lbF d (rs.map enS) ps = (d, 1)) := by
        have h := HF.out
        rw [List.drop_eq_nil_of_le (by have := hg.out; omega)] at h
        exact h
      have c2 := (cellOfHeap HL.out.box 2).trans hd
      clear HF
      go_wp2
      go_ret2
      rw [HE.out]
      exact ⟨rfl, HL.out.below⟩
    | succ g =>
      have hil : i < rs.length := by have := hg.out; omega
      have hlt : (i : Int) < (rs.length : Int) := by omega
      have hsl := hs i hil
      obtain ⟨b, off, qa, qc, rfl, hb, e0, e1, e2, hseg⟩ := HR.out.at_ i hil
      have HF1 : Hid (lbF d (rs.map enS) ps = if mtch (rs[i].1.map sgS) ps then rs[i].2 else lbF d ((rs.drop (i + 1)).map enS) ps) := by
        have h := HF.out
        rw [List.drop_eq_getElem_cons hil, List.map_cons, lbF] at h
        exact h
      have cM := matches_any wr qa pa qc pc rs[i].1 ps (hseg.below HL.out.below) (HP.out.below HL.out.below) hn hsl
      have k0 := (HL.out.below.cell (p := ⟨b, off + i * 3, none⟩) hb).trans e0
      have HK1 : Hid (w.cell? ⟨b, off + i * 3 + 1, none⟩ = some (.int .i64 rs[i].2.1)) := e1
      have HK2 : Hid (w.cell? ⟨b, off + i * 3 + 2, none⟩ = some (.int .i64 rs[i].2.2)) := e2
      clear HF e0 e1 e2 hseg hsl
      generalize rs[i] = r at *
      obtain ⟨sg, lb, ac⟩ := r
      dsimp only at cM k0 HF1 HK1 HK2
      cases hm : mtch (sg.map sgS) ps with
      | true =>
        rw [hm] at cM
        have HE : Hid (lbF d (rs.map enS) ps = (lb, ac)) := by show _ = _; rw [HF1.out, hm]; rfl
        clear HF1 hm
        go_wp2_with (first
          | (go_at_call 196; refine cM.mono ?_; clear cM; rintro e w2 ⟨rfl, hB2⟩; have HL2 : Hid (LoAt w arr w2) := HL.out.next hB2; have k1 := (HL2.out.below.cell (p := ⟨b, off + i * 3 + 1, none⟩) hb).trans HK1.out; have k2 := (HL2.out.below.cell (p := ⟨b, off + i * 3 + 2, none⟩) hb).trans HK2.out; clear hB2 HL k0))
        go_quiet (fail)
        go_wp2
        refine bodyPost_ret (results_tmp2 Tryz.results155 _ _ _) rfl ⟨?_, HL2.out.below.trans ⟨rfl, rfl, rfl, Nat.le_refl _, fun _ _ => rfl⟩⟩
        rw [HE.out]
        rfl
      | false =>
        rw [hm] at cM
        have HE : Hid (lbF d (rs.map enS) ps = lbF d ((rs.drop (i + 1)).map enS) ps) := by show _ = _; rw [HF1.out, hm]; rfl
        clear HF1 hm
        go_wp2_with (first
          | (go_at_call 196; refine cM.mono ?_; clear cM; rintro e w2 ⟨rfl, hB2⟩; have HL2 : Hid (LoAt w arr w2) := HL.out.next hB2; clear hB2 HL k0))
        go_roundg g
        case measure => omega
        case rel => exact ⟨i + 1, by go_num, by show _ = _; have := hg.out; omega, HL2, HE⟩
end Go.Proofs.YtllcbnfmihfaaaaGreatDoor
namespace Go.Proofs.YtllcbnfmihfaaaaGreatDoor
open Go.RowKit

def strV (l : List UInt8) : Value := .string ⟨l.toArray⟩
theorem strV_all (ps : List ByteArray) : (ps.map (·.data.toList)).map strV = ps.map Value.string := by
  rw [List.map_map]
  apply List.map_congr_left
  intro p _
  show Value.string ⟨p.data.toList.toArray⟩ = _
  rw [back]
/-- How a pattern's reading ends. -/
def PfSays (s : ByteArray) (w : World) (e : Ending) (w' : World) : Prop :=
  ∃ a n cap, e = .returned (.tuple #[.slice a n cap, .bool (patB s.data.toList)]) ∧ Below w.heap.size w w' ∧ (patB s.data.toList = true → n = (patR s.data.toList).length ∧ CelB w' w.heap.size 9 a ((patR s.data.toList).map strV))
set_option maxRecDepth 100000 in
set_option maxHeartbeats 4000000 in
theorem pattern_seg (s : ByteArray) (w : World) (hs : s.size ≤ 100000) :
    Calls Tryz.prog 178 #[.string s] w fun e w' => PfSays s w e w' := by
  cases hd : (s.toList == [46])
  · have HP : Hid (patB s.data.toList = ((splitL 47 s.data.toList).all segB && decide ((splitL 47 s.data.toList).length ≤ 8))) := by
      show _ = _
      unfold patB
      rw [← Lib.toList_data, hd, Bool.false_or]
    go_enter Tryz.func178, Tryz.ntmps178
    have T1 : True := trivial
    go_wp2_with (first
      | (go_at_call 129; clear T1; refine (split_any s 47 47 rfl _ hs).mono ?_; rintro e w2 ⟨v, ps, rfl, HO, HB, HE⟩; obtain ⟨g, cap, rfl, hg, hgs, hcs⟩ := strs_of_own HO (ne_len HE)))
    have hpl := ne_len HE
    have HPS : Hid (ps.length = (patR s.data.toList).length ∧ CelB w2 w.heap.size 9 (some ⟨g, 0, none⟩) ((patR s.data.toList).map strV)) := by
      have hp : patR s.data.toList = ps.map (·.data.toList) := by
        unfold patR
        rw [← Lib.toList_data, hd, Lib.toList_data, HE]
        rfl
      obtain ⟨pa, cp, he, hc⟩ := own_cel HO (Nat.le_refl _)
      injection he with he1 _ _
      subst he1
      rw [hp, strV_all]
      exact ⟨by simp, hc⟩
    have hpb : ps.length ≤ 100001 := by
      have h1 := congrArg List.length HE
      have h2 := splitL_len 47 s.data.toList
      have h3 : s.data.toList.length = s.size := Array.length_toList
      rw [List.length_map] at h1
      omega
    have hps : ∀ p, p ∈ ps → p.size ≤ 4611686018427387904 := fun p hp => by
      have := splitL_size 47 s.data.toList p.data.toList (by rw [← HE]; exact List.mem_map_of_mem hp)
      have h3 : s.data.toList.length = s.size := Array.length_toList
      have h4 : p.data.toList.length = p.size := Array.length_toList
      omega
    have HS : Hid (∀ p, p ∈ ps → p.size ≤ 4611686018427387904) := hps
    have HCS : Hid (∀ (j : Nat) (hj : j < ps.length), w2.cell? ⟨g, j, none⟩ = some (Value.string ps[j])) := hcs
    have HP2 : Hid (patB s.data.toList = (ps.all (fun p => segB p.data.toList) && decide (ps.length ≤ 8))) := by
      show _ = _
      rw [HP.out, ← HE, List.all_map, List.length_map]
      rfl
    have HB2 : Hid (Below w.heap.size w w2) := HB
    clear HB HP HE HO hcs hps
    go_loopg [5] ps.length (fun gk x wr => ∃ k : Nat, Hid (k + gk = ps.length) ∧ x = .int .i64 k ∧ w2 = wr ∧ Hid (∀ i (h : i < ps.length), i < k → segB ps[i].data.toList = true))
    case atStart => exact ⟨0, by show _ = _; omega, rfl, rfl, fun i _ hi => by omega⟩
    case round =>
      obtain ⟨k, hk, rfl, rfl, HL⟩ := hrel
      cases gk with
      | zero =>
        have hlt : ¬ (k : Int) < ps.length := by have := hk.out; omega
        have HA : Hid (patB s.data.toList = decide ((ps.length : Int) ≤ 8)) := by
          show _ = _
          rw [HP2.out, (List.all_eq_true.2 fun p hp => by
            obtain ⟨i, hi, rfl⟩ := List.getElem_of_mem hp
            exact HL.out i hi (by have := hk.out; omega) : ps.all (fun p => segB p.data.toList) = true), Bool.true_and]
          congr 1
          rw [eq_iff_iff]
          omega
        go_wp2
        go_ret2
        exact ⟨_, _, _, by rw [HA.out]; rfl, HB2.out, fun _ => HPS.out⟩
      | succ gg =>
        have hlt : (k : Int) < ps.length := by have := hk.out; omega
        have hkn : k < ps.length := by omega
        have hc := HCS.out k hkn
        have hsz := HS.out ps[k] (List.getElem_mem hkn)
        have HN : Hid (segB ps[k].data.toList = false → patB s.data.toList = false) := fun h => by
          rw [HP2.out, Bool.and_eq_false_iff]
          left
          rw [List.all_eq_false]
          exact ⟨ps[k], List.getElem_mem hkn, by rw [h]; decide⟩
        have HY : Hid (segB ps[k].data.toList = true → ∀ i (h : i < ps.length), i < k + 1 → segB ps[i].data.toList = true) := fun h i hi hik => by
          by_cases e : i = k
          · subst e; exact h
          · exact HL.out i hi (by omega)
        clear HL
        generalize ps[k] = p at *
        have HG : Hid (segB p.data.toList = (litB p.data.toList || (p.toList == [42] || (p.toList == [42, 42] || p.toList == [91, 93])))) := by
          show _ = _
          unfold segB
          rw [Lib.toList_data]
        cases e0 : litB p.data.toList
        · cases e1 : (p.toList == [42])
          · cases e2 : (p.toList == [42, 42])
            · cases e3 : (p.toList == [91, 93])
              · have HF : Hid (patB s.data.toList = false) := HN.out (by rw [HG.out, e0, e1, e2, e3]; rfl)
                go_wp2_with (first
                  | (go_at_call 211; refine (literal_any p _ hsz).mono ?_; rintro e w2 ⟨rfl, rfl⟩; rw [e0]))
                go_ret2
                exact ⟨_, _, _, by rw [HF.out]; rfl, HB2.out, fun e => by rw [HF.out] at e; cases e⟩
              · have hT := HY.out (by rw [HG.out, e0, e1, e2, e3]; rfl)
                have HT : Hid (∀ i (h : i < ps.length), i < k + 1 → segB ps[i].data.toList = true) := hT
                clear hT
                go_wp2_with (first
                  | (go_at_call 211; refine (literal_any p _ hsz).mono ?_; rintro e w2 ⟨rfl, rfl⟩; rw [e0]))
                go_roundg gg
                case measure => omega
                case rel => exact ⟨k + 1, by show _ = _; have := hk.out; omega, by go_num, rfl, HT.out⟩
            · have hT := HY.out (by rw [HG.out, e0, e1, e2]; rfl)
              have HT : Hid (∀ i (h : i < ps.length), i < k + 1 → segB ps[i].data.toList = true) := hT
              clear hT
              go_wp2_with (first
                | (go_at_call 211; refine (literal_any p _ hsz).mono ?_; rintro e w2 ⟨rfl, rfl⟩; rw [e0]))
              go_roundg gg
              case measure => omega
              case rel => exact ⟨k + 1, by show _ = _; have := hk.out; omega, by go_num, rfl, HT.out⟩
          · have hT := HY.out (by rw [HG.out, e0, e1]; rfl)
            have HT : Hid (∀ i (h : i < ps.length), i < k + 1 → segB ps[i].data.toList = true) := hT
            clear hT
            go_wp2_with (first
              | (go_at_call 211; refine (literal_any p _ hsz).mono ?_; rintro e w2 ⟨rfl, rfl⟩; rw [e0]))
            go_roundg gg
            case measure => omega
            case rel => exact ⟨k + 1, by show _ = _; have := hk.out; omega, by go_num, rfl, HT.out⟩
        · have hT := HY.out (by rw [HG.out, e0]; rfl)
          have HT : Hid (∀ i (h : i < ps.length), i < k + 1 → segB ps[i].data.toList = true) := hT
          clear hT
          go_wp2_with (first
            | (go_at_call 211; refine (literal_any p _ hsz).mono ?_; rintro e w2 ⟨rfl, rfl⟩; rw [e0]))
          go_roundg gg
          case measure => omega
          case rel => exact ⟨k + 1, by show _ = _; have := hk.out; omega, by go_num, rfl, HT.out⟩
  · have HP : Hid (patB s.data.toList = true) := by
      show _ = _
      unfold patB
      rw [← Lib.toList_data, hd, Bool.true_or]
    go_enter Tryz.func178, Tryz.ntmps178
    go_wp2
    go_ret2
    refine ⟨none, 0, 0, by rw [HP.out]; rfl, Below.refl _ _, fun _ => ?_⟩
    have hp : patR s.data.toList = [] := by unfold patR; rw [← Lib.toList_data, hd]; rfl
    rw [hp]
    exact ⟨rfl, .inl rfl⟩
end Go.Proofs.YtllcbnfmihfaaaaGreatDoor
namespace Go.Proofs.YtllcbnfmihfaaaaGreatDoor
open Go.RowKit

/-- How a line's reading ends. -/
def RrSays (n : Nat) (s : ByteArray) (w : World) (e : Ending) (w' : World) : Prop :=
  ∃ a m cap x y, e = .returned (.tuple #[.agg (rulA a m cap x y), .bool (ruleB n s.data.toList)]) ∧ Below w.heap.size w w' ∧ (ruleB n s.data.toList = true → m = (rulR s.data.toList).1.length ∧ x = (rulR s.data.toList).2.1 ∧ y = (rulR s.data.toList).2.2 ∧ CelB w' w.heap.size 9 a ((rulR s.data.toList).1.map strV))
theorem rule_rr {l : List UInt8} {p0 p1 p2 : ByteArray} (HE : [p0, p1, p2].map (·.data.toList) = splitL 32 l) (h1 : p1.size = 1) (h48 : (48 : Int) ≤ p1[0].toNat) (h57 : (p1[0].toNat : Int) ≤ 57) : rulR l = (patR p0.data.toList, (p1[0].toNat : Int) - 48, actV p2) := by
  have h := rulR_eq (l := l) (p := p0.data.toList) (b := p1.data.toList) (c := p2.data.toList) HE.symm
  rw [back] at h
  rw [h, one_byte h1]
  unfold labI
  simp only []
  rw [if_pos (by omega)]
set_option maxRecDepth 100000 in
set_option maxHeartbeats 4000000 in
theorem rule_seg (arr : Array Value) (n : Nat) (f0 : arr[0]? = some (.int .i64 n)) (hsz : arr.size = 11) (s : ByteArray) (w : World) (hs : s.size ≤ 100000) :
    Calls Tryz.prog 130 #[.agg arr, .string s] w fun e w' => RrSays n s w e w' := by
  have HS : Hid (arr.size = 11) := hsz
  have HF0 : Hid (arr[0]? = some (.int .i64 n)) := f0
  have HIR : Hid ((Tryz.prog.info? 220).map (·.size) = some zRul.size) := infoRul
  clear hsz f0
  go_enter Tryz.func130, Tryz.ntmps130
  have T1 : True := trivial
  have T2 : True := trivial
  go_wp2_with (first
    | (go_at_call 129; go_loud (clear T1; refine (split_any s 32 32 rfl _ hs).mono ?_; rintro e w2 ⟨v, ps, rfl, HO, HB, HE⟩; obtain ⟨g, cap, rfl, hg, hgs, hcs⟩ := strs_of_own HO (ne_len HE); have HT : Hid (RulAt w arr w2) := rulAt_mk w w2 arr (by simp only [World.size_alloc] at HB; exact HB); clear HB HO hg; rcases rule_cut2 (n := n) hs HE hcs with ⟨h3', HF⟩ | ⟨p0, p1, p2, rfl, hc1, h1', HF⟩ | ⟨p0, p1, p2, rfl, hc1, h1, h1', h48, HF⟩ | ⟨p0, p1, p2, rfl, hc1, h1, h1', h48, h57, HF⟩ | ⟨p0, p1, p2, rfl, hc0, hc1, hc2, h1, h1', h48, h57, HP0, HF⟩; all_goals (first | (have HRR : Hid (rulR s.data.toList = (patR p0.data.toList, (p1[0].toNat : Int) - 48, actV p2)) := rule_rr HE h1 h48 h57) | skip); all_goals clear HE hcs))
    | (refine wpList_store_row rfl 220 _ _ rfl (w.heap.size + 1) zRul rfl rfl 220 zRul HT.out.res HIR.out rfl zRul_all ?_))
  all_goals first
    | (refine bodyPost_ret (results_row_tmp Tryz.results130 _ _ (w.heap.size + 1) 220 zRul (0, 0) _ rfl (setRow_heap _ _ zRul _ _ _ HT.out.res) Tryz.underlying220 rfl infoRul (.bool false) rfl) rfl ⟨none, 0, 0, 0, 0, by rw [HF.out]; rfl, below_setRow HT.out.below (by omega) _, fun e => by rw [HF.out] at e; cases e⟩)
    | skip
  refine (pattern_seg p0 _ HP0.out).mono ?_
  rintro e w3 ⟨pa, pm, pc, rfl, hB3, hC3⟩
  have HC3 : Hid (patB p0.data.toList = true → pm = (patR p0.data.toList).length ∧ CelB w3 w2.heap.size 9 pa ((patR p0.data.toList).map strV)) := hC3
  have HLO : Hid (w.heap.size + 1 < w2.heap.size) := HT.out.lo
  clear hC3
  have HT3 : Hid (RulAt w arr w3) := HT.out.step hB3
  have hd1 : w3.cell? ⟨g, 1, none⟩ = some (.string p1) := (hB3.cell (p := ⟨g, 1, none⟩) hgs).trans hc1
  have hd2 : w3.cell? ⟨g, 2, none⟩ = some (.string p2) := (hB3.cell (p := ⟨g, 2, none⟩) hgs).trans hc2
  clear HT hc0 hc1 hc2 hB3 HP0
  cases e1 : patB p0.data.toList
  · have HFF : Hid (ruleB n s.data.toList = false) := by show _ = _; rw [HF.out, e1]; rfl
    clear HF
    go_wp2_with (first
      | (go_at_call 179; refine (action_any p2 _).mono ?_; rintro e w4 ⟨rfl, rfl⟩)
      | (refine wpList_store_row rfl 220 _ _ rfl (w.heap.size + 1) (rulA pa pm pc ((p1[0].toNat : Int) - 48) (actV p2)) rfl rfl 220 zRul HT3.out.res HIR.out rfl (rulA_all _ _ _ _ _) ?_))
    refine bodyPost_ret (results_row_tmp Tryz.results130 _ _ (w.heap.size + 1) 220 (rulA pa pm pc ((p1[0].toNat : Int) - 48) (actV p2)) (0, 0) _ rfl (setRow_heap _ _ zRul _ _ _ HT3.out.res) Tryz.underlying220 rfl infoRul (.bool false) rfl) rfl ⟨_, _, _, _, _, by rw [HFF.out], below_setRow HT3.out.below (by omega) _, fun e => by rw [HFF.out] at e; cases e⟩
  · by_cases e2 : actV p2 = 0
    · have HFF : Hid (ruleB n s.data.toList = false) := by show _ = _; rw [HF.out, e1, e2]; rfl
      clear HF
      go_wp2_with (first
        | (go_at_call 179; refine (action_any p2 _).mono ?_; rintro e w4 ⟨rfl, rfl⟩)
        | (refine wpList_store_row rfl 220 _ _ rfl (w.heap.size + 1) (rulA pa pm pc ((p1[0].toNat : Int) - 48) 0) rfl rfl 220 zRul HT3.out.res HIR.out rfl (rulA_all _ _ _ _ _) ?_))
      refine bodyPost_ret (results_row_tmp Tryz.results130 _ _ (w.heap.size + 1) 220 (rulA pa pm pc ((p1[0].toNat : Int) - 48) 0) (0, 0) _ rfl (setRow_heap _ _ zRul _ _ _ HT3.out.res) Tryz.underlying220 rfl infoRul (.bool false) rfl) rfl ⟨_, _, _, _, _, by rw [HFF.out], below_setRow HT3.out.below (by omega) _, fun e => by rw [HFF.out] at e; cases e⟩
    · have e2' : (actV p2 != 0) = true := by simp [e2]
      have HFF : Hid (ruleB n s.data.toList = hasB n ((p1[0].toNat : Int) - 48)) := by show _ = _; rw [HF.out, e1, e2']; rfl
      clear HF
      go_wp2_with (first
        | (go_at_call 179; refine (action_any p2 _).mono ?_; rintro e w4 ⟨rfl, rfl⟩)
        | (go_at_call 76; refine (label_any arr n HF0.out _ _).mono ?_; rintro e w5 ⟨rfl, hB5⟩; have HT5 : Hid (RulAt w arr w5) := HT3.out.step hB5; have HC5 : Hid (pm = (patR p0.data.toList).length ∧ CelB w5 w2.heap.size 9 pa ((patR p0.data.toList).map strV)) := ⟨(HC3.out e1).1, (HC3.out e1).2.below hB5⟩)
        | (refine wpList_load_row_g 45 _ rfl ?hw _ rfl _ _ _ _ HT3.out.box Tryz.underlying45 rfl (infoCfg HS.out) ?_; case hw => simp [go_sem]; done)
        | (refine wpList_store_row rfl 220 _ _ rfl (w.heap.size + 1) (rulA pa pm pc ((p1[0].toNat : Int) - 48) (actV p2)) rfl rfl 220 zRul HT5.out.res HIR.out rfl (rulA_all _ _ _ _ _) ?_))
      refine bodyPost_ret (results_row_tmp Tryz.results130 _ _ (w.heap.size + 1) 220 (rulA pa pm pc ((p1[0].toNat : Int) - 48) (actV p2)) (0, 0) _ rfl (setRow_heap _ _ zRul _ _ _ HT5.out.res) Tryz.underlying220 rfl infoRul (.bool (hasB n ((p1[0].toNat : Int) - 48))) rfl) rfl ⟨_, _, _, _, _, by rw [HFF.out], below_setRow HT5.out.below (by omega) _, fun _ => ?_⟩
      rw [HRR.out]
      exact ⟨HC5.out.1, rfl, rfl, HC5.out.2.kept fun b cur fr h1 h3 => ⟨by have := HLO.out; omega, (setRow_other _ (w.heap.size + 1) b _ (by have := HLO.out; omega)).trans h3⟩⟩
end Go.Proofs.YtllcbnfmihfaaaaGreatDoor
