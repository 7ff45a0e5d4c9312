import Derived.Test.YtllcbnfmihfaaaaGreatDoorLq37
namespace Go.Proofs.YtllcbnfmihfaaaaGreatDoor
open Go.RowKit

theorem AuAt.auR {W0 : World} {A : Nat} {q : Aut} {sts : List ((Nat → Nat) × Int × Int)} {sv : Value} {nf : Lit → Option Nat} {mn : Nat} {mf : Lit → Option Nat} {W : World} (h : AuAt W0 A q sts sv nf mn mf W) : AuR W A q.ra q.rc q.rs.length q.st :=
  ⟨(Array.getElem?_eq_some_iff.1 h.row).1, cellOfHeap h.row 0, fun r hr => by
    rw [cell_of_row W A (3 + r) _ _ _ h.row]
    match r, hr with
    | 0, _ | 1, _ | 2, _ | 3, _ | 4, _ | 5, _ | 6, _ | 7, _ | 8, _ | 9, _ | 10, _ | 11, _ | 12, _ | 13, _ | 14, _ | 15, _ => rfl
    | n + 16, hr => exact absurd hr (by omega)⟩
theorem AuAt.auT {W0 : World} {A : Nat} {q : Aut} {sts : List ((Nat → Nat) × Int × Int)} {sv : Value} {nf : Lit → Option Nat} {mn : Nat} {mf : Lit → Option Nat} {W : World} (h : AuAt W0 A q sts sv nf mn mf W) : AuT W A q.tb q.L q.tc q.tk := by
  obtain ⟨cur, t1, t2⟩ := h.takes
  exact ⟨(Array.getElem?_eq_some_iff.1 h.row).1, (Array.getElem?_eq_some_iff.1 t1).1, cellOfHeap h.row 19, fun x r hx hr => (cell_of_row W q.tb (x * 16 + r) _ _ _ t1).trans (t2 x r hx hr)⟩
/-- The moves changed, and nothing else. -/
theorem AuAt.moved {W0 : World} {A : Nat} {q : Aut} {sts : List ((Nat → Nat) × Int × Int)} {sv : Value} {nf : Lit → Option Nat} {mn mn' : Nat} {mf mf' : Lit → Option Nat} {W W' : World} (h : AuAt W0 A q sts sv nf mn mf W) (hg : W.grownBy W' (some q.mb)) (hm : ImAt W' 320 q.mb mn' mf') : AuAt W0 A q sts sv nf mn' mf' W' := by
  obtain ⟨a1, a2, a3, a4, a5, a6, a7, a8, a9, a10⟩ := h.apart
  obtain ⟨u1, u2, u3, u4, u5⟩ := h.high
  obtain ⟨cur, t1, t2⟩ := h.takes
  exact { h with
    row := (hg.block A (Array.getElem?_eq_some_iff.1 h.row).1 (by simpa using a4)).trans h.row
    below := ⟨hg.os.trans h.below.os, hg.tape.trans h.below.tape, hg.output.trans h.below.output, Nat.le_trans h.below.size hg.size, fun i hi => (hg.block i (Nat.lt_of_lt_of_le hi h.below.size) (by simp; omega)).trans (h.below.block i hi)⟩
    letters := h.letters.kept hg (by simpa using a7)
    takes := ⟨cur, (hg.block _ (Array.getElem?_eq_some_iff.1 t1).1 (by simpa using a9)).trans t1, t2⟩
    states := row_keep3 h.states fun g e => hg.block g (rowlt2 h.states e) (by simpa using (h.own g e).2.2.2.2)
    numbers := h.numbers.kept hg (by simpa using a10)
    moves := hm }
set_option maxRecDepth 100000 in
set_option maxHeartbeats 4000000 in
theorem next_new (W0 : World) (A : Nat) (q : Aut) (sts : List ((Nat → Nat) × Int × Int)) (sa : Option Addr) (sc : Nat) (nf : Lit → Option Nat) (mn : Nat) (mf : Lit → Option Nat) (W : World) (h : AuAt W0 A q sts (.slice sa sts.length sc) nf mn mf W) (hok : MvOK q sts mf) (hsm : sts.length < 100000) (hmn : mn < 100000) (f : Nat) (s : (Nat → Nat) × Int × Int) (hs : sts[f]? = some s) (key : List UInt8) (ix : Bool) (hb : key.length ≤ maxLen) (x : Nat) (hx : ltrF q.lf key ix = x) (hxL : x < q.L) (l : Lit) (hl : keyOf Tryz.prog 320 (.agg (mvA f x)) = some l) (hi : mf l = none) :
    Calls Tryz.prog 153 #[.pointer (some ⟨A, 0, none⟩), .int .i64 f, .agg #[.string ⟨key.toArray⟩, .bool ix]] W (NxSays W0 A q sts s.1 x mn) := by
  have HA : Hid (AuAt W0 A q sts (.slice sa sts.length sc) nf mn mf (W.alloc (.cells #[.string ⟨key.toArray⟩, .bool ix] 259))) := h.next ((Below.refl _ _).alloc (Nat.le_refl _) _)
  have cL := letterOf_any W0 A q sts _ nf mn mf _ HA.out key ix hb
  rw [hx] at cL
  have HOK : Hid (MvOK q sts mf) := hok
  clear h hok
  go_enter Tryz.func153, Tryz.ntmps153
  go_wp2_with (first
    | (go_at_call 194; refine cL.mono ?_; clear cL; rintro e w2 ⟨rfl, hB2⟩; have HA2 : Hid (AuAt W0 A q sts (.slice sa sts.length sc) nf mn mf w2) := HA.out.next hB2; clear hB2 HA))
  have HA3 : Hid (AuAt W0 A q sts (.slice sa sts.length sc) nf mn mf (w2.alloc (.cells #[.int .i64 f, .int .i64 x] 320))) := HA2.out.next ((Below.refl _ _).alloc (Nat.le_refl _) _)
  have HB3 : Hid ((w2.alloc (.cells #[.int .i64 f, .int .i64 x] 320)).heap[w2.heap.size]? = some (.cells (mvA f x) 320)) := heap_new _ _
  have HNE : Hid (∀ g, (Value.slice sa sts.length sc).ownBlock = some g → g < w2.heap.size) := fun g e => rowlt2 HA2.out.states e
  have HLT : Hid (A < w2.heap.size ∧ q.nb < w2.heap.size ∧ q.mb < w2.heap.size) := ⟨(Array.getElem?_eq_some_iff.1 HA2.out.row).1, HA2.out.numbers.lt, HA2.out.moves.lt⟩
  clear HA2
  generalize w2.alloc (.cells #[.int .i64 f, .int .i64 x] 320) = V0 at *
  have hS : (fun Z : World => Z.cell? ⟨A, 22, none⟩ = some (.map (some q.mb)) ∧ Z.heap[w2.heap.size]? = some (.cells (mvA f x) 320) ∧ ImAt Z 320 q.mb mn mf) { V0 with drawn := V0.drawn + 1 } := ⟨cellOfHeap HA3.out.row 22, HB3.out, HA3.out.moves⟩
  refine wp_region_held (S := fun Z => Z.cell? ⟨A, 22, none⟩ = some (.map (some q.mb)) ∧ Z.heap[w2.heap.size]? = some (.cells (mvA f x) 320) ∧ ImAt Z 320 q.mb mn mf) (by kernel_rfl) ?_
  refine tkH 0 16 (.pointer (some ⟨A, 0, none⟩)) rfl (by kernel_rfl) (fun _ _ _ h => h) (fun Z hZ => by kernel_rfl) hS ?_
  refine tkH 1 17 (.pointer (some ⟨A, 0, none⟩)) rfl (by kernel_rfl) (fun _ _ _ h => h) (fun Z hZ => by kernel_rfl) hS ?_
  refine tkH 2 18 (.pointer (some ⟨A, 22, none⟩)) rfl (by kernel_rfl) (fun _ _ _ h => h) (fun Z hZ => by kernel_rfl) hS ?_
  refine tkH 3 19 (.map (some q.mb)) rfl (by kernel_rfl) (fun _ _ _ h => h) (fun Z hZ => ?y3) hS ?_
  case y3 => (have z1 := hZ.1; go_simp)
  refine tkH 4 20 (.agg (mvA f x)) rfl (by kernel_rfl) (fun _ _ _ h => h) (fun Z hZ => ?y4) hS ?_
  case y4 => exact yrowA 320 (.tmp 7) rfl w2.heap.size rfl _ _ _ _ hZ.2.1 Tryz.underlying320 rfl (by kernel_rfl)
  refine tkH 5 21 (.tuple #[.int .i64 0, .bool false]) rfl (by kernel_rfl) (fun _ _ _ h => h) (fun Z hZ => ?y5) hS ?_
  case y5 => (have z2 := im_look_ok hZ.2.2 mvK Tryz.underlying161 hl; rw [hi] at z2; go_simp)
  refine tkH 6 15 (.tuple #[.int .i64 0, .bool false]) rfl (by kernel_rfl) (fun _ _ _ h => h) (fun Z hZ => by kernel_rfl) hS ?_
  refine tkH 7 22 (.int .i64 0) rfl (by kernel_rfl) (fun _ _ _ h => h) (fun Z hZ => by kernel_rfl) hS ?_
  refine tkH 8 23 (.bool false) rfl (by kernel_rfl) (fun _ _ _ h => h) (fun Z hZ => by kernel_rfl) hS ?_
  refine tkH 9 8 (.int .i64 0) rfl (by kernel_rfl) (fun _ _ _ h => h) (fun Z hZ => by kernel_rfl) hS ?_
  refine tkH 10 9 (.bool false) rfl (by kernel_rfl) (fun _ _ _ h => h) (fun Z hZ => by kernel_rfl) hS ?_
  refine wpAnyH_done (by kernel_rfl) ?_ _
  go_simp
  clear hS
  have HA4 : Hid (AuAt W0 A q sts (.slice sa sts.length sc) nf mn mf (World.drew V0)) := HA3.out.next (Below.refl _ _).drew
  have HB4 : Hid ((World.drew V0).heap[w2.heap.size]? = some (.cells (mvA f x) 320)) := HB3.out
  clear HA3 HB3
  generalize World.drew V0 = V at *
  obtain ⟨g, cap, hsv, hgl, hgA, hc⟩ := HA4.out.state_at hs
  injection hsv with e1 _ e3
  subst e1
  subst e3
  have c20 : V.cell? ⟨A, 20, none⟩ = some (.slice (some ⟨g, 0, none⟩) sts.length sc) := cellOfHeap HA4.out.row 20
  have d1 : V.cell? ⟨w2.heap.size, 1, none⟩ = some (.int .i64 x) := cellOfHeap HB4.out 1
  have hil : (f : Int) < (sts.length : Int) := by have := (List.getElem?_eq_some_iff.1 hs).1; omega
  have HC : Hid (∀ (j : Nat) (u : Value), (plA s.1)[j]? = some u → V.cell? ⟨g, f * 18 + j, none⟩ = some u) := fun j u hu => hc j u (by
    have hj : j < (plA s.1).size := (Array.getElem?_eq_some_iff.1 hu).1
    unfold stA
    rw [Array.getElem?_append_left hj]
    exact hu)
  clear hc
  go_wp2
  have hS : (fun Z : World => Z.heap[w2.heap.size]? = some (.cells (mvA f x) 320)) { V with drawn := V.drawn + 1 } := HB4.out
  have HA4' : Hid (AuAt W0 A q sts (.slice (some ⟨g, 0, none⟩) sts.length sc) nf mn mf { V with drawn := V.drawn + 1 }) := HA4.out.next (Below.refl _ _).drew
  have HC' : Hid (∀ (j : Nat) (u : Value), (plA s.1)[j]? = some u → ({ V with drawn := V.drawn + 1 } : World).cell? ⟨g, f * 18 + j, none⟩ = some u) := HC.out
  have c20' : ({ V with drawn := V.drawn + 1 } : World).cell? ⟨A, 20, none⟩ = some (.slice (some ⟨g, 0, none⟩) sts.length sc) := c20
  have cA := after_any { V with drawn := V.drawn + 1 } A q.ra q.rc q.rs.length q.st q.tb q.L q.tc q.tk HA4'.out.bits.1 HA4'.out.bits.2 HA4'.out.few.1 HA4'.out.auR HA4'.out.auT s.1 (HA4'.out.here f s hs).2 x hxL
  refine wp_region_held (S := fun Z => Z.heap[w2.heap.size]? = some (.cells (mvA f x) 320)) (by kernel_rfl) ?_
  clear HC HA4 HB4 c20
  generalize ({ V with drawn := V.drawn + 1 } : World) = V1 at *
  refine tkH 0 26 (.pointer (some ⟨A, 0, none⟩)) rfl (by kernel_rfl) (fun _ _ _ h => h) (fun Z hZ => by kernel_rfl) hS ?_
  refine tkH 1 27 (.pointer (some ⟨A, 0, none⟩)) rfl (by kernel_rfl) (fun _ _ _ h => h) (fun Z hZ => by kernel_rfl) hS ?_
  refine tkH 2 28 (.pointer (some ⟨A, 0, none⟩)) rfl (by kernel_rfl) (fun _ _ _ h => h) (fun Z hZ => by kernel_rfl) hS ?_
  refine tkH 3 29 (.pointer (some ⟨A, 0, none⟩)) rfl (by kernel_rfl) (fun _ _ _ h => h) (fun Z hZ => by kernel_rfl) hS ?_
  refine tkH 4 30 (.pointer (some ⟨A, 20, none⟩)) rfl (by kernel_rfl) (fun _ _ _ h => h) (fun Z hZ => by kernel_rfl) hS ?_
  refine tkH 6 32 (.int .i64 f) rfl (by kernel_rfl) (fun _ _ _ h => h) (fun Z hZ => by kernel_rfl) hS ?_
  refine tkH 10 36 (.pointer (some ⟨w2.heap.size, 1, none⟩)) rfl (by kernel_rfl) (fun _ _ _ h => h) (fun Z hZ => by kernel_rfl) hS ?_
  refine tkH 11 37 (.int .i64 x) rfl (by kernel_rfl) (fun _ _ _ h => h) (fun Z hZ => ?y11) hS ?_
  case y11 => (have z1 : Z.cell? ⟨w2.heap.size, 1, none⟩ = some (.int .i64 x) := cellOfHeap hZ 1; go_simp)
  refine rdS 5 rfl (by kernel_rfl) (fun K hK => ?_)
  go_simp
  refine hK.out _ _ hS (fun _ => ?_)
  clear hK
  refine rdS 7 rfl (by kernel_rfl) (fun K hK => ?_)
  go_simp
  refine hK.out _ _ hS (fun _ => ?_)
  clear hK
  refine rdS 8 rfl (by kernel_rfl) (fun K hK => ?_)
  go_simp
  refine hK.out _ _ hS (fun _ => ?_)
  clear hK
  refine rdS 9 rfl (by kernel_rfl) (fun K hK => ?_)
  refine ifw (by kernel_rfl) ?_
  refine wp_load_at 164 _ rfl g (f * 18) rfl (plA s.1) _ HC'.out Tryz.underlying164 rfl (infoPl s.1) ?_
  refine hK.out _ _ hS (fun _ => ?_)
  clear hK
  refine rdS 12 rfl (by kernel_rfl) (fun K hK => ?_)
  go_simp
  refine cA.mono ?_
  clear cA c20' d1 HC'
  rintro e w4 ⟨⟨Y, rfl, hY⟩, hB2⟩
  simp only []
  have HY : Hid (WdY q.rs.length q.st (gonP q.st (q.tk x) s.1 q.rs.length) Y) := hY
  have HA5 : Hid (AuAt W0 A q sts (.slice (some ⟨g, 0, none⟩) sts.length sc) nf mn mf w4) := HA4'.out.next hB2
  have hS5 : (fun Z : World => Z.heap[w2.heap.size]? = some (.cells (mvA f x) 320)) w4 := (hB2.block _ (Array.getElem?_eq_some_iff.1 hS).1).trans hS
  refine hK.out _ _ hS5 (fun _ => ?_)
  clear hK hY hB2 HA4'
  refine rdS 13 rfl (by kernel_rfl) (fun K hK => ?_)
  go_simp
  refine (number_any W0 A q sts _ sc nf mn mf w4 HA5.out Y HY.out.2.2 hsm).mono ?_
  rintro e w6 ⟨i, sts', sa', sc', nf', rfl, hF, hA6, hpre, hlen, t, ht, htY⟩
  simp only []
  have HA6 : Hid (AuAt W0 A q sts' (.slice sa' sts'.length sc') nf' mn mf w6) := hA6
  have hS6 : (fun Z : World => Z.heap[w2.heap.size]? = some (.cells (mvA f x) 320)) w6 := (hF.block _ (Array.getElem?_eq_some_iff.1 hS5).1 (fun e => by have := HNE.out _ e.symm; omega) (by have := HLT.out.1; omega) (by have := HLT.out.2.1; omega) (by have := HLT.out.2.2; omega)).trans hS5
  have HPR : Hid (∀ (j : Nat) (x : (Nat → Nat) × Int × Int), sts[j]? = some x → sts'[j]? = some x) := hpre
  have HTY : Hid (sts'[i]? = some t ∧ ∀ r, r < 16 → t.1 r = Y r) := ⟨ht, htY⟩
  refine hK.out _ _ hS6 (fun _ => ?_)
  clear hK hF hA6 hpre ht htY HA5 hS hS5
  refine tkH 14 8 (.int .i64 i) rfl (by kernel_rfl) (fun _ _ _ h => h) (fun Z hZ => by kernel_rfl) hS6 ?_
  refine wpAnyH_done (by kernel_rfl) ?_ _
  go_simp
  go_wp2
  have HA7 : Hid (AuAt W0 A q sts' (.slice sa' sts'.length sc') nf' mn mf w6.drew) := HA6.out.next (Below.refl _ _).drew
  have hil2 : i < sts'.length := (List.getElem?_eq_some_iff.1 HTY.out.1).1
  obtain ⟨w7, hr7, hf7, hg7⟩ := im_store HA7.out.moves mvK Tryz.underlying161 (by omega) hl i (by omega)
  obtain ⟨mf', e1, e2⟩ : ∃ mf' : Lit → Option Nat, mf' l = some i ∧ ∀ l', l' ≠ l → mf' l' = mf l' := by
    have := Classical.propDecidable
    exact ⟨fun l' => if l' = l then some i else mf l', if_pos rfl, fun l' hh => if_neg hh⟩
  have HA8 : Hid (AuAt W0 A q sts' (.slice sa' sts'.length sc') nf' (mn + 1) mf' w7) := HA7.out.moved hg7 (hf7 mf' e1 e2)
  have HMV : Hid (MvOK q sts' mf') := by
    intro f2 x2 l2 k2 hk2 hm2
    by_cases e : l2 = l
    · subst e
      have e3 := Option.some.inj (e1.symm.trans hm2)
      have e4 := mv_law.inj hk2 hl
      injection e4 with e4
      have e5 : f2 = f ∧ x2 = x := by
        have := congrArg Array.toList e4
        simp [mvA] at this
        omega
      rw [e5.1, e5.2, ← e3]
      exact ⟨s, t, Y, HPR.out _ _ hs, HTY.out.1, HY.out, HTY.out.2⟩
    · rw [e2 l2 e] at hm2
      obtain ⟨s2, t2, Y2, a1, a2, a3, a4⟩ := HOK.out f2 x2 l2 k2 hk2 hm2
      exact ⟨s2, t2, Y2, HPR.out _ _ a1, HPR.out _ _ a2, a3, a4⟩
  have hS7 : (fun Z : World => Z.cell? ⟨A, 22, none⟩ = some (.map (some q.mb)) ∧ Z.heap[w2.heap.size]? = some (.cells (mvA f x) 320)) { w6 with drawn := w6.drawn + 1 } := ⟨cellOfHeap HA7.out.row 22, hS6⟩
  have hS8 : (fun Z : World => Z.cell? ⟨A, 22, none⟩ = some (.map (some q.mb)) ∧ Z.heap[w2.heap.size]? = some (.cells (mvA f x) 320)) w7 := ⟨cellOfHeap HA8.out.row 22, (hg7.block w2.heap.size (Array.getElem?_eq_some_iff.1 hS7.2).1 (by have := HLT.out.2.2; simp; omega)).trans hS7.2⟩
  clear hf7 hg7 e1 e2 HOK HA6
  refine wp_region_held (S := fun Z => Z.cell? ⟨A, 22, none⟩ = some (.map (some q.mb)) ∧ Z.heap[w2.heap.size]? = some (.cells (mvA f x) 320)) (by kernel_rfl) ?_
  refine tkH 0 40 (.pointer (some ⟨A, 0, none⟩)) rfl (by kernel_rfl) (fun _ _ _ h => h) (fun Z hZ => by kernel_rfl) hS7 ?_
  refine tkH 1 41 (.pointer (some ⟨A, 0, none⟩)) rfl (by kernel_rfl) (fun _ _ _ h => h) (fun Z hZ => by kernel_rfl) hS7 ?_
  refine tkH 2 42 (.pointer (some ⟨A, 22, none⟩)) rfl (by kernel_rfl) (fun _ _ _ h => h) (fun Z hZ => by kernel_rfl) hS7 ?_
  refine tkH 3 43 (.map (some q.mb)) rfl (by kernel_rfl) (fun _ _ _ h => h) (fun Z hZ => ?y3) hS7 ?_
  case y3 => (have z1 := hZ.1; go_simp)
  refine tkH 4 44 (.agg (mvA f x)) rfl (by kernel_rfl) (fun _ _ _ h => h) (fun Z hZ => ?y4) hS7 ?_
  case y4 => exact yrowA 320 (.tmp 7) rfl w2.heap.size rfl _ _ _ _ hZ.2 Tryz.underlying320 rfl (by kernel_rfl)
  refine tkH 5 45 (.int .i64 i) rfl (by kernel_rfl) (fun _ _ _ h => h) (fun Z hZ => by kernel_rfl) hS7 ?_
  refine rdS 6 rfl (by kernel_rfl) (fun K hK => ?_)
  go_simp
  refine hK.out _ _ hS8 (fun _ => ?_)
  clear hK
  refine wpAnyH_done (by kernel_rfl) ?_ _
  go_simp
  clear hr7
  go_wp2
  go_ret
  exact ⟨i, sts', sa', sc', nf', mn + 1, mf', rfl, HA8.out, HMV.out, Nat.le_refl _, HPR.out, hlen, t, Y, HTY.out.1, HY.out, HTY.out.2⟩
end Go.Proofs.YtllcbnfmihfaaaaGreatDoor
namespace Go.Proofs.YtllcbnfmihfaaaaGreatDoor
open Go.RowKit

theorem next_any (W0 : World) (A : Nat) (q : Aut) (sts : List ((Nat → Nat) × Int × Int)) (sa : Option Addr) (sc : Nat) (nf : Lit → Option Nat) (mn : Nat) (mf : Lit → Option Nat) (W : World) (h : AuAt W0 A q sts (.slice sa sts.length sc) nf mn mf W) (hok : MvOK q sts mf) (hsm : sts.length < 100000) (hmn : mn < 100000) (f : Nat) (s : (Nat → Nat) × Int × Int) (hs : sts[f]? = some s) (key : List UInt8) (ix : Bool) (hb : key.length ≤ maxLen) (x : Nat) (hx : ltrF q.lf key ix = x) (hxL : x < q.L) (hL : q.L ≤ 100000) :
    Calls Tryz.prog 153 #[.pointer (some ⟨A, 0, none⟩), .int .i64 f, .agg #[.string ⟨key.toArray⟩, .bool ix]] W (NxSays W0 A q sts s.1 x mn) := by
  have hfl := (List.getElem?_eq_some_iff.1 hs).1
  obtain ⟨l, hl⟩ := mv_key f x (by omega) (by omega)
  cases hi : mf l with
  | none => exact next_new W0 A q sts sa sc nf mn mf W h hok hsm hmn f s hs key ix hb x hx hxL l hl hi
  | some i =>
    refine (next_known W0 A q sts _ nf mn mf W h f key ix hb x hx l hl i hi).mono ?_
    rintro e W' ⟨rfl, hB⟩
    obtain ⟨s', t, Y, a1, a2, a3, a4⟩ := hok f x l i hl hi
    have e := Option.some.inj (hs.symm.trans a1)
    subst e
    exact ⟨i, sts, sa, sc, nf, mn, mf, rfl, h.next hB, hok, Nat.le_succ _, fun _ _ hh => hh, Nat.le_succ _, t, Y, a2, a3, a4⟩
end Go.Proofs.YtllcbnfmihfaaaaGreatDoor
namespace Go.Proofs.YtllcbnfmihfaaaaGreatDoor
open Go.RowKit

/-- The letters of keys, by the order of the keys. -/
def fnL (ks : List (List UInt8)) : Lit → Option Nat
  | .string b => if b ∈ ks then some (2 + ks.idxOf b) else none
  | _ => none
theorem fnL_in {ks : List (List UInt8)} {b : List UInt8} (h : b ∈ ks) : fnL ks (.string b) = some (2 + ks.idxOf b) := if_pos h
theorem fnL_out {ks : List (List UInt8)} {b : List UInt8} (h : b ∉ ks) : fnL ks (.string b) = none := if_neg h
theorem fnL_new {ks : List (List UInt8)} {b : List UInt8} (h : b ∉ ks) : fnL (ks ++ [b]) (.string b) = some (2 + ks.length) := by
  rw [fnL_in (by simp), List.idxOf_append, if_neg h]
  simp
theorem fnL_old {ks : List (List UInt8)} {b : List UInt8} (_h : b ∉ ks) (l : Lit) (hl : l ≠ .string b) : fnL (ks ++ [b]) l = fnL ks l := by
  cases l with
  | string c =>
    have hc : c ≠ b := fun e => hl (by rw [e])
    by_cases hm : c ∈ ks
    · rw [fnL_in hm, fnL_in (by simp [hm]), List.idxOf_append, if_pos hm]
    · rw [fnL_out hm, fnL_out (by simp [hm, hc])]
  | _ => rfl
/-- The letters in memory, and how many there are. -/
def ImK (W : World) (m : Nat) (ks : List (List UInt8)) : Prop :=
  ∃ D : DataW Unit, W.ownsMap Tryz.prog 9 (plainElem Tryz.prog 3) m ks.length D ∧ (∀ l, Maps.has D l = (fnL ks l).isSome ∧ ∀ v : Nat, fnL ks l = some v → D.atKey l (.lit (.int .i64 0)) = .lit (.int .i64 v)) ∧ Maps.size D = ks.length
theorem ImK.im {W : World} {m : Nat} {ks : List (List UInt8)} (h : ImK W m ks) : ImAt W 9 m ks.length (fnL ks) := by
  obtain ⟨D, h1, h2, _⟩ := h
  exact ⟨D, h1, h2⟩
theorem ImK.kept {W W' : World} {m : Nat} {ks : List (List UInt8)} {row : Option Nat} (h : ImK W m ks) (hg : W.grownBy W' row) (hne : some m ≠ row) : ImK W' m ks := by
  obtain ⟨D, h1, h2⟩ := h
  exact ⟨D, h1.kept hg hne, h2⟩
theorem imK_made (W : World) : ImK (W.alloc (.map #[] 0)) W.heap.size [] :=
  ⟨_, World.ownsMap_made W Tryz.prog _ _, fun l => ⟨by cases l <;> simp [Maps.has, fnL], fun v h => by cases l <;> simp [fnL] at h⟩, rfl⟩
theorem ImK.len {W : World} {t m : Nat} {ks : List (List UInt8)} (h : ImK W m ks) (ht : Tryz.prog.underlying t = some (.map 9 3)) (ty : TypeId) : (Builtin.len_ #[t] ty #[.map (some m)]).run Tryz.prog W = .ok (.int .i64 ks.length) W := by
  obtain ⟨D, h1, _, h3⟩ := h
  rw [h1.len ht ty, h3]
theorem imK_store {W : World} {t m : Nat} {ks : List (List UInt8)} (h : ImK W m ks) (ht : Tryz.prog.underlying t = some (.map 9 3)) (hn : ks.length < 100000) {b : List UInt8} (hb : b.length ≤ 1000000000) (hnew : b ∉ ks) :
    ∃ w', (Instr.mapUpdate t (.map (some m)) (.string ⟨b.toArray⟩) (.int .i64 ((2 + ks.length : Nat) : Int))).run Tryz.prog W = .ok () w' ∧ ImK w' m (ks ++ [b]) ∧ W.grownBy w' (some m) := by
  obtain ⟨D, h1, h2, h3⟩ := h
  have hk := st_key b hb
  obtain ⟨w', hr, ho, hT⟩ := h1.store stK ht (by unfold maxLen; omega) hk (plainElem_int Tryz.underlying3 (wf64 (2 + ks.length) (by omega)))
  have hno : Maps.has D (.string b) = false := by rw [(h2 _).1, fnL_out hnew]; rfl
  refine ⟨w', hr, ⟨_, by rw [List.length_append]; exact ho, fun l => ?_, ?_⟩, hT.grown⟩
  · by_cases e : l = .string b
    · subst e
      rw [fnL_new hnew]
      refine ⟨Maps.has_put_same h1.isMap (stK.key hk) _, fun u hu => ?_⟩
      have hu2 := Option.some.inj hu
      rw [← hu2]
      exact Maps.atKey_put_same h1.isMap (stK.key hk) _ _
    · rw [fnL_old hnew l e]
      exact ⟨(Maps.has_put_other e _).trans (h2 l).1, fun u hu => (Maps.atKey_put_other e _ _).trans ((h2 l).2 u hu)⟩
  · rw [Maps.size_put (h1.tidy stK), hno, h3, List.length_append]
    rfl
/-- The keys that patterns name, in the order in which they are met. -/
def addS (ks : List (List UInt8)) (s : Nat × List UInt8) : List (List UInt8) := if s.1 = 3 ∧ s.2 ∉ ks then ks ++ [s.2] else ks
def addR (ks : List (List UInt8)) (r : List (Nat × List UInt8) × Int × Int) : List (List UInt8) := r.1.foldl addS ks
def keysR (rs : List (List (Nat × List UInt8) × Int × Int)) : List (List UInt8) := rs.foldl addR []
theorem addS_le (ks : List (List UInt8)) (s : Nat × List UInt8) : (addS ks s).length ≤ ks.length + 1 := by
  unfold addS
  split <;> simp
theorem foldS_le : ∀ (ss : List (Nat × List UInt8)) (ks : List (List UInt8)), (ss.foldl addS ks).length ≤ ks.length + ss.length
  | [], ks => by simp
  | s :: ss, ks => by
    have h1 := foldS_le ss (addS ks s)
    have h2 := addS_le ks s
    simp only [List.foldl_cons, List.length_cons]
    omega
end Go.Proofs.YtllcbnfmihfaaaaGreatDoor
