import Derived.Test.YtllcbnfmihfaaaaGreatDoorNumM
import Derived.Laws.IdiomStrings
import Derived.Laws.Concat
namespace Go.Proofs.YtllcbnfmihfaaaaGreatDoor
open Go.RowKit

/-- A string of bytes. -/
def strV (l : List UInt8) : Value := .string ⟨l.toArray⟩
theorem conv_one (w : World) (v : Int) (b : UInt8) (hv : v = b.toNat) :
    (convert 28 9 (.slice (some ⟨w.heap.size, 0, none⟩) 1 1)).run Tryz.prog (w.alloc (.cells #[.int .u8 v] 5)) = .ok (.string ⟨#[b]⟩) (w.alloc (.cells #[.int .u8 v] 5)) := by
  refine run_convert_bytes_back _ 28 9 5 ⟨w.heap.size, 0, none⟩ 1 [b] Tryz.underlying28 Tryz.underlying5 Tryz.underlying9 ?_
  intro j hj
  obtain rfl : j = 0 := by simpa using hj
  subst hv
  exact cellOfHeap (heap_new w _) 0

set_option maxRecDepth 100000 in
set_option maxHeartbeats 2000000 in
theorem decimal_small (z : Int) (h1 : -9 ≤ z) (h2 : z ≤ 9) (W : World) :
    Calls Tryz.prog 16 #[.int .i64 z] W fun e W' => e = .returned (strV (Lib.itoa z)) ∧ Below W.heap.size W W' := by
  have d1 : decide (-9 ≤ z) = true := by simpa using h1
  have d2 : decide (z ≤ 9) = true := by simpa using h2
  by_cases hz : z < 0
  · have d3 : decide (z < 0) = true := by simpa using hz
    obtain ⟨b, hb⟩ : ∃ b, UInt8.ofNat (48 + z.natAbs) = b := ⟨_, rfl⟩
    have hc := conv_one W (wrap64 (48 - z) % 256) b (by rw [← hb, digit_of _ (by omega)]; unfold wrap64; omega)
    have HI : Hid (Lib.itoa z = [45, b]) := by
      show _ = _
      unfold Lib.itoa
      rw [if_pos hz, Lib.decDigits, dif_pos (by omega), hb]
    clear h1 h2 hz hb
    go_enter Tryz.func16, Tryz.ntmps16
    go_wp2
    go_ret
    rw [HI.out]
    exact ⟨rfl, (Below.refl _ _).alloc (Nat.le_refl _) _⟩
  · have d3 : decide (z < 0) = false := by simpa using hz
    obtain ⟨b, hb⟩ : ∃ b, UInt8.ofNat (48 + z.toNat) = b := ⟨_, rfl⟩
    have hc := conv_one W (wrap64 (48 + z) % 256) b (by rw [← hb, digit_of _ (by omega)]; unfold wrap64; omega)
    have HI : Hid (Lib.itoa z = [b]) := by
      show _ = _
      unfold Lib.itoa
      rw [if_neg hz, Lib.decDigits, dif_pos (by omega), hb]
    clear h1 h2 hz hb
    go_enter Tryz.func16, Tryz.ntmps16
    go_wp2
    go_ret
    rw [HI.out]
    exact ⟨rfl, (Below.refl _ _).alloc (Nat.le_refl _) _⟩

/-- The digits of a great number: those of its tenth, and the last one. -/
theorem itoa_step (z : Int) (h : 9 < z ∨ z < -9) : Lib.itoa z = Lib.itoa (z.tdiv 10) ++ [UInt8.ofNat (48 + z.natAbs % 10)] := by
  rcases h with h | h
  · have e : z.tdiv 10 = z / 10 := by rw [Int.tdiv_eq_ediv_of_nonneg (by omega)]
    rw [e]
    unfold Lib.itoa
    rw [if_neg (by omega), if_neg (by omega), Lib.decDigits, dif_neg (by omega), show z.toNat / 10 = (z / 10).toNat by omega, show z.natAbs = z.toNat by omega]
  · have e : z.tdiv 10 = -((-z) / 10) := by
      rw [show z = -(-z) by omega, Int.neg_tdiv, Int.tdiv_eq_ediv_of_nonneg (by omega)]
      simp
    rw [e]
    unfold Lib.itoa
    rw [if_pos (by omega), if_pos (by omega), Lib.decDigits, dif_neg (by omega), show z.natAbs / 10 = (-(-z / 10)).natAbs by omega]
    rfl

theorem conv_cell (w : World) (g : Nat) (m : Nat) (b : UInt8) (hb : b.toNat = 48 + m) (hc : w.cell? ⟨g, 0, none⟩ = some (.int .u8 (48 + (m : Int)))) :
    (convert 28 9 (.slice (some ⟨g, 0, none⟩) 1 1)).run Tryz.prog w = .ok (.string ⟨#[b]⟩) w := by
  refine run_convert_bytes_back _ 28 9 5 ⟨g, 0, none⟩ 1 [b] Tryz.underlying28 Tryz.underlying5 Tryz.underlying9 ?_
  intro j hj
  obtain rfl : j = 0 := by simpa using hj
  show w.cell? ⟨g, 0, none⟩ = some (.int .u8 (b.toNat : Int))
  rw [hc, hb]
  simp
theorem str_append (l : List UInt8) (b : UInt8) : (⟨l.toArray⟩ : ByteArray) ++ ⟨#[b]⟩ = ⟨(l ++ [b]).toArray⟩ := by
  apply ByteArray.ext
  simp

theorem i64w (x : Int) (h : -9223372036854775808 ≤ x ∧ x ≤ 9223372036854775807) : IntKind.i64.wrap x = x := (IntKind.wrap_i64 x).trans (by omega)
theorem u8w (m : Nat) (h : m ≤ 9) : IntKind.u8.wrap (48 + (m : Int)) = 48 + (m : Int) := by
  unfold IntKind.wrap
  simp only [IntKind.bits, IntKind.signed, Bool.false_and]
  rw [if_neg (by decide)]
  omega

set_option maxRecDepth 100000 in
set_option maxHeartbeats 2000000 in
theorem decimal_step (z : Int) (hz : 9 < z ∨ z < -9) (h1 : -9223372036854775808 ≤ z) (h2 : z ≤ 9223372036854775807) (W : World)
    (ih : ∀ V, Calls Tryz.prog 16 #[.int .i64 (z.tdiv 10)] V fun e V' => e = .returned (strV (Lib.itoa (z.tdiv 10))) ∧ Below V.heap.size V V') :
    Calls Tryz.prog 16 #[.int .i64 z] W fun e W' => e = .returned (strV (Lib.itoa z)) ∧ Below W.heap.size W W' := by
  obtain ⟨m, hm⟩ : ∃ m : Nat, z.natAbs % 10 = m := ⟨_, rfl⟩
  have hm9 : m ≤ 9 := by omega
  obtain ⟨b, hb⟩ : ∃ b, UInt8.ofNat (48 + m) = b := ⟨_, rfl⟩
  have HBV : Hid (b.toNat = 48 + m) := by show _ = _; rw [← hb, digit_of _ (by omega)]
  have HI : Hid (Lib.itoa z = Lib.itoa (z.tdiv 10) ++ [b]) := by show _ = _; rw [itoa_step z hz, hm, hb]
  have hq : z.tdiv 10 = if 0 ≤ z then z / 10 else -(-z / 10) := by
    split
    · rw [Int.tdiv_eq_ediv_of_nonneg (by omega)]
    · rw [show z = -(-z) by omega, Int.neg_tdiv, Int.tdiv_eq_ediv_of_nonneg (by omega)]
      simp
  have hr : z.tmod 10 = z - 10 * z.tdiv 10 := by have := Int.mul_tdiv_add_tmod z 10; omega
  have HL : Hid ((Lib.itoa (z.tdiv 10)).length ≤ 21) := Lib.itoa_length_le _ (by rw [hq]; split <;> omega) (by rw [hq]; split <;> omega)
  have hwq : wrap64 (z.tdiv 10) = z.tdiv 10 := by rw [hq]; split <;> (unfold wrap64; omega)
  have HWQ : Hid (IntKind.i64.wrap (z.tdiv 10) = z.tdiv 10) := (IntKind.wrap_i64 _).trans (by have := hwq; unfold wrap64 at this; exact this)
  have HW1 : Hid (IntKind.i64.wrap (48 + (m : Int)) = 48 + (m : Int)) := i64w _ (by omega)
  have HW2 : Hid (IntKind.u8.wrap (48 + (m : Int)) = 48 + (m : Int)) := u8w m hm9
  have HS : Hid ((9 < z ∧ z.tmod 10 = m) ∨ (z < -9 ∧ z.tmod 10 = -(m : Int) ∧ 0 < m) ∨ (z < -9 ∧ z.tmod 10 = m ∧ m = 0)) := by
    show _ ∨ _
    rw [hr, hq]
    by_cases h0 : 0 ≤ z
    · rw [if_pos h0]; omega
    · rw [if_neg h0]; omega
  clear hq hr hb hm hwq
  rcases HS.out with ⟨g1, g2⟩ | ⟨g1, g2, g3⟩ | ⟨g1, g2, g3⟩
  · have d1 : decide (-9 ≤ z) = true := by simp; omega
    have d2 : decide (z ≤ 9) = false := by simp; omega
    have d3 : decide ((m : Int) < 0) = false := by simp
    clear h1 h2 hz HS g1
    go_enter Tryz.func16, Tryz.ntmps16
    go_wp2_with fail
    refine wp_region_held (S := fun _ => True) (by kernel_rfl) ?_
    refine wpAnyH_take (i := 0) (v := .int .i64 z) rfl (by kernel_rfl) (by kernel_rfl) (by kernel_rfl) (fun _ _ _ h => h) (.inl ⟨rfl, fun V hV => rfl⟩) trivial ?_
    refine wpAnyH_take (i := 1) (v := .int .i64 (z.tdiv 10)) rfl (by kernel_rfl) (by kernel_rfl) (by kernel_rfl) (fun _ _ _ h => h) (.inl ⟨rfl, fun V hV => ?y1⟩) trivial ?_
    case y1 => (go_simp; exact HWQ.out)
    refine wpAnyH_take (i := 3) (v := .int .i64 m) rfl (by kernel_rfl) (by kernel_rfl) (by kernel_rfl) (fun _ _ _ h => h) (.inl ⟨rfl, fun V hV => rfl⟩) trivial ?_
    refine wpAnyH_take (i := 4) (v := .int .i64 (48 + (m : Int))) rfl (by kernel_rfl) (by kernel_rfl) (by kernel_rfl) (fun _ _ _ h => h) (.inl ⟨rfl, fun V hV => ?y4⟩) trivial ?_
    case y4 => (go_simp; exact HW1.out)
    refine wpAnyH_take (i := 5) (v := .int .u8 (48 + (m : Int))) rfl (by kernel_rfl) (by kernel_rfl) (by kernel_rfl) (fun _ _ _ h => h) (.inl ⟨rfl, fun V hV => ?y5⟩) trivial ?_
    case y5 => (go_simp; exact HW2.out)
    clear g2 d1 d3 HWQ HW1 HW2
    generalize z.tdiv 10 = q at *
    have hsz : ¬ ((Lib.itoa q).length + 1 > 9223372036854775807) := by have := HL.out; omega
    clear HL
    refine wpAnyH_ready (rs := [2, 6]) (by kernel_rfl) (by simp) ?_
    refine AllReadyH.cons rfl (fun K hK => ?_) (AllReadyH.cons rfl (fun K hK => ?_) AllReadyH.nil)
    · go_simp
      refine (ih _).mono ?_
      rintro e w2 ⟨rfl, hB2⟩
      simp only []
      refine hK.out _ _ trivial (fun _ => ?_)
      clear hK
      refine wpAnyH_ready (rs := [6]) (by kernel_rfl) (by simp) ?_
      refine AllReadyH.cons rfl (fun K hK => ?_) AllReadyH.nil
      go_simp
      refine hK.out _ _ trivial (fun _ => ?_)
      clear hK
      refine wpAnyH_ready (rs := [7]) (by kernel_rfl) (by simp) ?_
      refine AllReadyH.cons rfl (fun K hK => ?_) AllReadyH.nil
      go_simp
      rw [conv_cell _ w2.heap.size m b HBV.out (cellOfHeap (heap_new w2 _) 0)]
      go_simp
      refine hK.out _ _ trivial (fun _ => ?_)
      clear hK
      refine wpAnyH_take (i := 8) (v := strV (Lib.itoa q ++ [b])) rfl (by kernel_rfl) (by kernel_rfl) (by kernel_rfl) (fun _ _ _ h => h) (.inl ⟨rfl, fun V hV => ?y8⟩) trivial ?_
      case y8 => (unfold strV; go_simp; exact str_append _ _)
      refine wpAnyH_take (i := 9) (v := strV (Lib.itoa q ++ [b])) rfl (by kernel_rfl) (by kernel_rfl) (by kernel_rfl) (fun _ _ _ h => h) (.inl ⟨rfl, fun V hV => rfl⟩) trivial ?_
      refine wpAnyH_done (by kernel_rfl) ?_ _
      go_wp2
      go_ret
      rw [HI.out]
      exact ⟨rfl, ((Below.refl _ _).drew.trans hB2).alloc (hB2.size) _⟩
    · go_simp
      refine hK.out _ _ trivial (fun _ => ?_)
      clear hK
      refine wpAnyH_ready (rs := [2, 7]) (by kernel_rfl) (by simp) ?_
      refine AllReadyH.cons rfl (fun K hK => ?_) (AllReadyH.cons rfl (fun K hK => ?_) AllReadyH.nil)
      · go_simp
        refine (ih _).mono ?_
        rintro e w2 ⟨rfl, hB2⟩
        simp only []
        refine hK.out _ _ trivial (fun _ => ?_)
        clear hK
        refine wpAnyH_ready (rs := [7]) (by kernel_rfl) (by simp) ?_
        refine AllReadyH.cons rfl (fun K hK => ?_) AllReadyH.nil
        go_simp
        have hcell : w2.cell? ⟨W.heap.size, 0, none⟩ = some (.int .u8 (48 + (m : Int))) := (hB2.cell (p := ⟨W.heap.size, 0, none⟩) (by simp)).trans (cellOfHeap (heap_new W (.cells #[.int .u8 (48 + (m : Int))] 5)) 0)
        rw [conv_cell _ W.heap.size m b HBV.out hcell]
        go_simp
        refine hK.out _ _ trivial (fun _ => ?_)
        clear hK
        refine wpAnyH_take (i := 8) (v := strV (Lib.itoa q ++ [b])) rfl (by kernel_rfl) (by kernel_rfl) (by kernel_rfl) (fun _ _ _ h => h) (.inl ⟨rfl, fun V hV => ?y8⟩) trivial ?_
        case y8 => (unfold strV; go_simp; exact str_append _ _)
        refine wpAnyH_take (i := 9) (v := strV (Lib.itoa q ++ [b])) rfl (by kernel_rfl) (by kernel_rfl) (by kernel_rfl) (fun _ _ _ h => h) (.inl ⟨rfl, fun V hV => rfl⟩) trivial ?_
        refine wpAnyH_done (by kernel_rfl) ?_ _
        go_wp2
        go_ret
        rw [HI.out]
        exact ⟨rfl, (((Below.refl _ _).drew.alloc (Nat.le_refl _) _)).trans (hB2.mono (by simp))⟩
      · go_simp
        rw [conv_cell (W.alloc (.cells #[.int .u8 (48 + (m : Int))] 5)).drew W.heap.size m b HBV.out (cellOfHeap (heap_new W (.cells #[.int .u8 (48 + (m : Int))] 5)) 0)]
        go_simp
        refine hK.out _ _ trivial (fun _ => ?_)
        clear hK
        refine wpAnyH_ready (rs := [2]) (by kernel_rfl) (by simp) ?_
        refine AllReadyH.cons rfl (fun K hK => ?_) AllReadyH.nil
        go_simp
        refine (ih _).mono ?_
        rintro e w2 ⟨rfl, hB2⟩
        simp only []
        refine hK.out _ _ trivial (fun _ => ?_)
        clear hK
        refine wpAnyH_take (i := 8) (v := strV (Lib.itoa q ++ [b])) rfl (by kernel_rfl) (by kernel_rfl) (by kernel_rfl) (fun _ _ _ h => h) (.inl ⟨rfl, fun V hV => ?y8⟩) trivial ?_
        case y8 => (unfold strV; go_simp; exact str_append _ _)
        refine wpAnyH_take (i := 9) (v := strV (Lib.itoa q ++ [b])) rfl (by kernel_rfl) (by kernel_rfl) (by kernel_rfl) (fun _ _ _ h => h) (.inl ⟨rfl, fun V hV => rfl⟩) trivial ?_
        refine wpAnyH_done (by kernel_rfl) ?_ _
        go_wp2
        go_ret
        rw [HI.out]
        exact ⟨rfl, (((Below.refl _ _).drew.alloc (Nat.le_refl _) _)).trans (hB2.mono (by simp))⟩
  · have d1 : decide (-9 ≤ z) = false := by simp; omega
    have d3 : decide (-(m : Int) < 0) = true := by simp; omega
    have d4 : decide (0 < m) = true := by simp; omega
    clear h1 h2 hz HS g1 g3
    go_enter Tryz.func16, Tryz.ntmps16
    go_wp2_with fail
    refine wp_region_held (S := fun _ => True) (by kernel_rfl) ?_
    refine wpAnyH_take (i := 0) (v := .int .i64 z) rfl (by kernel_rfl) (by kernel_rfl) (by kernel_rfl) (fun _ _ _ h => h) (.inl ⟨rfl, fun V hV => rfl⟩) trivial ?_
    refine wpAnyH_take (i := 1) (v := .int .i64 (z.tdiv 10)) rfl (by kernel_rfl) (by kernel_rfl) (by kernel_rfl) (fun _ _ _ h => h) (.inl ⟨rfl, fun V hV => ?y1⟩) trivial ?_
    case y1 => (go_simp; exact HWQ.out)
    refine wpAnyH_take (i := 3) (v := .int .i64 m) rfl (by kernel_rfl) (by kernel_rfl) (by kernel_rfl) (fun _ _ _ h => h) (.inl ⟨rfl, fun V hV => rfl⟩) trivial ?_
    refine wpAnyH_take (i := 4) (v := .int .i64 (48 + (m : Int))) rfl (by kernel_rfl) (by kernel_rfl) (by kernel_rfl) (fun _ _ _ h => h) (.inl ⟨rfl, fun V hV => ?y4⟩) trivial ?_
    case y4 => (go_simp; exact HW1.out)
    refine wpAnyH_take (i := 5) (v := .int .u8 (48 + (m : Int))) rfl (by kernel_rfl) (by kernel_rfl) (by kernel_rfl) (fun _ _ _ h => h) (.inl ⟨rfl, fun V hV => ?y5⟩) trivial ?_
    case y5 => (go_simp; exact HW2.out)
    clear g2 d1 d3 HWQ HW1 HW2
    generalize z.tdiv 10 = q at *
    have hsz : ¬ ((Lib.itoa q).length + 1 > 9223372036854775807) := by have := HL.out; omega
    clear HL
    refine wpAnyH_ready (rs := [2, 6]) (by kernel_rfl) (by simp) ?_
    refine AllReadyH.cons rfl (fun K hK => ?_) (AllReadyH.cons rfl (fun K hK => ?_) AllReadyH.nil)
    · go_simp
      refine (ih _).mono ?_
      rintro e w2 ⟨rfl, hB2⟩
      simp only []
      refine hK.out _ _ trivial (fun _ => ?_)
      clear hK
      refine wpAnyH_ready (rs := [6]) (by kernel_rfl) (by simp) ?_
      refine AllReadyH.cons rfl (fun K hK => ?_) AllReadyH.nil
      go_simp
      refine hK.out _ _ trivial (fun _ => ?_)
      clear hK
      refine wpAnyH_ready (rs := [7]) (by kernel_rfl) (by simp) ?_
      refine AllReadyH.cons rfl (fun K hK => ?_) AllReadyH.nil
      go_simp
      rw [conv_cell _ w2.heap.size m b HBV.out (cellOfHeap (heap_new w2 _) 0)]
      go_simp
      refine hK.out _ _ trivial (fun _ => ?_)
      clear hK
      refine wpAnyH_take (i := 8) (v := strV (Lib.itoa q ++ [b])) rfl (by kernel_rfl) (by kernel_rfl) (by kernel_rfl) (fun _ _ _ h => h) (.inl ⟨rfl, fun V hV => ?y8⟩) trivial ?_
      case y8 => (unfold strV; go_simp; exact str_append _ _)
      refine wpAnyH_take (i := 9) (v := strV (Lib.itoa q ++ [b])) rfl (by kernel_rfl) (by kernel_rfl) (by kernel_rfl) (fun _ _ _ h => h) (.inl ⟨rfl, fun V hV => rfl⟩) trivial ?_
      refine wpAnyH_done (by kernel_rfl) ?_ _
      go_wp2
      go_ret
      rw [HI.out]
      exact ⟨rfl, ((Below.refl _ _).drew.trans hB2).alloc (hB2.size) _⟩
    · go_simp
      refine hK.out _ _ trivial (fun _ => ?_)
      clear hK
      refine wpAnyH_ready (rs := [2, 7]) (by kernel_rfl) (by simp) ?_
      refine AllReadyH.cons rfl (fun K hK => ?_) (AllReadyH.cons rfl (fun K hK => ?_) AllReadyH.nil)
      · go_simp
        refine (ih _).mono ?_
        rintro e w2 ⟨rfl, hB2⟩
        simp only []
        refine hK.out _ _ trivial (fun _ => ?_)
        clear hK
        refine wpAnyH_ready (rs := [7]) (by kernel_rfl) (by simp) ?_
        refine AllReadyH.cons rfl (fun K hK => ?_) AllReadyH.nil
        go_simp
        have hcell : w2.cell? ⟨W.heap.size, 0, none⟩ = some (.int .u8 (48 + (m : Int))) := (hB2.cell (p := ⟨W.heap.size, 0, none⟩) (by simp)).trans (cellOfHeap (heap_new W (.cells #[.int .u8 (48 + (m : Int))] 5)) 0)
        rw [conv_cell _ W.heap.size m b HBV.out hcell]
        go_simp
        refine hK.out _ _ trivial (fun _ => ?_)
        clear hK
        refine wpAnyH_take (i := 8) (v := strV (Lib.itoa q ++ [b])) rfl (by kernel_rfl) (by kernel_rfl) (by kernel_rfl) (fun _ _ _ h => h) (.inl ⟨rfl, fun V hV => ?y8⟩) trivial ?_
        case y8 => (unfold strV; go_simp; exact str_append _ _)
        refine wpAnyH_take (i := 9) (v := strV (Lib.itoa q ++ [b])) rfl (by kernel_rfl) (by kernel_rfl) (by kernel_rfl) (fun _ _ _ h => h) (.inl ⟨rfl, fun V hV => rfl⟩) trivial ?_
        refine wpAnyH_done (by kernel_rfl) ?_ _
        go_wp2
        go_ret
        rw [HI.out]
        exact ⟨rfl, (((Below.refl _ _).drew.alloc (Nat.le_refl _) _)).trans (hB2.mono (by simp))⟩
      · go_simp
        rw [conv_cell (W.alloc (.cells #[.int .u8 (48 + (m : Int))] 5)).drew W.heap.size m b HBV.out (cellOfHeap (heap_new W (.cells #[.int .u8 (48 + (m : Int))] 5)) 0)]
        go_simp
        refine hK.out _ _ trivial (fun _ => ?_)
        clear hK
        refine wpAnyH_ready (rs := [2]) (by kernel_rfl) (by simp) ?_
        refine AllReadyH.cons rfl (fun K hK => ?_) AllReadyH.nil
        go_simp
        refine (ih _).mono ?_
        rintro e w2 ⟨rfl, hB2⟩
        simp only []
        refine hK.out _ _ trivial (fun _ => ?_)
        clear hK
        refine wpAnyH_take (i := 8) (v := strV (Lib.itoa q ++ [b])) rfl (by kernel_rfl) (by kernel_rfl) (by kernel_rfl) (fun _ _ _ h => h) (.inl ⟨rfl, fun V hV => ?y8⟩) trivial ?_
        case y8 => (unfold strV; go_simp; exact str_append _ _)
        refine wpAnyH_take (i := 9) (v := strV (Lib.itoa q ++ [b])) rfl (by kernel_rfl) (by kernel_rfl) (by kernel_rfl) (fun _ _ _ h => h) (.inl ⟨rfl, fun V hV => rfl⟩) trivial ?_
        refine wpAnyH_done (by kernel_rfl) ?_ _
        go_wp2
        go_ret
        rw [HI.out]
        exact ⟨rfl, (((Below.refl _ _).drew.alloc (Nat.le_refl _) _)).trans (hB2.mono (by simp))⟩
  · have d1 : decide (-9 ≤ z) = false := by simp; omega
    have d3 : decide ((m : Int) < 0) = false := by simp
    clear h1 h2 hz HS g1 g3
    go_enter Tryz.func16, Tryz.ntmps16
    go_wp2_with fail
    refine wp_region_held (S := fun _ => True) (by kernel_rfl) ?_
    refine wpAnyH_take (i := 0) (v := .int .i64 z) rfl (by kernel_rfl) (by kernel_rfl) (by kernel_rfl) (fun _ _ _ h => h) (.inl ⟨rfl, fun V hV => rfl⟩) trivial ?_
    refine wpAnyH_take (i := 1) (v := .int .i64 (z.tdiv 10)) rfl (by kernel_rfl) (by kernel_rfl) (by kernel_rfl) (fun _ _ _ h => h) (.inl ⟨rfl, fun V hV => ?y1⟩) trivial ?_
    case y1 => (go_simp; exact HWQ.out)
    refine wpAnyH_take (i := 3) (v := .int .i64 m) rfl (by kernel_rfl) (by kernel_rfl) (by kernel_rfl) (fun _ _ _ h => h) (.inl ⟨rfl, fun V hV => rfl⟩) trivial ?_
    refine wpAnyH_take (i := 4) (v := .int .i64 (48 + (m : Int))) rfl (by kernel_rfl) (by kernel_rfl) (by kernel_rfl) (fun _ _ _ h => h) (.inl ⟨rfl, fun V hV => ?y4⟩) trivial ?_
    case y4 => (go_simp; exact HW1.out)
    refine wpAnyH_take (i := 5) (v := .int .u8 (48 + (m : Int))) rfl (by kernel_rfl) (by kernel_rfl) (by kernel_rfl) (fun _ _ _ h => h) (.inl ⟨rfl, fun V hV => ?y5⟩) trivial ?_
    case y5 => (go_simp; exact HW2.out)
    clear g2 d1 d3 HWQ HW1 HW2
    generalize z.tdiv 10 = q at *
    have hsz : ¬ ((Lib.itoa q).length + 1 > 9223372036854775807) := by have := HL.out; omega
    clear HL
    refine wpAnyH_ready (rs := [2, 6]) (by kernel_rfl) (by simp) ?_
    refine AllReadyH.cons rfl (fun K hK => ?_) (AllReadyH.cons rfl (fun K hK => ?_) AllReadyH.nil)
    · go_simp
      refine (ih _).mono ?_
      rintro e w2 ⟨rfl, hB2⟩
      simp only []
      refine hK.out _ _ trivial (fun _ => ?_)
      clear hK
      refine wpAnyH_ready (rs := [6]) (by kernel_rfl) (by simp) ?_
      refine AllReadyH.cons rfl (fun K hK => ?_) AllReadyH.nil
      go_simp
      refine hK.out _ _ trivial (fun _ => ?_)
      clear hK
      refine wpAnyH_ready (rs := [7]) (by kernel_rfl) (by simp) ?_
      refine AllReadyH.cons rfl (fun K hK => ?_) AllReadyH.nil
      go_simp
      rw [conv_cell _ w2.heap.size m b HBV.out (cellOfHeap (heap_new w2 _) 0)]
      go_simp
      refine hK.out _ _ trivial (fun _ => ?_)
      clear hK
      refine wpAnyH_take (i := 8) (v := strV (Lib.itoa q ++ [b])) rfl (by kernel_rfl) (by kernel_rfl) (by kernel_rfl) (fun _ _ _ h => h) (.inl ⟨rfl, fun V hV => ?y8⟩) trivial ?_
      case y8 => (unfold strV; go_simp; exact str_append _ _)
      refine wpAnyH_take (i := 9) (v := strV (Lib.itoa q ++ [b])) rfl (by kernel_rfl) (by kernel_rfl) (by kernel_rfl) (fun _ _ _ h => h) (.inl ⟨rfl, fun V hV => rfl⟩) trivial ?_
      refine wpAnyH_done (by kernel_rfl) ?_ _
      go_wp2
      go_ret
      rw [HI.out]
      exact ⟨rfl, ((Below.refl _ _).drew.trans hB2).alloc (hB2.size) _⟩
    · go_simp
      refine hK.out _ _ trivial (fun _ => ?_)
      clear hK
      refine wpAnyH_ready (rs := [2, 7]) (by kernel_rfl) (by simp) ?_
      refine AllReadyH.cons rfl (fun K hK => ?_) (AllReadyH.cons rfl (fun K hK => ?_) AllReadyH.nil)
      · go_simp
        refine (ih _).mono ?_
        rintro e w2 ⟨rfl, hB2⟩
        simp only []
        refine hK.out _ _ trivial (fun _ => ?_)
        clear hK
        refine wpAnyH_ready (rs := [7]) (by kernel_rfl) (by simp) ?_
        refine AllReadyH.cons rfl (fun K hK => ?_) AllReadyH.nil
        go_simp
        have hcell : w2.cell? ⟨W.heap.size, 0, none⟩ = some (.int .u8 (48 + (m : Int))) := (hB2.cell (p := ⟨W.heap.size, 0, none⟩) (by simp)).trans (cellOfHeap (heap_new W (.cells #[.int .u8 (48 + (m : Int))] 5)) 0)
        rw [conv_cell _ W.heap.size m b HBV.out hcell]
        go_simp
        refine hK.out _ _ trivial (fun _ => ?_)
        clear hK
        refine wpAnyH_take (i := 8) (v := strV (Lib.itoa q ++ [b])) rfl (by kernel_rfl) (by kernel_rfl) (by kernel_rfl) (fun _ _ _ h => h) (.inl ⟨rfl, fun V hV => ?y8⟩) trivial ?_
        case y8 => (unfold strV; go_simp; exact str_append _ _)
        refine wpAnyH_take (i := 9) (v := strV (Lib.itoa q ++ [b])) rfl (by kernel_rfl) (by kernel_rfl) (by kernel_rfl) (fun _ _ _ h => h) (.inl ⟨rfl, fun V hV => rfl⟩) trivial ?_
        refine wpAnyH_done (by kernel_rfl) ?_ _
        go_wp2
        go_ret
        rw [HI.out]
        exact ⟨rfl, (((Below.refl _ _).drew.alloc (Nat.le_refl _) _)).trans (hB2.mono (by simp))⟩
      · go_simp
        rw [conv_cell (W.alloc (.cells #[.int .u8 (48 + (m : Int))] 5)).drew W.heap.size m b HBV.out (cellOfHeap (heap_new W (.cells #[.int .u8 (48 + (m : Int))] 5)) 0)]
        go_simp
        refine hK.out _ _ trivial (fun _ => ?_)
        clear hK
        refine wpAnyH_ready (rs := [2]) (by kernel_rfl) (by simp) ?_
        refine AllReadyH.cons rfl (fun K hK => ?_) AllReadyH.nil
        go_simp
        refine (ih _).mono ?_
        rintro e w2 ⟨rfl, hB2⟩
        simp only []
        refine hK.out _ _ trivial (fun _ => ?_)
        clear hK
        refine wpAnyH_take (i := 8) (v := strV (Lib.itoa q ++ [b])) rfl (by kernel_rfl) (by kernel_rfl) (by kernel_rfl) (fun _ _ _ h => h) (.inl ⟨rfl, fun V hV => ?y8⟩) trivial ?_
        case y8 => (unfold strV; go_simp; exact str_append _ _)
        refine wpAnyH_take (i := 9) (v := strV (Lib.itoa q ++ [b])) rfl (by kernel_rfl) (by kernel_rfl) (by kernel_rfl) (fun _ _ _ h => h) (.inl ⟨rfl, fun V hV => rfl⟩) trivial ?_
        refine wpAnyH_done (by kernel_rfl) ?_ _
        go_wp2
        go_ret
        rw [HI.out]
        exact ⟨rfl, (((Below.refl _ _).drew.alloc (Nat.le_refl _) _)).trans (hB2.mono (by simp))⟩

theorem decimal_any : ∀ (n : Nat) (z : Int), z.natAbs ≤ n → -9223372036854775808 ≤ z → z ≤ 9223372036854775807 → ∀ W, Calls Tryz.prog 16 #[.int .i64 z] W fun e W' => e = .returned (strV (Lib.itoa z)) ∧ Below W.heap.size W W'
  | 0, z, h, _, _, W => decimal_small z (by omega) (by omega) W
  | n + 1, z, h, h1, h2, W => by
    by_cases hs : -9 ≤ z ∧ z ≤ 9
    · exact decimal_small z hs.1 hs.2 W
    · have hq : z.tdiv 10 = if 0 ≤ z then z / 10 else -(-z / 10) := by
        split
        · rw [Int.tdiv_eq_ediv_of_nonneg (by omega)]
        · rw [show z = -(-z) by omega, Int.neg_tdiv, Int.tdiv_eq_ediv_of_nonneg (by omega)]
          simp
      refine decimal_step z (by omega) h1 h2 W (fun V => decimal_any n (z.tdiv 10) ?_ ?_ ?_ V)
      all_goals (rw [hq]; split <;> omega)
end Go.Proofs.YtllcbnfmihfaaaaGreatDoor
