import Derived.Test.YtllcbnfmihfaaaaGreatDoorGoes
namespace Go.Proofs.YtllcbnfmihfaaaaGreatDoor
open Go.RowKit

theorem conv_back (V : World) (g cap : Nat) (l : List UInt8) (h : BytesAt V (some ⟨g, 0, none⟩) l) : (convert 28 9 (.slice (some ⟨g, 0, none⟩) l.length cap)).run Tryz.prog V = .ok (.string ⟨l.toArray⟩) V := by
  refine run_convert_bytes_back V 28 9 5 ⟨g, 0, none⟩ cap l Tryz.underlying28 Tryz.underlying5 Tryz.underlying9 ?_
  intro j hj
  obtain ⟨g', off, e1, _, e3⟩ := h.at_ j hj
  injection e1 with e1
  injection e1 with e1 e2
  subst e1
  subst e2
  have e : (⟨g, 0, none⟩ : Addr).add j = ⟨g, 0 + j, none⟩ := by by_cases h : j = 0 <;> simp [Addr.add, h]
  rw [e]
  exact e3
theorem cborHd_pos (s x : Nat) : 0 < (cborHd s x).length := by
  unfold cborHd
  split
  · simp
  split
  · simp
  split
  · simp
  split <;> simp
theorem cborZ_pos (z : Int) : 0 < (cborZ z).length := by
  unfold cborZ
  split <;> exact cborHd_pos _ _
theorem cborHd_len (s x : Nat) : (cborHd s x).length ≤ 9 := by
  unfold cborHd
  split
  · simp
  split
  · simp [beF_length]
  split
  · simp [beF_length]
  split <;> simp [beF_length]
theorem cborZ_len (z : Int) : (cborZ z).length ≤ maxLen := by
  unfold cborZ maxLen
  split <;> exact Nat.le_trans (cborHd_len _ _) (by decide)
theorem packZ_pos (z : Int) : 0 < (packZ z).length := by
  unfold packZ packNeg packNat
  split
  · split
    · simp
    split
    · simp
    split
    · simp
    split <;> simp
  · split
    · simp
    split
    · simp
    split
    · simp
    split <;> simp
theorem str_app (l m : List UInt8) : (⟨l.toArray⟩ : ByteArray) ++ ⟨m.toArray⟩ = ⟨(l ++ m).toArray⟩ := by
  apply ByteArray.ext
  simp
/-- What the two refusals of the law are. -/
structure Bad (z : Int) (L0 L5 : List UInt8) (c : UInt8) (en pl : Int) : Prop where
  h0 : L0[0]? = some c
  h5 : L5[0]? = some c
  hc : c.toNat = 45 ∨ isDig c = true
  d0 : docN L0 4096 c = .error (en, pl)
  d5 : docN L5 4096 c = .error (10, ((Lib.itoa z).length : Int))
  ne : en ≠ 0
  far : z = 0 ∨ (en = 10 ∧ 18 ≤ pl)
  l0 : L0.length ≤ maxLen
  l5 : L5.length ≤ maxLen
theorem bad_any (z : Int) (hn1 : -9223372036854775808 ≤ z) (hn2 : z ≤ 9223372036854775807) : ∃ c en pl, Bad z (Lib.itoa z ++ List.replicate 19 48) (Lib.itoa z ++ [46, 53]) c en pl := by
  have hlen := Lib.itoa_length_le z hn1 hn2
  have hl0 : (((Lib.itoa z ++ List.replicate 19 48).length : Nat) : Int) < 4096 := by rw [List.length_append, List.length_replicate]; omega
  have hl5 : (((Lib.itoa z ++ [46, 53]).length : Nat) : Int) < 4096 := by rw [List.length_append]; simp only [List.length_cons, List.length_nil]; omega
  obtain ⟨c, cs, h1, h2, h3⟩ := docN_fail z [46, 53] 4096 10 (Lib.itoa z).length hn1 hn2 hl5 (tail_dot z [53] 4096 hl5)
  have hx : ∃ en pl, docN (Lib.itoa z ++ List.replicate 19 48) 4096 c = .error (en, pl) ∧ en ≠ 0 ∧ (z = 0 ∨ (en = 10 ∧ 18 ≤ pl)) := by
    by_cases hz : z = 0
    · obtain ⟨c', cs', g1, _, g3⟩ := docN_fail z (List.replicate 19 48) 4096 9 1 hn1 hn2 hl0 (by rw [hz]; exact tail_zero 4096 (by decide))
      obtain rfl : c' = c := by rw [h1] at g1; injection g1 with g1 _; exact g1.symm
      exact ⟨9, 1, g3, by decide, .inl hz⟩
    · obtain ⟨_, _, _, _, hd, _⟩ := numF_itoa z [] 4096 hn1 hn2 (by rw [List.append_nil]; omega)
      obtain ⟨p, hp, ht⟩ := tail_zeros z 4096 hn1 hn2 hz hd hl0
      obtain ⟨c', cs', g1, _, g3⟩ := docN_fail z (List.replicate 19 48) 4096 10 p hn1 hn2 hl0 ht
      obtain rfl : c' = c := by rw [h1] at g1; injection g1 with g1 _; exact g1.symm
      exact ⟨10, p, g3, by decide, .inr ⟨rfl, by omega⟩⟩
  obtain ⟨en, pl, x1, x2, x3⟩ := hx
  refine ⟨c, en, pl, by rw [h1]; rfl, by rw [h1]; rfl, h2, x1, h3, x2, x3, ?_, ?_⟩
  · unfold maxLen; omega
  · unfold maxLen; omega
theorem good_any (z : Int) (hn1 : -9223372036854775808 ≤ z) (hn2 : z ≤ 9223372036854775807) : ∃ c, (Lib.itoa z)[0]? = some c ∧ (c.toNat = 45 ∨ isDig c = true) ∧ docN (Lib.itoa z) 4096 c = .ok z ∧ 0 < (Lib.itoa z).length ∧ (Lib.itoa z).length ≤ 21 := by
  have hlen := Lib.itoa_length_le z hn1 hn2
  obtain ⟨c, cs, h1, h2, h3⟩ := docN_itoa z 4096 hn1 hn2 (by omega)
  exact ⟨c, by rw [h1]; rfl, h2, h3, by rw [h1]; simp, hlen⟩

set_option maxRecDepth 100000 in
set_option maxHeartbeats 4000000 in
theorem numbers_pos (z : Int) (hz : 0 ≤ z) (hn1 : -9223372036854775808 ≤ z) (hn2 : z ≤ 9223372036854775807) (W : World) (ht : NumTabs W) :
    Calls Tryz.prog 7 #[.int .i64 z] W fun e W' => e = .returned (.bool true) ∧ Below W.heap.size W W' := by
  have HTB : Hid (NumTabs W) := ht
  have HR : Hid (-9223372036854775808 ≤ z ∧ z ≤ 9223372036854775807) := ⟨hn1, hn2⟩
  have cD := decimal_any z.natAbs z (Nat.le_refl _) hn1 hn2 W
  obtain ⟨c0, q1, q2, q3, q4, q5⟩ := good_any z hn1 hn2
  have HG : Hid ((Lib.itoa z)[0]? = some c0 ∧ (c0.toNat = 45 ∨ isDig c0 = true) ∧ docN (Lib.itoa z) 4096 c0 = .ok z ∧ 0 < (Lib.itoa z).length ∧ (Lib.itoa z).length ≤ 21) := ⟨q1, q2, q3, q4, q5⟩
  have HM : Hid ((Lib.itoa z).length ≤ maxLen) := by show _ ≤ _; unfold maxLen; omega
  have hs1 : ¬ ((Lib.itoa z).length + 19 > 9223372036854775807) := by omega
  have hs2 : ¬ ((Lib.itoa z).length + 2 > 9223372036854775807) := by omega
  obtain ⟨c, en, pl, hbad⟩ := bad_any z hn1 hn2
  have e1 : (⟨(Lib.itoa z).toArray⟩ : ByteArray) ++ ⟨#[48, 48, 48, 48, 48, 48, 48, 48, 48, 48, 48, 48, 48, 48, 48, 48, 48, 48, 48]⟩ = ⟨(Lib.itoa z ++ List.replicate 19 48).toArray⟩ := str_app (Lib.itoa z) (List.replicate 19 48)
  have e2 : (⟨(Lib.itoa z).toArray⟩ : ByteArray) ++ ⟨#[46, 53]⟩ = ⟨(Lib.itoa z ++ [46, 53]).toArray⟩ := str_app (Lib.itoa z) [46, 53]
  generalize Lib.itoa z ++ List.replicate 19 48 = L0 at e1 hbad
  generalize Lib.itoa z ++ [46, 53] = L5 at e2 hbad
  have HBD : Hid (Bad z L0 L5 c en pl) := hbad
  have d0 : decide (z < 0) = false := by simpa using hz
  have cH : ∀ V : World, Calls Tryz.prog 17 #[.int .i64 0, .int .i64 z] V fun e V' => ∃ v', e = .returned v' ∧ Own V' V.heap.size v' (cborZ z) ∧ Below V.heap.size V V' := fun V => by
    have h := head_any V 0 z.toNat (by decide) (by omega)
    rw [show ((z.toNat : Nat) : Int) = z by omega] at h
    unfold cborZ
    rw [if_neg (by omega)]
    exact h
  clear hz
  clear ht hn1 hn2 q1 q2 q3 q4 q5 hbad
  have hfar : ((z == 0) = true) ∨ ((z == 0) = false ∧ (en == 10) = true ∧ decide (18 ≤ pl) = true) := by
    cases hb0 : (z == 0)
    · rcases HBD.out.far with hf | ⟨hf1, hf2⟩
      · rw [hf] at hb0
        exact absurd hb0 (by decide)
      · exact .inr ⟨rfl, by rw [hf1]; rfl, by simpa using hf2⟩
    · exact .inl rfl
  rcases hfar with f0 | ⟨f0, f1, f2⟩
  · unfold strV at cD
    go_enter Tryz.func7, Tryz.ntmps7
    go_wp2_with (first
      | (go_at_call 16; refine cD.mono ?_; clear cD; rintro e w1 ⟨rfl, hB1⟩; have HB1 : Hid (Below W.heap.size W w1) := hB1; clear hB1; have cH1 := cH w1; clear cH)
      | (go_at_call 17; refine cH1.mono ?_; clear cH1; rintro e w2 ⟨v2, rfl, hO2, hB2⟩; obtain ⟨g, cap, rfl, hy2, -⟩ := hO2.holds (cborZ_pos z); have HB2 : Hid (Below W.heap.size W w2) := HB1.out.trans (hB2.mono HB1.out.size); have HY2 : Hid (BytesAt w2 (some ⟨g, 0, none⟩) (cborZ z)) := hy2; have hback := conv_back w2 g cap (cborZ z) hy2; clear hB2 hO2 HB1 hy2; have cG1 := goes_ok w2 1 2 (Lib.itoa z) (cborZ z) z cborZ HM.out rfl (cborZ_pos z) (fun V a k hV hW => tr_json_cbor V a (Lib.itoa z) k c0 (.ok z) hV HG.out.1 HG.out.2.1 HG.out.2.2.1 (fun _ h => by cases h; exact HR.out) (fun _ _ h => by cases h)); unfold strV at cG1)
      | (go_at_call 18; refine cG1.mono ?_; clear cG1 hback; rintro e w3 ⟨rfl, hB3⟩; have HB3 : Hid (Below W.heap.size W w3) := HB2.out.trans (hB3.mono HB2.out.size); have HY3 : Hid (BytesAt w3 (some ⟨g, 0, none⟩) (cborZ z)) := HY2.out.below hB3; clear HB2 HY2 hB3; have hback3 := conv_back w3 g cap (cborZ z) HY3.out; have cG2 := goes_ok w3 2 1 (cborZ z) (Lib.itoa z) z Lib.itoa (cborZ_len z) rfl HG.out.2.2.2.1 (fun V a k hV hW => tr_cbor_json V a z k HR.out.1 HR.out.2 hV ((HTB.out.below HB3.out).below hW)); unfold strV at cG2)
      | (go_at_call 18; refine cG2.mono ?_; clear cG2 hback3; rintro e w4 ⟨rfl, hB4⟩; have HB4 : Hid (Below W.heap.size W w4) := HB3.out.trans (hB4.mono HB3.out.size); have cT1 := tr_cbor_pack w4 (some ⟨g, 0, none⟩) z cap HR.out.1 HR.out.2 (HY3.out.below hB4) (HTB.out.below HB4.out); clear HB3 HY3 hB4)
      | (go_at_call 19; refine cT1.mono ?_; clear cT1; rintro e w5 ⟨hB5, v5, rfl, hO5⟩; obtain ⟨g5, cap5, rfl, hy5, -⟩ := hO5.holds (packZ_pos z); have HB5 : Hid (Below W.heap.size W w5) := HB4.out.trans (hB5.mono HB4.out.size); have hback5 := conv_back w5 g5 cap5 (packZ z) hy5; clear HB4 hB5 hO5; have cG3 := goes_ok w5 3 1 (packZ z) (Lib.itoa z) z Lib.itoa hy5.len rfl HG.out.2.2.2.1 (fun V a k hV hW => tr_pack_json V a z k HR.out.1 HR.out.2 hV ((HTB.out.below HB5.out).below hW)); clear hy5; unfold strV at cG3)
      | (go_at_call 18; refine cG3.mono ?_; clear cG3 hback5; rintro e w6 ⟨rfl, hB6⟩; have HB6 : Hid (Below W.heap.size W w6) := HB5.out.trans (hB6.mono HB5.out.size); clear HB5 hB6; obtain ⟨cap6, V6, hcv6, hBv6, hy6⟩ := conv_bytes w6 L0 HBD.out.l0; unfold strV at hcv6; have HB6v : Hid (Below W.heap.size W V6) := HB6.out.trans (hBv6.mono HB6.out.size); have cT2 := tr_json_cbor V6 _ L0 cap6 c (.error (en, pl)) hy6 HBD.out.h0 HBD.out.hc HBD.out.d0 (fun _ h => by cases h) (fun _ _ h => by cases h; exact HBD.out.ne); clear HB6 hBv6 hy6)
      | (go_at_call 19; refine cT2.mono ?_; clear cT2; rintro e w7 ⟨hB7, rfl⟩; have HB7 : Hid (Below W.heap.size W w7) := HB6v.out.trans (hB7.mono HB6v.out.size); clear HB6v hB7 hcv6; obtain ⟨cap7, V7, hcv7, hBv7, hy7⟩ := conv_bytes w7 L5 HBD.out.l5; unfold strV at hcv7; have HB7v : Hid (Below W.heap.size W V7) := HB7.out.trans (hBv7.mono HB7.out.size); have cT3 := tr_json_cbor V7 _ L5 cap7 c (.error (10, ((Lib.itoa z).length : Int))) hy7 HBD.out.h5 HBD.out.hc HBD.out.d5 (fun _ h => by cases h) (fun _ _ h => by cases h; decide); clear HB7 hBv7 hy7)
      | (go_at_call 19; refine cT3.mono ?_; clear cT3; rintro e w8 ⟨hB8, rfl⟩; have HB8 : Hid (Below W.heap.size W w8) := HB7v.out.trans (hB8.mono HB7v.out.size); clear HB7v hB8 hcv7))
    go_ret
    exact ⟨rfl, HB8.out⟩
  · unfold strV at cD
    go_enter Tryz.func7, Tryz.ntmps7
    go_wp2_with (first
      | (go_at_call 16; refine cD.mono ?_; clear cD; rintro e w1 ⟨rfl, hB1⟩; have HB1 : Hid (Below W.heap.size W w1) := hB1; clear hB1; have cH1 := cH w1; clear cH)
      | (go_at_call 17; refine cH1.mono ?_; clear cH1; rintro e w2 ⟨v2, rfl, hO2, hB2⟩; obtain ⟨g, cap, rfl, hy2, -⟩ := hO2.holds (cborZ_pos z); have HB2 : Hid (Below W.heap.size W w2) := HB1.out.trans (hB2.mono HB1.out.size); have HY2 : Hid (BytesAt w2 (some ⟨g, 0, none⟩) (cborZ z)) := hy2; have hback := conv_back w2 g cap (cborZ z) hy2; clear hB2 hO2 HB1 hy2; have cG1 := goes_ok w2 1 2 (Lib.itoa z) (cborZ z) z cborZ HM.out rfl (cborZ_pos z) (fun V a k hV hW => tr_json_cbor V a (Lib.itoa z) k c0 (.ok z) hV HG.out.1 HG.out.2.1 HG.out.2.2.1 (fun _ h => by cases h; exact HR.out) (fun _ _ h => by cases h)); unfold strV at cG1)
      | (go_at_call 18; refine cG1.mono ?_; clear cG1 hback; rintro e w3 ⟨rfl, hB3⟩; have HB3 : Hid (Below W.heap.size W w3) := HB2.out.trans (hB3.mono HB2.out.size); have HY3 : Hid (BytesAt w3 (some ⟨g, 0, none⟩) (cborZ z)) := HY2.out.below hB3; clear HB2 HY2 hB3; have hback3 := conv_back w3 g cap (cborZ z) HY3.out; have cG2 := goes_ok w3 2 1 (cborZ z) (Lib.itoa z) z Lib.itoa (cborZ_len z) rfl HG.out.2.2.2.1 (fun V a k hV hW => tr_cbor_json V a z k HR.out.1 HR.out.2 hV ((HTB.out.below HB3.out).below hW)); unfold strV at cG2)
      | (go_at_call 18; refine cG2.mono ?_; clear cG2 hback3; rintro e w4 ⟨rfl, hB4⟩; have HB4 : Hid (Below W.heap.size W w4) := HB3.out.trans (hB4.mono HB3.out.size); have cT1 := tr_cbor_pack w4 (some ⟨g, 0, none⟩) z cap HR.out.1 HR.out.2 (HY3.out.below hB4) (HTB.out.below HB4.out); clear HB3 HY3 hB4)
      | (go_at_call 19; refine cT1.mono ?_; clear cT1; rintro e w5 ⟨hB5, v5, rfl, hO5⟩; obtain ⟨g5, cap5, rfl, hy5, -⟩ := hO5.holds (packZ_pos z); have HB5 : Hid (Below W.heap.size W w5) := HB4.out.trans (hB5.mono HB4.out.size); have hback5 := conv_back w5 g5 cap5 (packZ z) hy5; clear HB4 hB5 hO5; have cG3 := goes_ok w5 3 1 (packZ z) (Lib.itoa z) z Lib.itoa hy5.len rfl HG.out.2.2.2.1 (fun V a k hV hW => tr_pack_json V a z k HR.out.1 HR.out.2 hV ((HTB.out.below HB5.out).below hW)); clear hy5; unfold strV at cG3)
      | (go_at_call 18; refine cG3.mono ?_; clear cG3 hback5; rintro e w6 ⟨rfl, hB6⟩; have HB6 : Hid (Below W.heap.size W w6) := HB5.out.trans (hB6.mono HB5.out.size); clear HB5 hB6; obtain ⟨cap6, V6, hcv6, hBv6, hy6⟩ := conv_bytes w6 L0 HBD.out.l0; unfold strV at hcv6; have HB6v : Hid (Below W.heap.size W V6) := HB6.out.trans (hBv6.mono HB6.out.size); have cT2 := tr_json_cbor V6 _ L0 cap6 c (.error (en, pl)) hy6 HBD.out.h0 HBD.out.hc HBD.out.d0 (fun _ h => by cases h) (fun _ _ h => by cases h; exact HBD.out.ne); clear HB6 hBv6 hy6)
      | (go_at_call 19; refine cT2.mono ?_; clear cT2; rintro e w7 ⟨hB7, rfl⟩; have HB7 : Hid (Below W.heap.size W w7) := HB6v.out.trans (hB7.mono HB6v.out.size); clear HB6v hB7 hcv6; obtain ⟨cap7, V7, hcv7, hBv7, hy7⟩ := conv_bytes w7 L5 HBD.out.l5; unfold strV at hcv7; have HB7v : Hid (Below W.heap.size W V7) := HB7.out.trans (hBv7.mono HB7.out.size); have cT3 := tr_json_cbor V7 _ L5 cap7 c (.error (10, ((Lib.itoa z).length : Int))) hy7 HBD.out.h5 HBD.out.hc HBD.out.d5 (fun _ h => by cases h) (fun _ _ h => by cases h; decide); clear HB7 hBv7 hy7)
      | (go_at_call 19; refine cT3.mono ?_; clear cT3; rintro e w8 ⟨hB8, rfl⟩; have HB8 : Hid (Below W.heap.size W w8) := HB7v.out.trans (hB8.mono HB7v.out.size); clear HB7v hB8 hcv7))
    go_ret
    exact ⟨rfl, HB8.out⟩

set_option maxRecDepth 100000 in
set_option maxHeartbeats 4000000 in
theorem numbers_neg (z : Int) (hz : z < 0) (hn1 : -9223372036854775808 ≤ z) (hn2 : z ≤ 9223372036854775807) (W : World) (ht : NumTabs W) :
    Calls Tryz.prog 7 #[.int .i64 z] W fun e W' => e = .returned (.bool true) ∧ Below W.heap.size W W' := by
  have HTB : Hid (NumTabs W) := ht
  have HR : Hid (-9223372036854775808 ≤ z ∧ z ≤ 9223372036854775807) := ⟨hn1, hn2⟩
  have cD := decimal_any z.natAbs z (Nat.le_refl _) hn1 hn2 W
  obtain ⟨c0, q1, q2, q3, q4, q5⟩ := good_any z hn1 hn2
  have HG : Hid ((Lib.itoa z)[0]? = some c0 ∧ (c0.toNat = 45 ∨ isDig c0 = true) ∧ docN (Lib.itoa z) 4096 c0 = .ok z ∧ 0 < (Lib.itoa z).length ∧ (Lib.itoa z).length ≤ 21) := ⟨q1, q2, q3, q4, q5⟩
  have HM : Hid ((Lib.itoa z).length ≤ maxLen) := by show _ ≤ _; unfold maxLen; omega
  have hs1 : ¬ ((Lib.itoa z).length + 19 > 9223372036854775807) := by omega
  have hs2 : ¬ ((Lib.itoa z).length + 2 > 9223372036854775807) := by omega
  obtain ⟨c, en, pl, hbad⟩ := bad_any z hn1 hn2
  have e1 : (⟨(Lib.itoa z).toArray⟩ : ByteArray) ++ ⟨#[48, 48, 48, 48, 48, 48, 48, 48, 48, 48, 48, 48, 48, 48, 48, 48, 48, 48, 48]⟩ = ⟨(Lib.itoa z ++ List.replicate 19 48).toArray⟩ := str_app (Lib.itoa z) (List.replicate 19 48)
  have e2 : (⟨(Lib.itoa z).toArray⟩ : ByteArray) ++ ⟨#[46, 53]⟩ = ⟨(Lib.itoa z ++ [46, 53]).toArray⟩ := str_app (Lib.itoa z) [46, 53]
  generalize Lib.itoa z ++ List.replicate 19 48 = L0 at e1 hbad
  generalize Lib.itoa z ++ [46, 53] = L5 at e2 hbad
  have HBD : Hid (Bad z L0 L5 c en pl) := hbad
  have d0 : decide (z < 0) = true := by simpa using hz
  have cN : ∀ V : World, Calls Tryz.prog 17 #[.int .i64 0, .int .i64 z] V fun e V' => ∃ v', e = .returned v' ∧ Below V.heap.size V V' := fun V => head_neg V z hn1 hz
  obtain ⟨y, hy⟩ : ∃ y : Int, wrap64 (-1 - z) = y := ⟨_, rfl⟩
  have cH : ∀ V : World, Calls Tryz.prog 17 #[.int .i64 1, .int .i64 y] V fun e V' => ∃ v', e = .returned v' ∧ Own V' V.heap.size v' (cborZ z) ∧ Below V.heap.size V V' := fun V => by
    have h := head_any V 1 (-1 - z).toNat (by decide) (by omega)
    have hy2 : y = (((-1 - z).toNat : Nat) : Int) := by rw [← hy]; unfold wrap64; omega
    rw [hy2]
    unfold cborZ
    rw [if_pos hz]
    exact h
  clear hz
  clear ht hn1 hn2 q1 q2 q3 q4 q5 hbad
  have hfar : ((z == 0) = true) ∨ ((z == 0) = false ∧ (en == 10) = true ∧ decide (18 ≤ pl) = true) := by
    cases hb0 : (z == 0)
    · rcases HBD.out.far with hf | ⟨hf1, hf2⟩
      · rw [hf] at hb0
        exact absurd hb0 (by decide)
      · exact .inr ⟨rfl, by rw [hf1]; rfl, by simpa using hf2⟩
    · exact .inl rfl
  rcases hfar with f0 | ⟨f0, f1, f2⟩
  · unfold strV at cD
    go_enter Tryz.func7, Tryz.ntmps7
    go_wp2_with (first
      | (go_at_call 16; refine cD.mono ?_; clear cD; rintro e w0 ⟨rfl, hB0⟩; have HB0 : Hid (Below W.heap.size W w0) := hB0; clear hB0; have cN1 := cN w0; clear cN)
      | (go_at_call 17; refine cN1.mono ?_; clear cN1; rintro e w1 ⟨v1, rfl, hB1⟩; have HB1 : Hid (Below W.heap.size W w1) := HB0.out.trans (hB1.mono HB0.out.size); clear hB1 HB0; have cH1 := cH w1; clear cH)
      | (go_at_call 17; refine cH1.mono ?_; clear cH1; rintro e w2 ⟨v2, rfl, hO2, hB2⟩; obtain ⟨g, cap, rfl, hy2, -⟩ := hO2.holds (cborZ_pos z); have HB2 : Hid (Below W.heap.size W w2) := HB1.out.trans (hB2.mono HB1.out.size); have HY2 : Hid (BytesAt w2 (some ⟨g, 0, none⟩) (cborZ z)) := hy2; have hback := conv_back w2 g cap (cborZ z) hy2; clear hB2 hO2 HB1 hy2; have cG1 := goes_ok w2 1 2 (Lib.itoa z) (cborZ z) z cborZ HM.out rfl (cborZ_pos z) (fun V a k hV hW => tr_json_cbor V a (Lib.itoa z) k c0 (.ok z) hV HG.out.1 HG.out.2.1 HG.out.2.2.1 (fun _ h => by cases h; exact HR.out) (fun _ _ h => by cases h)); unfold strV at cG1)
      | (go_at_call 18; refine cG1.mono ?_; clear cG1 hback; rintro e w3 ⟨rfl, hB3⟩; have HB3 : Hid (Below W.heap.size W w3) := HB2.out.trans (hB3.mono HB2.out.size); have HY3 : Hid (BytesAt w3 (some ⟨g, 0, none⟩) (cborZ z)) := HY2.out.below hB3; clear HB2 HY2 hB3; have hback3 := conv_back w3 g cap (cborZ z) HY3.out; have cG2 := goes_ok w3 2 1 (cborZ z) (Lib.itoa z) z Lib.itoa (cborZ_len z) rfl HG.out.2.2.2.1 (fun V a k hV hW => tr_cbor_json V a z k HR.out.1 HR.out.2 hV ((HTB.out.below HB3.out).below hW)); unfold strV at cG2)
      | (go_at_call 18; refine cG2.mono ?_; clear cG2 hback3; rintro e w4 ⟨rfl, hB4⟩; have HB4 : Hid (Below W.heap.size W w4) := HB3.out.trans (hB4.mono HB3.out.size); have cT1 := tr_cbor_pack w4 (some ⟨g, 0, none⟩) z cap HR.out.1 HR.out.2 (HY3.out.below hB4) (HTB.out.below HB4.out); clear HB3 HY3 hB4)
      | (go_at_call 19; refine cT1.mono ?_; clear cT1; rintro e w5 ⟨hB5, v5, rfl, hO5⟩; obtain ⟨g5, cap5, rfl, hy5, -⟩ := hO5.holds (packZ_pos z); have HB5 : Hid (Below W.heap.size W w5) := HB4.out.trans (hB5.mono HB4.out.size); have hback5 := conv_back w5 g5 cap5 (packZ z) hy5; clear HB4 hB5 hO5; have cG3 := goes_ok w5 3 1 (packZ z) (Lib.itoa z) z Lib.itoa hy5.len rfl HG.out.2.2.2.1 (fun V a k hV hW => tr_pack_json V a z k HR.out.1 HR.out.2 hV ((HTB.out.below HB5.out).below hW)); clear hy5; unfold strV at cG3)
      | (go_at_call 18; refine cG3.mono ?_; clear cG3 hback5; rintro e w6 ⟨rfl, hB6⟩; have HB6 : Hid (Below W.heap.size W w6) := HB5.out.trans (hB6.mono HB5.out.size); clear HB5 hB6; obtain ⟨cap6, V6, hcv6, hBv6, hy6⟩ := conv_bytes w6 L0 HBD.out.l0; unfold strV at hcv6; have HB6v : Hid (Below W.heap.size W V6) := HB6.out.trans (hBv6.mono HB6.out.size); have cT2 := tr_json_cbor V6 _ L0 cap6 c (.error (en, pl)) hy6 HBD.out.h0 HBD.out.hc HBD.out.d0 (fun _ h => by cases h) (fun _ _ h => by cases h; exact HBD.out.ne); clear HB6 hBv6 hy6)
      | (go_at_call 19; refine cT2.mono ?_; clear cT2; rintro e w7 ⟨hB7, rfl⟩; have HB7 : Hid (Below W.heap.size W w7) := HB6v.out.trans (hB7.mono HB6v.out.size); clear HB6v hB7 hcv6; obtain ⟨cap7, V7, hcv7, hBv7, hy7⟩ := conv_bytes w7 L5 HBD.out.l5; unfold strV at hcv7; have HB7v : Hid (Below W.heap.size W V7) := HB7.out.trans (hBv7.mono HB7.out.size); have cT3 := tr_json_cbor V7 _ L5 cap7 c (.error (10, ((Lib.itoa z).length : Int))) hy7 HBD.out.h5 HBD.out.hc HBD.out.d5 (fun _ h => by cases h) (fun _ _ h => by cases h; decide); clear HB7 hBv7 hy7)
      | (go_at_call 19; refine cT3.mono ?_; clear cT3; rintro e w8 ⟨hB8, rfl⟩; have HB8 : Hid (Below W.heap.size W w8) := HB7v.out.trans (hB8.mono HB7v.out.size); clear HB7v hB8 hcv7))
    go_ret
    exact ⟨rfl, HB8.out⟩
  · unfold strV at cD
    go_enter Tryz.func7, Tryz.ntmps7
    go_wp2_with (first
      | (go_at_call 16; refine cD.mono ?_; clear cD; rintro e w0 ⟨rfl, hB0⟩; have HB0 : Hid (Below W.heap.size W w0) := hB0; clear hB0; have cN1 := cN w0; clear cN)
      | (go_at_call 17; refine cN1.mono ?_; clear cN1; rintro e w1 ⟨v1, rfl, hB1⟩; have HB1 : Hid (Below W.heap.size W w1) := HB0.out.trans (hB1.mono HB0.out.size); clear hB1 HB0; have cH1 := cH w1; clear cH)
      | (go_at_call 17; refine cH1.mono ?_; clear cH1; rintro e w2 ⟨v2, rfl, hO2, hB2⟩; obtain ⟨g, cap, rfl, hy2, -⟩ := hO2.holds (cborZ_pos z); have HB2 : Hid (Below W.heap.size W w2) := HB1.out.trans (hB2.mono HB1.out.size); have HY2 : Hid (BytesAt w2 (some ⟨g, 0, none⟩) (cborZ z)) := hy2; have hback := conv_back w2 g cap (cborZ z) hy2; clear hB2 hO2 HB1 hy2; have cG1 := goes_ok w2 1 2 (Lib.itoa z) (cborZ z) z cborZ HM.out rfl (cborZ_pos z) (fun V a k hV hW => tr_json_cbor V a (Lib.itoa z) k c0 (.ok z) hV HG.out.1 HG.out.2.1 HG.out.2.2.1 (fun _ h => by cases h; exact HR.out) (fun _ _ h => by cases h)); unfold strV at cG1)
      | (go_at_call 18; refine cG1.mono ?_; clear cG1 hback; rintro e w3 ⟨rfl, hB3⟩; have HB3 : Hid (Below W.heap.size W w3) := HB2.out.trans (hB3.mono HB2.out.size); have HY3 : Hid (BytesAt w3 (some ⟨g, 0, none⟩) (cborZ z)) := HY2.out.below hB3; clear HB2 HY2 hB3; have hback3 := conv_back w3 g cap (cborZ z) HY3.out; have cG2 := goes_ok w3 2 1 (cborZ z) (Lib.itoa z) z Lib.itoa (cborZ_len z) rfl HG.out.2.2.2.1 (fun V a k hV hW => tr_cbor_json V a z k HR.out.1 HR.out.2 hV ((HTB.out.below HB3.out).below hW)); unfold strV at cG2)
      | (go_at_call 18; refine cG2.mono ?_; clear cG2 hback3; rintro e w4 ⟨rfl, hB4⟩; have HB4 : Hid (Below W.heap.size W w4) := HB3.out.trans (hB4.mono HB3.out.size); have cT1 := tr_cbor_pack w4 (some ⟨g, 0, none⟩) z cap HR.out.1 HR.out.2 (HY3.out.below hB4) (HTB.out.below HB4.out); clear HB3 HY3 hB4)
      | (go_at_call 19; refine cT1.mono ?_; clear cT1; rintro e w5 ⟨hB5, v5, rfl, hO5⟩; obtain ⟨g5, cap5, rfl, hy5, -⟩ := hO5.holds (packZ_pos z); have HB5 : Hid (Below W.heap.size W w5) := HB4.out.trans (hB5.mono HB4.out.size); have hback5 := conv_back w5 g5 cap5 (packZ z) hy5; clear HB4 hB5 hO5; have cG3 := goes_ok w5 3 1 (packZ z) (Lib.itoa z) z Lib.itoa hy5.len rfl HG.out.2.2.2.1 (fun V a k hV hW => tr_pack_json V a z k HR.out.1 HR.out.2 hV ((HTB.out.below HB5.out).below hW)); clear hy5; unfold strV at cG3)
      | (go_at_call 18; refine cG3.mono ?_; clear cG3 hback5; rintro e w6 ⟨rfl, hB6⟩; have HB6 : Hid (Below W.heap.size W w6) := HB5.out.trans (hB6.mono HB5.out.size); clear HB5 hB6; obtain ⟨cap6, V6, hcv6, hBv6, hy6⟩ := conv_bytes w6 L0 HBD.out.l0; unfold strV at hcv6; have HB6v : Hid (Below W.heap.size W V6) := HB6.out.trans (hBv6.mono HB6.out.size); have cT2 := tr_json_cbor V6 _ L0 cap6 c (.error (en, pl)) hy6 HBD.out.h0 HBD.out.hc HBD.out.d0 (fun _ h => by cases h) (fun _ _ h => by cases h; exact HBD.out.ne); clear HB6 hBv6 hy6)
      | (go_at_call 19; refine cT2.mono ?_; clear cT2; rintro e w7 ⟨hB7, rfl⟩; have HB7 : Hid (Below W.heap.size W w7) := HB6v.out.trans (hB7.mono HB6v.out.size); clear HB6v hB7 hcv6; obtain ⟨cap7, V7, hcv7, hBv7, hy7⟩ := conv_bytes w7 L5 HBD.out.l5; unfold strV at hcv7; have HB7v : Hid (Below W.heap.size W V7) := HB7.out.trans (hBv7.mono HB7.out.size); have cT3 := tr_json_cbor V7 _ L5 cap7 c (.error (10, ((Lib.itoa z).length : Int))) hy7 HBD.out.h5 HBD.out.hc HBD.out.d5 (fun _ h => by cases h) (fun _ _ h => by cases h; decide); clear HB7 hBv7 hy7)
      | (go_at_call 19; refine cT3.mono ?_; clear cT3; rintro e w8 ⟨hB8, rfl⟩; have HB8 : Hid (Below W.heap.size W w8) := HB7v.out.trans (hB8.mono HB7v.out.size); clear HB7v hB8 hcv7))
    go_ret
    exact ⟨rfl, HB8.out⟩
theorem numbers_any (z : Int) (hn1 : -9223372036854775808 ≤ z) (hn2 : z ≤ 9223372036854775807) (W : World) (ht : NumTabs W) :
    Calls Tryz.prog 7 #[.int .i64 z] W fun e W' => e = .returned (.bool true) ∧ Below W.heap.size W W' := by
  by_cases hz : z < 0
  · exact numbers_neg z hz hn1 hn2 W ht
  · exact numbers_pos z (by omega) hn1 hn2 W ht
end Go.Proofs.YtllcbnfmihfaaaaGreatDoor
