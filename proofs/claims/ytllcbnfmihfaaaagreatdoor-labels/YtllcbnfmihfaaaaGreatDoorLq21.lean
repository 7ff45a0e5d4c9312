import Derived.Test.YtllcbnfmihfaaaaGreatDoorShelf
import Derived.Laws.Runes
import Derived.Laws.RangeAny
import Derived.Deep.RegionHeld3
import Derived.Test.YtllcbnfmihfaaaaGreatDoorLq00
namespace Go.Proofs.YtllcbnfmihfaaaaGreatDoor
open Go.RowKit Go.Shelf

theorem then_ret {K : Act → World → Prop} {Q : Exit → Act → World → Prop} {a : Act} {w : World} (h : Q .ret a w) : Exit.then K Q .ret a w := h
theorem inBlock_ret {n : Nat} {Q : Exit → Act → World → Prop} {a : Act} {w : World} (h : Q .ret a w) : Exit.inBlock n Q .ret a w := h
theorem noGoto_ret {Q : Exit → Act → World → Prop} {a : Act} {w : World} (h : Q .ret a w) : Exit.noGoto Q .ret a w := h

set_option maxRecDepth 100000 in
set_option maxHeartbeats 2000000 in
theorem indexRune_err (s : ByteArray) (hsz : s.size = 5) (hA : ∀ i (h : i < s.size), (s[i]'h).toNat < 128) (w : World) :
    Calls Tryz.prog 252 #[.string s, .int .i32 65533] w fun e w' => e = .returned (.int .i64 (-1)) ∧ Below w.heap.size w w' := by
  have HA : Hid (∀ i (h : i < s.size), (s[i]'h).toNat < 128) := hA
  clear hA
  go_enter Tryz.func252, Tryz.ntmps252
  go_wp2
  go_loopg [5, 6] 5 (fun g _ _ wx => ∃ i : Nat, i + g = 5 ∧ wx = w.iter s i)
  case atStart => exact ⟨0, by omega, rfl⟩
  case round =>
    obtain ⟨i, hig, rfl⟩ := hrel
    cases gk with
    | zero =>
      obtain rfl : i = 5 := by omega
      have hnx := fun ty => run_next_end (P := Tryz.prog) w s 5 ty (by omega)
      go_wp2
      go_ret
      exact ⟨rfl, (Below.refl _ _).alloc (Nat.le_refl _) _⟩
    | succ g =>
      have hi : i < s.size := by omega
      have h1 := HA.out i (by omega)
      have hnx := fun ty => run_next_ascii (P := Tryz.prog) w s i ty hi h1
      have h2 : ¬ ((s[i]'hi).toNat : Int) = 65533 := by omega
      go_wp2
      go_roundg g
      case measure => omega
      case rel => exact ⟨i + 1, by omega, rfl⟩

set_option maxRecDepth 100000 in
set_option maxHeartbeats 2000000 in
theorem indexRune_not (s : ByteArray) (r : Int) (h128 : 128 ≤ r) (hne : ¬ r = 65533) (hv : Lib.validRune r = false) (w : World) :
    Calls Tryz.prog 252 #[.string s, .int .i32 r] w fun e w' => e = .returned (.int .i64 (-1)) ∧ Below w.heap.size w w' := by
  go_enter Tryz.func252, Tryz.ntmps252
  go_wp2_with (first | (go_at_call 267; refine (Tryz.utf8_ValidRune _ _).mono ?_; rintro e w2 ⟨rfl, rfl⟩; rw [hv]))
  go_ret
  exact ⟨rfl, Below.refl _ _⟩

set_option maxRecDepth 100000 in
set_option maxHeartbeats 2000000 in
theorem indexRune_high (s : ByteArray) (hsz : s.size = 5) (hA : ∀ i (h : i < s.size), (s[i]'h).toNat < 128) (r : Int) (h128 : 128 ≤ r) (hne : ¬ r = 65533) (hv : Lib.validRune r = true)
    (rs : ByteArray) (k : Nat) (hrs : Utf8.encode r = rs) (hk : rs.size = k + 1) (h1 : 1 ≤ k) (h3 : k ≤ 3) (hb : 128 ≤ (rs[k]'(by omega)).toNat) (w : World) :
    Calls Tryz.prog 252 #[.string s, .int .i32 r] w fun e w' => e = .returned (.int .i64 (-1)) ∧ Below w.heap.size w w' := by
  have hks : k < s.size := by omega
  have hkr : k < rs.size := by omega
  have hx := hA k hks
  have hn : ¬ ((s[k]'hks).toNat : Int) = ((rs[k]'hkr).toNat : Int) := by omega
  have HI : Hid (Lib.indexByte (s.extract (k + 1) s.size).data.toList (rs[k]'hkr) = -1) := by
    show _ = _
    rw [← Lib.firstIdx_eq]
    refine firstIdx_ascii s (k + 1) s.size _ (fun b hbm => ?_) hb
    obtain ⟨i, hi, rfl⟩ := List.getElem_of_mem hbm
    have hi' : i < s.size := by rw [Array.length_toList] at hi; exact hi
    exact hA i hi'
  have hback : (((rs[k]'hkr).toNat : Int)).toNat.toUInt8 = rs[k]'hkr := by simp
  clear hA
  obtain rfl | rfl | rfl : k = 1 ∨ k = 2 ∨ k = 3 := by omega
  all_goals
    rw [hsz] at HI
    go_enter Tryz.func252, Tryz.ntmps252
    go_wp2_with (first | (go_at_call 267; refine (Tryz.utf8_ValidRune _ _).mono ?_; rintro e w2 ⟨rfl, rfl⟩; rw [hv]))
    go_step3
    go_wp2
  · have hlt : Lib.indexByte (List.take 3 (List.drop 2 s.data.toList)) (rs[1]'hkr) < 0 := by
      have h := HI.out
      rw [ByteArray.data_extract, Array.toList_extract, List.extract_eq_take_drop] at h
      have h2 : Lib.indexByte (List.take 3 (List.drop 2 s.data.toList)) (rs[1]'hkr) = -1 := h
      omega
    go_loopg [9, 10, 11, 12] 1 (fun g a b c d wx => a = .int .i64 1 ∧ wx = w2)
    case atStart => exact ⟨rfl, rfl⟩
    case round =>
      obtain ⟨rfl, rfl⟩ := hrel
      go_wp2
      go_step3
      go_wp2
      go_region
      go_wp2
      go_region_with (first | (go_at_call 266; refine (Tryz.strings_IndexByte _ _ _).mono ?_; rintro e w' ⟨rfl, hw⟩; rw [hw, hback]))
      go_wp2
      all_goals repeat (first | refine then_ret ?_ | refine inBlock_ret ?_ | refine noGoto_ret ?_)
      all_goals go_ret
      all_goals exact ⟨rfl, (Below.refl _ _).drew.drew⟩
  · have hlt : Lib.indexByte (List.take 2 (List.drop 3 s.data.toList)) (rs[2]'hkr) < 0 := by
      have h := HI.out
      rw [ByteArray.data_extract, Array.toList_extract, List.extract_eq_take_drop] at h
      have h2 : Lib.indexByte (List.take 2 (List.drop 3 s.data.toList)) (rs[2]'hkr) = -1 := h
      omega
    go_loopg [9, 10, 11, 12] 1 (fun g a b c d wx => a = .int .i64 2 ∧ wx = w2)
    case atStart => exact ⟨rfl, rfl⟩
    case round =>
      obtain ⟨rfl, rfl⟩ := hrel
      go_wp2
      go_step3
      go_wp2
      go_region
      go_wp2
      go_region_with (first | (go_at_call 266; refine (Tryz.strings_IndexByte _ _ _).mono ?_; rintro e w' ⟨rfl, hw⟩; rw [hw, hback]))
      go_wp2
      all_goals repeat (first | refine then_ret ?_ | refine inBlock_ret ?_ | refine noGoto_ret ?_)
      all_goals go_ret
      all_goals exact ⟨rfl, (Below.refl _ _).drew.drew⟩
  · have hlt : Lib.indexByte (List.take 1 (List.drop 4 s.data.toList)) (rs[3]'hkr) < 0 := by
      have h := HI.out
      rw [ByteArray.data_extract, Array.toList_extract, List.extract_eq_take_drop] at h
      have h2 : Lib.indexByte (List.take 1 (List.drop 4 s.data.toList)) (rs[3]'hkr) = -1 := h
      omega
    go_loopg [9, 10, 11, 12] 1 (fun g a b c d wx => a = .int .i64 3 ∧ wx = w2)
    case atStart => exact ⟨rfl, rfl⟩
    case round =>
      obtain ⟨rfl, rfl⟩ := hrel
      go_wp2
      go_step3
      go_wp2
      go_region
      go_wp2
      go_region_with (first | (go_at_call 266; refine (Tryz.strings_IndexByte _ _ _).mono ?_; rintro e w' ⟨rfl, hw⟩; rw [hw, hback]))
      go_wp2
      all_goals repeat (first | refine then_ret ?_ | refine inBlock_ret ?_ | refine noGoto_ret ?_)
      all_goals go_ret
      all_goals exact ⟨rfl, (Below.refl _ _).drew.drew⟩

/-- The signs that no literal has. -/
def sgnB (r : Int) : Bool := r == 42 || (r == 91 || (r == 93 || (r == 47 || r == 46)))
theorem sgn_ascii : ∀ k : Nat, k < 128 → decide (0 ≤ Lib.indexByte [42, 91, 93, 47, 46] k.toUInt8) = sgnB (k : Int) := by decide
theorem sgn_all : ∀ i (h : i < (⟨#[42, 91, 93, 47, 46]⟩ : ByteArray).size), ((⟨#[42, 91, 93, 47, 46]⟩ : ByteArray)[i]'h).toNat < 128 := by decide
theorem containsRune_any (r : Int) (h0 : 0 ≤ r) (w : World) :
    Calls Tryz.prog 237 #[.string ⟨#[42, 91, 93, 47, 46]⟩, .int .i32 r] w fun e w' => e = .returned (.bool (sgnB r)) ∧ Below w.heap.size w w' := by
  by_cases h : r < 128
  · refine (Tryz.strings_ContainsRune_ascii _ r w h0 h).mono ?_
    rintro e w' ⟨rfl, rfl⟩
    refine ⟨?_, Below.refl _ _⟩
    have := sgn_ascii r.toNat (by omega)
    rw [Int.toNat_of_nonneg h0] at this
    rw [← this]
  · have hs : sgnB r = false := by
      unfold sgnB
      simp only [Bool.or_eq_false_iff, beq_eq_false_iff_ne]
      omega
    have cI : Calls Tryz.prog 252 #[.string ⟨#[42, 91, 93, 47, 46]⟩, .int .i32 r] w fun e w' => e = .returned (.int .i64 (-1)) ∧ Below w.heap.size w w' := by
      by_cases hne : r = 65533
      · subst hne
        exact indexRune_err _ rfl sgn_all w
      · cases hv : Lib.validRune r
        · exact indexRune_not _ r (by omega) hne hv w
        · obtain ⟨h2, h4, hl⟩ := encode_facts r (by rw [validRune_eq]; exact hv) (by omega)
          exact indexRune_high _ rfl sgn_all r (by omega) hne hv _ ((Utf8.encode r).size - 1) rfl (by omega) (by omega) (by omega) (hl (by omega)) w
    rw [hs]
    clear hs h
    generalize (⟨#[42, 91, 93, 47, 46]⟩ : ByteArray) = s at *
    go_enter Tryz.func237, Tryz.ntmps237
    go_wp2_with (first | (go_at_call 252; refine cI.mono ?_; rintro e w2 ⟨rfl, hB⟩))
    go_ret
    exact ⟨rfl, hB⟩
end Go.Proofs.YtllcbnfmihfaaaaGreatDoor
