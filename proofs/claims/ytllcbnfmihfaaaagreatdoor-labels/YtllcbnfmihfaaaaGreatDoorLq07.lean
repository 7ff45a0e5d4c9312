import Derived.Deep.RegionHeld3
import Derived.Test.YtllcbnfmihfaaaaGreatDoorLq00
namespace Go.Proofs.YtllcbnfmihfaaaaGreatDoor
open Go.RowKit

/-- May a segment (its kind, its key) be one step (its key, whether it leads into a list)? -/
def tkS (s : Nat × List UInt8) (t : List UInt8 × Bool) : Bool := if s.1 = 0 then true else if s.1 = 1 then false else if s.1 = 2 then t.2 else !t.2 && t.1 == s.2
/-- Up to which steps a segment more can have come. -/
def rcS (s : Nat × List UInt8) (p : List (List UInt8 × Bool)) (f : Nat → Bool) : Nat → Bool
  | 0 => if s.1 = 1 then f 0 else false
  | k + 1 => if s.1 = 1 then (List.range (k + 2)).any f else f k && (match p[k]? with | some t => tkS s t | none => false)
def rch : List (Nat × List UInt8) → List (List UInt8 × Bool) → (Nat → Bool) → Nat → Bool
  | [], _, f => f
  | s :: ss, p, f => rch ss p (rcS s p f)
/-- Can the path be cut as the segments say? -/
def mtch (ss : List (Nat × List UInt8)) (p : List (List UInt8 × Bool)) : Bool := rch ss p (fun k => k == 0) p.length
theorem rch_snoc (s : Nat × List UInt8) (p : List (List UInt8 × Bool)) : ∀ (ss : List (Nat × List UInt8)) (f : Nat → Bool), rch (ss ++ [s]) p f = rcS s p (rch ss p f)
  | [], _ => rfl
  | x :: ss, f => by show rch (ss ++ [s]) p _ = _; rw [rch_snoc s p ss]; rfl
/-- The places of a rule: those ahead of a segment that any number of steps may be. -/
def stay (ss : List (Nat × List UInt8)) (k : Nat) : Bool := match ss[k]? with
  | some s => s.1 == 1
  | none => false
def take1 (ss : List (Nat × List UInt8)) (t : List UInt8 × Bool) (k : Nat) : Bool := match ss[k]? with
  | some s => tkS s t
  | none => false
def wdP (ss : List (Nat × List UInt8)) (P : Nat → Bool) : Nat → Bool
  | 0 => P 0
  | k + 1 => P (k + 1) || (stay ss k && wdP ss P k)
def goP (ss : List (Nat × List UInt8)) (t : List UInt8 × Bool) (P : Nat → Bool) : Nat → Bool
  | 0 => P 0 && stay ss 0
  | k + 1 => (P (k + 1) && stay ss (k + 1)) || (P k && take1 ss t k)
/-- The places of a path. -/
def plc (ss : List (Nat × List UInt8)) : List (List UInt8 × Bool) → Nat → Bool
  | [] => wdP ss (fun k => k == 0)
  | t :: r => wdP ss (goP ss t (plc ss r))
def rF (ss : List (Nat × List UInt8)) (p : List (List UInt8 × Bool)) (k : Nat) : Nat → Bool := rch (ss.take k) p (fun n => n == 0)
theorem rF_zero (ss : List (Nat × List UInt8)) (p : List (List UInt8 × Bool)) (n : Nat) : rF ss p 0 n = (n == 0) := rfl
theorem rF_succ {ss : List (Nat × List UInt8)} {k : Nat} {s : Nat × List UInt8} (h : ss[k]? = some s) (p : List (List UInt8 × Bool)) : rF ss p (k + 1) = rcS s p (rF ss p k) := by
  unfold rF
  rw [List.take_add_one, h]
  exact rch_snoc s p _ _
def gF (ss : List (Nat × List UInt8)) (p : List (List UInt8 × Bool)) (k j : Nat) : Bool := if stay ss k then (List.range (j + 1)).any (rF ss p k) else rF ss p k j
theorem any_succ (f : Nat → Bool) (j : Nat) : (List.range (j + 1)).any f = ((List.range j).any f || f j) := by
  rw [List.range_succ, List.any_append]
  simp
theorem plc_spec (ss : List (Nat × List UInt8)) (p : List (List UInt8 × Bool)) : ∀ (j : Nat), j ≤ p.length → ∀ k, k ≤ ss.length → plc ss (p.take j).reverse k = gF ss p k j
  | 0, _, k, hk => by
    rw [List.take_zero, List.reverse_nil, plc]
    induction k with
    | zero => unfold gF; cases stay ss 0 <;> simp [wdP, rF_zero]
    | succ k ih =>
      have ih := ih (by omega)
      rw [wdP, ih]
      obtain ⟨s, hs⟩ : ∃ s, ss[k]? = some s := ⟨ss[k], List.getElem?_eq_getElem (by omega)⟩
      have e0 : gF ss p k 0 = rF ss p k 0 := by unfold gF; cases stay ss k <;> simp
      have e1 : gF ss p (k + 1) 0 = rF ss p (k + 1) 0 := by unfold gF; cases stay ss (k + 1) <;> simp
      have hst : stay ss k = (s.1 == 1) := by unfold stay; rw [hs]
      rw [e0, e1, rF_succ hs, rcS, hst]
      by_cases h1 : s.1 = 1
      · simp [h1]
      · simp [h1]
  | j + 1, hj, k, hk => by
    obtain ⟨t, ht⟩ : ∃ t, p[j]? = some t := ⟨p[j], List.getElem?_eq_getElem (by omega)⟩
    have er : (p.take (j + 1)).reverse = t :: (p.take j).reverse := by rw [List.take_add_one, ht]; simp
    rw [er, plc]
    have IH := plc_spec ss p j (by omega)
    generalize hP : plc ss (p.take j).reverse = P
    rw [hP] at IH
    induction k with
    | zero =>
      rw [wdP, goP, IH 0 (by omega)]
      unfold gF
      cases hst : stay ss 0 with
      | true =>
        rw [if_pos rfl, if_pos rfl]
        have h0 : rF ss p 0 0 = true := rfl
        have a1 : (List.range (j + 1)).any (rF ss p 0) = true := List.any_eq_true.2 ⟨0, by simp, h0⟩
        have a2 : (List.range (j + 1 + 1)).any (rF ss p 0) = true := List.any_eq_true.2 ⟨0, by simp, h0⟩
        rw [a1, a2]
        rfl
      | false => simp [rF_zero]
    | succ k ih =>
      have ih := ih (by omega)
      obtain ⟨s, hs⟩ : ∃ s, ss[k]? = some s := ⟨ss[k], List.getElem?_eq_getElem (by omega)⟩
      have hst : stay ss k = (s.1 == 1) := by unfold stay; rw [hs]
      have htk : take1 ss t k = tkS s t := by unfold take1; rw [hs]
      rw [wdP, goP, ih, IH (k + 1) hk, IH k (by omega)]
      have key : ((gF ss p k j && take1 ss t k) || (stay ss k && gF ss p k (j + 1))) = rF ss p (k + 1) (j + 1) := by
        rw [rF_succ hs, rcS, ht]
        by_cases h1 : s.1 = 1
        · have e : gF ss p k (j + 1) = (List.range (j + 1 + 1)).any (rF ss p k) := by unfold gF; rw [hst]; simp [h1]
          have ez : tkS s t = false := by unfold tkS; simp [h1]
          rw [htk, ez, hst, e]
          simp [h1]
        · have e : gF ss p k j = rF ss p k j := by unfold gF; rw [hst]; simp [h1]
          rw [htk, hst, e]
          simp [h1]
      have e2 : ((gF ss p (k + 1) j && stay ss (k + 1)) || rF ss p (k + 1) (j + 1)) = gF ss p (k + 1) (j + 1) := by
        unfold gF
        cases stay ss (k + 1) with
        | true => rw [if_pos rfl, if_pos rfl, Bool.and_true, ← any_succ]
        | false => simp
      rw [Bool.or_assoc, key, e2]
theorem plc_mtch (ss : List (Nat × List UInt8)) (p : List (List UInt8 × Bool)) : plc ss p.reverse ss.length = mtch ss p := by
  have h := plc_spec ss p p.length (Nat.le_refl _) ss.length (Nat.le_refl _)
  rw [List.take_length] at h
  rw [h]
  unfold gF
  have e : stay ss ss.length = false := by unfold stay; rw [List.getElem?_eq_none (Nat.le_refl _)]
  rw [e, if_neg (by simp)]
  unfold rF mtch
  rw [List.take_length]
end Go.Proofs.YtllcbnfmihfaaaaGreatDoor
namespace Go.Proofs.YtllcbnfmihfaaaaGreatDoor
open Go.RowKit

/-- A set of places: sixteen numbers. -/
def plA (P : Nat → Nat) : Array Value := ((List.range 16).map fun i => Value.int .u16 (P i)).toArray
theorem plA_size (P : Nat → Nat) : (plA P).size = 16 := by simp [plA]
theorem plA_at (P : Nat → Nat) (r : Nat) (hr : r < 16) : (plA P)[r]? = some (.int .u16 (P r)) := by simp [plA, hr]
theorem of16 (a : Nat) : BitVec.ofInt 16 (a : Int) = BitVec.ofNat 16 a := BitVec.ofInt_natCast ..
theorem and16 (a b : Nat) (ha : a < 65536) (hb : b < 65536) : bits .and .u16 (a : Int) (b : Int) = ((a &&& b : Nat) : Int) := by
  have h : (BitVec.ofNat 16 a &&& BitVec.ofNat 16 b).toNat = a &&& b := by
    rw [BitVec.toNat_and, BitVec.toNat_ofNat, BitVec.toNat_ofNat, Nat.mod_eq_of_lt (by omega), Nat.mod_eq_of_lt (by omega)]
  show IntKind.u16.wrap ((BitVec.ofInt 16 (a : Int) &&& BitVec.ofInt 16 (b : Int)).toNat : Int) = _
  have hl : a &&& b < 2 ^ 16 := Nat.and_lt_two_pow _ (by omega)
  rw [of16, of16, h]
  unfold IntKind.wrap
  simp [IntKind.bits, IntKind.signed]
  omega
theorem or16 (a b : Nat) (ha : a < 65536) (hb : b < 65536) : bits .or .u16 (a : Int) (b : Int) = ((a ||| b : Nat) : Int) := by
  have h : (BitVec.ofNat 16 a ||| BitVec.ofNat 16 b).toNat = a ||| b := by
    rw [BitVec.toNat_or, BitVec.toNat_ofNat, BitVec.toNat_ofNat, Nat.mod_eq_of_lt (by omega), Nat.mod_eq_of_lt (by omega)]
  show IntKind.u16.wrap ((BitVec.ofInt 16 (a : Int) ||| BitVec.ofInt 16 (b : Int)).toNat : Int) = _
  have hl : a ||| b < 2 ^ 16 := Nat.or_lt_two_pow (by omega) (by omega)
  rw [of16, of16, h]
  unfold IntKind.wrap
  simp [IntKind.bits, IntKind.signed]
  omega
theorem w16 (x : Nat) (h : x < 65536) : IntKind.u16.wrap (x : Int) = (x : Int) := by
  unfold IntKind.wrap
  simp [IntKind.bits, IntKind.signed]
  omega
theorem has16 (x k : Nat) (hx : x < 65536) : (bits .and .u16 ((x : Int) / 2 ^ k) 1 == 1) = x.testBit k := by
  have e : ((x : Int) / 2 ^ k) = ((x / 2 ^ k : Nat) : Int) := by simp
  have hl : x / 2 ^ k < 65536 := Nat.lt_of_le_of_lt (Nat.div_le_self _ _) hx
  have := and16 (x / 2 ^ k) 1 hl (by omega)
  rw [e, show (1 : Int) = ((1 : Nat) : Int) from rfl, this, Nat.testBit, Nat.shiftRight_eq_div_pow, Nat.and_comm 1]
  cases h : (x / 2 ^ k &&& 1 != 0)
  · simp at h
    simp [h]
  · have h2 : x / 2 ^ k &&& 1 = 1 := by
      rw [Nat.and_one_is_mod] at h ⊢
      simp at h
      omega
    rw [h2]
    rfl
set_option maxRecDepth 100000 in
set_option maxHeartbeats 1000000 in
theorem plHas (W : World) (P : Nat → Nat) (r k : Nat) (hr : r < 16) (hk : k < 16) (hP : P r < 65536) :
    Calls Tryz.prog 188 #[.agg (plA P), .int .i64 r, .int .i64 k] W fun e W' => e = .returned (.bool ((P r).testBit k)) ∧ Below W.heap.size W W' := by
  have hat := plA_at P r hr
  have hb := has16 (P r) k hP
  go_enter Tryz.func188, Tryz.ntmps188
  go_wp2
  go_ret
  exact ⟨rfl, (Below.refl _ _).alloc (Nat.le_refl _) _⟩
/-- One place more. -/
def plAdd (P : Nat → Nat) (r k : Nat) : Nat → Nat := fun i => if i = r then P i ||| 2 ^ k else P i
theorem plA_set (P : Nat → Nat) (r : Nat) (x : Nat) : (plA P).setIfInBounds r (.int .u16 x) = plA (fun i => if i = r then x else P i) := by
  apply Array.ext
  · simp [plA]
  · intro i h1 h2
    simp [plA] at h1
    rw [Array.getElem_setIfInBounds (by simp [plA]; exact h1)]
    by_cases h : r = i
    · subst h
      simp [plA]
    · have h' : ¬ i = r := fun e => h e.symm
      simp [plA, h, h']
/-- The one operation that may come up. -/
theorem rdA {P : Program} {ops : Array Oper} {Q : Exit → Act → World → Prop} {md : Region.Mode} {fuel : Nat} {listed : Array Bool} {a : Act} {w : World} {o : Oper} (i : Nat) (hi : ops[i]? = some o) (hr : Region.ready md ops listed = [i]) (h : (∀ K' : Act → World → Prop, (∀ a w, wpAny P md ops Q fuel (listed.setIfInBounds i true) a w → K' a w) → if Region.wanted o (yielded ops a.tmps) = true then Oper.wp P o a w K' Q else K' (a.put o.dst undef) w)) : wpAny P md ops Q (fuel + 1) listed a w := wpAny_ready hr (by simp) (AllReady.cons hi h AllReady.nil)
/-- An operation that is taken first, its slot written out. -/
theorem tkA {P : Program} {ops : Array Oper} {Q : Exit → Act → World → Prop} {md : Region.Mode} {fuel : Nat} {listed : Array Bool} {a : Act} {w : World} {oi : Oper} (i dst : Nat) (v : Value) (hi : ops[i]? = some oi) (hk : (Region.noSelect ops && Region.free md ops listed i && (Region.ready md ops listed).contains i && oi.dst == some dst && Region.wanted oi (yielded ops a.tmps)) = true)
    (hQ : ∀ c a w, Q (.panic c) (a.put (some dst) v) w → Q (.panic c) a w) (hy : ∀ Z, (execOp a.eval oi).run P Z = .ok (.value v) Z)
    (h : wpAny P md ops Q fuel (listed.setIfInBounds i true) (a.put (some dst) v) w) : wpAny P md ops Q (fuel + 1) listed a w := by
  simp only [Bool.and_eq_true] at hk
  have hd : oi.dst = some dst := by simpa using hk.1.2
  rw [← hd] at hQ h
  exact wpAny_take hi hk.1.1.1.1 hk.1.1.1.2 hk.1.1.2 hQ (.inl ⟨hk.2, hy⟩) h
set_option maxRecDepth 100000 in
set_option maxHeartbeats 1000000 in
theorem plAdd_any (W : World) (g o : Nat) (x r k : Nat) (hr : r < 16) (hk : k < 16) (hP : x < 65536) (hg : W.cell? ⟨g, o + r, none⟩ = some (.int .u16 x)) (hf : W.frozen? ⟨g, o + r, none⟩ = false) :
    Calls Tryz.prog 137 #[.pointer (some ⟨g, o, none⟩), .int .i64 r, .int .i64 k] W fun e W' => e = .returned (.tuple #[]) ∧ W' = W.drew.setCell ⟨g, o + r, none⟩ (.int .u16 ((x ||| 2 ^ k : Nat) : Int)) := by
  have hri : (r : Int) < 16 := by omega
  have h2k : (2 ^ k : Nat) < 65536 := by
    have : (2 ^ k : Nat) ≤ 2 ^ 15 := Nat.pow_le_pow_right (by decide) (by omega)
    omega
  have hw : IntKind.u16.wrap (2 ^ k) = 2 ^ k := by
    have := w16 (2 ^ k) h2k
    simpa using this
  have ho : bits .or .u16 (x : Int) (2 ^ k) = ((x ||| 2 ^ k : Nat) : Int) := by
    have := or16 x (2 ^ k) hP h2k
    rwa [show (((2 ^ k : Nat) : Int)) = 2 ^ k by simp] at this
  go_enter Tryz.func137, Tryz.ntmps137
  go_wp2
  refine wp_region_any (by kernel_rfl) ?_
  change wpAny _ _ _ _ _ _ _ (World.drew W)
  refine tkA 0 6 (.pointer (some ⟨g, o, none⟩)) rfl (by kernel_rfl) (fun _ _ _ h => h) (fun _ => by kernel_rfl) ?_
  refine tkA 1 7 (.int .i64 r) rfl (by kernel_rfl) (fun _ _ _ h => h) (fun _ => by kernel_rfl) ?_
  refine tkA 2 8 (.pointer (some ⟨g, o, none⟩)) rfl (by kernel_rfl) (fun _ _ _ h => h) (fun _ => by kernel_rfl) ?_
  refine tkA 3 9 (.pointer (some ⟨g, o + r, none⟩)) rfl (by kernel_rfl) (fun _ _ _ h => h) (fun _ => ?y3) ?_
  case y3 => go_simp
  refine tkA 5 11 (.int .i64 k) rfl (by kernel_rfl) (fun _ _ _ h => h) (fun _ => by kernel_rfl) ?_
  refine tkA 6 12 (.int .u16 ((2 ^ k : Nat) : Int)) rfl (by kernel_rfl) (fun _ _ _ h => h) (fun _ => ?y6) ?_
  case y6 => go_simp
  refine tkA 8 14 (.pointer (some ⟨g, o, none⟩)) rfl (by kernel_rfl) (fun _ _ _ h => h) (fun _ => by kernel_rfl) ?_
  refine rdA 4 rfl (by kernel_rfl) (fun K hK => ?_)
  go_simp
  refine hK _ _ ?_
  refine tkA 7 13 (.int .u16 ((x ||| 2 ^ k : Nat) : Int)) rfl (by kernel_rfl) (fun _ _ _ h => h) (fun _ => ?y7) ?_
  case y7 => go_simp
  refine tkA 9 15 (.pointer (some ⟨g, o + r, none⟩)) rfl (by kernel_rfl) (fun _ _ _ h => h) (fun _ => ?y9) ?_
  case y9 => go_simp
  refine rdA 10 rfl (by kernel_rfl) (fun K hK => ?_)
  go_simp
  refine hK _ _ ?_
  refine wpAny_done (by kernel_rfl) ?_ _
  go_simp
  go_wp2
  go_end0
  exact ⟨rfl, rfl⟩
end Go.Proofs.YtllcbnfmihfaaaaGreatDoor
