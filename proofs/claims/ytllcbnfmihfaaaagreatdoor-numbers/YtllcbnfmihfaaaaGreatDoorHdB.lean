import Derived.Test.YtllcbnfmihfaaaaGreatDoorBinB
namespace Go.Proofs.YtllcbnfmihfaaaaGreatDoor
open Go.RowKit

/-- What the upper bits of a first byte of CBOR tell. -/
def cbUp (u : Nat) : Nat := if u = 0 then 4 else if u = 1 then 6 else if u = 2 then 7 else if u = 3 then 8 else if u = 4 then 9 else if u = 5 then 10 else 0
/-- The head of a first byte in CBOR: its sort, its width, its argument. -/
def cbHd (c : Nat) : Nat × Nat × Nat :=
  if c = 244 then (2, 0, 0) else if c = 245 then (3, 0, 0) else if c = 246 then (1, 0, 0) else
  if cbUp (c / 32) = 0 ∨ 27 < c % 32 then (0, 0, 0) else if 24 ≤ c % 32 then (cbUp (c / 32), 2 ^ (c % 32 - 24), 0) else (cbUp (c / 32), 0, c % 32)
/-- The rows of the table of MessagePack: sort and width. -/
def pkTab : List (Nat × Nat) := [(1, 0), (0, 0), (2, 0), (3, 0), (7, 1), (7, 2), (7, 4), (0, 0), (0, 0), (0, 0), (0, 0), (0, 0), (4, 1), (4, 2), (4, 4), (4, 8), (5, 1), (5, 2), (5, 4), (5, 8), (0, 0), (0, 0), (0, 0), (0, 0), (0, 0), (8, 1), (8, 2), (8, 4), (9, 2), (9, 4), (10, 2), (10, 4)]
/-- The head of a first byte in MessagePack. -/
def pkHd (c : Nat) : Nat × Nat × Nat :=
  if c < 128 then (4, 0, c) else if c < 144 then (10, 0, c - 128) else if c < 160 then (9, 0, c - 144) else if c < 192 then (8, 0, c - 160) else
  if c < 224 then ((pkTab.getD (c - 192) (0, 0)).1, (pkTab.getD (c - 192) (0, 0)).2, 0) else (5, 0, 18446744073709551360 + c)
/-- The two tables of heads, as they are laid. -/
structure HdTab (W : World) : Prop where
  cb : ∀ u, u < 8 → W.cell? ⟨0, u, none⟩ = some (.int .i64 (cbUp u))
  pk : ∀ u, u < 32 → W.cell? ⟨1, u * 3, none⟩ = some (.int .i64 (pkTab.getD u (0, 0)).1) ∧ W.cell? ⟨1, u * 3 + 1, none⟩ = some (.int .i64 (pkTab.getD u (0, 0)).2) ∧ W.cell? ⟨1, u * 3 + 2, none⟩ = some (.int .u64 0)
def hdA (x : Nat × Nat × Nat) : Array Value := #[.int .i64 x.1, .int .i64 x.2.1, .int .u64 x.2.2]
theorem infoHd : (Tryz.prog.info? 273).map (·.size) = some 3 := by kernel_rfl
theorem hd_ret (W : World) (cs : Array Value) (hc : cs.size = 3) (tmps : Array Value) (hp : tmps.getD 2 undef = .pointer (some ⟨W.heap.size, 0, none⟩)) {fn : Func} (h : fn.results = #[.cell 2 273]) :
    (results fn tmps).run Tryz.prog (W.alloc (.cells cs 273)) = .ok (.agg cs) (W.alloc (.cells cs 273)) :=
  results_cell_row h tmps _ W.heap.size 273 cs (0, 0) _ hp (heap_new _ _) Tryz.underlying273 rfl (by rw [hc]; exact infoHd)

theorem bits_and31 (x : Nat) (hx : x < 256) : bits .and .u8 (x : Int) 31 = ((x % 32 : Nat) : Int) := by
  have e1 : BitVec.ofInt 8 (x : Int) = BitVec.ofNat 8 x := BitVec.ofInt_natCast ..
  have e3 : (BitVec.ofNat 8 x &&& BitVec.ofInt 8 31).toNat = x % 32 := by
    rw [BitVec.toNat_and, BitVec.toNat_ofNat, Nat.mod_eq_of_lt (by omega)]
    exact Nat.and_two_pow_sub_one_eq_mod x 5
  show IntKind.u8.wrap ((BitVec.ofInt 8 (x : Int) &&& BitVec.ofInt 8 31).toNat : Int) = _
  rw [e1, e3]
  unfold IntKind.wrap
  simp [IntKind.bits, IntKind.signed]
  omega
theorem cb_or {u x : Nat} (h0 : ¬ u = 0) (h1 : ((u : Int) == 0) = true ∨ (27 : Int) < (x : Int) % 32) : 27 < x % 32 := by
  rcases h1 with h1 | h1
  · exact absurd (by simpa using h1) h0
  · omega
theorem hd_below (W : World) (cs : Array Value) : Below W.heap.size W (W.alloc (.cells cs 273)) := (Below.refl _ _).alloc (Nat.le_refl _) _

set_option maxRecDepth 100000 in
set_option maxHeartbeats 2000000 in
theorem cborHead_any (W : World) (x : Nat) (hx : x < 256) (h : HdTab W) :
    Calls Tryz.prog 107 #[.int .u8 x] W fun e W' => e = .returned (.agg (hdA (cbHd x))) ∧ Below W.heap.size W W' := by
  by_cases c0 : x = 244
  · subst c0
    clear h hx
    go_enter Tryz.func107, Tryz.ntmps107
    go_wp2
    exact bodyPost_ret (hd_ret W _ rfl _ rfl Tryz.results107) rfl ⟨rfl, hd_below _ _⟩
  by_cases c1 : x = 245
  · subst c1
    clear h hx c0
    go_enter Tryz.func107, Tryz.ntmps107
    go_wp2
    exact bodyPost_ret (hd_ret W _ rfl _ rfl Tryz.results107) rfl ⟨rfl, hd_below _ _⟩
  by_cases c2 : x = 246
  · subst c2
    clear h hx c0 c1
    go_enter Tryz.func107, Tryz.ntmps107
    go_wp2
    exact bodyPost_ret (hd_ret W _ rfl _ rfl Tryz.results107) rfl ⟨rfl, hd_below _ _⟩
  have b0 : ((x : Int) == 244) = false := by simp; omega
  have b1 : ((x : Int) == 245) = false := by simp; omega
  have b2 : ((x : Int) == 246) = false := by simp; omega
  have ha := bits_and31 x hx
  have hq : x / 32 < 8 := by omega
  have hcell := h.cb (x / 32) hq
  have hk : (W.alloc (.cells #[.int .i64 0, .int .i64 0, .int .u64 0] 273)).cell? ⟨0, x / 32, none⟩ = some (.int .i64 (cbUp (x / 32))) := (World.cell?_alloc_some W _ _ (by rw [hcell]; rfl)).trans hcell
  have HC : Hid (cbHd x = if cbUp (x / 32) = 0 ∨ 27 < x % 32 then (0, 0, 0) else if 24 ≤ x % 32 then (cbUp (x / 32), 2 ^ (x % 32 - 24), 0) else (cbUp (x / 32), 0, x % 32)) := by
    show _ = _
    unfold cbHd
    rw [if_neg c0, if_neg c1, if_neg c2]
  clear h hcell c0 c1 c2
  go_enter Tryz.func107, Tryz.ntmps107
  go_wp2
  all_goals refine bodyPost_ret (hd_ret W _ rfl _ rfl Tryz.results107) rfl ⟨?_, hd_below _ _⟩
  all_goals rw [HC.out]
  · rename_i h0
    rw [if_pos (.inl h0)]
    rfl
  · rename_i h0 h1
    rw [if_pos (.inr (cb_or h0 h1))]
    rfl
  · rename_i h0 h1 h2
    rw [if_neg (by have := h1.2; omega), if_pos (by omega)]
    have e : wrap64 (2 ^ (x % 32 - 24)) = ((2 ^ (x % 32 - 24) : Nat) : Int) := by
      have h3 : x % 32 - 24 = 0 ∨ x % 32 - 24 = 1 ∨ x % 32 - 24 = 2 ∨ x % 32 - 24 = 3 := by have := h1.2; omega
      rcases h3 with h3 | h3 | h3 | h3 <;> rw [h3] <;> simp [wrap64]
    rw [e]
    rfl
  · rename_i h0 h1 h2
    rw [if_neg (by have := h1.2; omega), if_neg (by omega)]
    unfold hdA
    simp

theorem i8_u64 (x : Nat) (h : 224 ≤ x) (hx : x < 256) : IntKind.u64.wrap (IntKind.i8.wrap (x : Int)) = ((18446744073709551360 + x : Nat) : Int) := by
  have e : IntKind.i8.wrap (x : Int) = (x : Int) - 256 := by
    unfold IntKind.wrap
    simp only [IntKind.bits, IntKind.signed, Bool.true_and]
    split <;> rename_i h <;> simp at h <;> omega
  rw [e]
  unfold IntKind.wrap
  simp only [IntKind.bits, IntKind.signed, Bool.false_and]
  rw [if_neg (by decide)]
  omega

set_option maxRecDepth 100000 in
set_option maxHeartbeats 2000000 in
theorem packHead_any (W : World) (x : Nat) (hx : x < 256) (h : HdTab W) :
    Calls Tryz.prog 108 #[.int .u8 x] W fun e W' => e = .returned (.agg (hdA (pkHd x))) ∧ Below W.heap.size W W' := by
  by_cases c0 : x < 128
  · have HC : Hid (pkHd x = (4, 0, x)) := by show _ = _; unfold pkHd; rw [if_pos c0]
    have d0 : decide ((x : Int) < 128) = true := by simp; omega
    have hxi : IntKind.u64.wrap (x : Int) = x := by unfold IntKind.wrap; simp [IntKind.bits, IntKind.signed]; omega
    clear h c0 hx
    go_enter Tryz.func108, Tryz.ntmps108
    go_wp2
    refine bodyPost_ret (hd_ret W _ rfl _ rfl Tryz.results108) rfl ⟨?_, hd_below _ _⟩
    rw [HC.out]
    rfl
  by_cases c1 : 192 ≤ x ∧ x < 224
  · have HC : Hid (pkHd x = ((pkTab.getD (x - 192) (0, 0)).1, (pkTab.getD (x - 192) (0, 0)).2, 0)) := by
      show _ = _
      unfold pkHd
      rw [if_neg (by omega), if_neg (by omega), if_neg (by omega), if_neg (by omega), if_pos (by omega)]
    obtain ⟨p0, p1, p2⟩ := h.pk (x - 192) (by omega)
    obtain ⟨u, hu⟩ : ∃ u : Nat, x = 192 + u := ⟨x - 192, by omega⟩
    subst hu
    have e0 : 192 + u - 192 = u := by omega
    rw [e0] at p0 p1 p2
    have k0 : (W.alloc (.cells #[.int .i64 0, .int .i64 0, .int .u64 0] 273)).cell? ⟨1, u * 3, none⟩ = _ := (World.cell?_alloc_some W _ _ (by rw [p0]; rfl)).trans p0
    have k1 : (W.alloc (.cells #[.int .i64 0, .int .i64 0, .int .u64 0] 273)).cell? ⟨1, u * 3 + 1, none⟩ = _ := (World.cell?_alloc_some W _ _ (by rw [p1]; rfl)).trans p1
    have k2 : (W.alloc (.cells #[.int .i64 0, .int .i64 0, .int .u64 0] 273)).cell? ⟨1, u * 3 + 2, none⟩ = _ := (World.cell?_alloc_some W _ _ (by rw [p2]; rfl)).trans p2
    have hul : u < 32 := by omega
    clear h p0 p1 p2 hx c0 c1
    go_enter Tryz.func108, Tryz.ntmps108
    go_wp2
    all_goals refine bodyPost_ret (hd_ret W _ rfl _ rfl Tryz.results108) rfl ⟨?_, hd_below _ _⟩
    all_goals rw [HC.out, e0]
    all_goals rfl
  by_cases c2 : x < 192
  · obtain ⟨R, HC⟩ : ∃ R, Hid (pkHd x = R) := ⟨_, show _ = _ from rfl⟩
    rw [HC.out]
    have hr := HC.out
    unfold pkHd at hr
    rw [if_neg c0] at hr
    have HX : Hid (128 ≤ x ∧ x < 192) := ⟨by omega, c2⟩
    have d0 : decide ((x : Int) < 128) = false := by simp; omega
    by_cases c3 : x < 144
    · rw [if_pos c3] at hr
      have d1 : decide ((x : Int) < 144) = true := by simp; omega
      have HR : Hid (R = (10, 0, x - 128)) := hr.symm
      clear hr HC h hx c0 c1 c2 c3
      go_enter Tryz.func108, Tryz.ntmps108
      go_wp2
      refine bodyPost_ret (hd_ret W _ rfl _ rfl Tryz.results108) rfl ⟨?_, hd_below _ _⟩
      rw [HR.out, show ((x : Int) - 128) % 256 = ((x - 128 : Nat) : Int) by have := HX.out.1; have := HX.out.2; omega]
      rfl
    rw [if_neg c3] at hr
    have d1 : decide ((x : Int) < 144) = false := by simp; omega
    by_cases c4 : x < 160
    · rw [if_pos c4] at hr
      have d2 : decide ((x : Int) < 160) = true := by simp; omega
      have HR : Hid (R = (9, 0, x - 144)) := hr.symm
      have HX2 : Hid (144 ≤ x) := by show _ ≤ _; omega
      clear hr HC h hx c0 c1 c2 c3 c4
      go_enter Tryz.func108, Tryz.ntmps108
      go_wp2
      refine bodyPost_ret (hd_ret W _ rfl _ rfl Tryz.results108) rfl ⟨?_, hd_below _ _⟩
      rw [HR.out, show ((x : Int) - 144) % 256 = ((x - 144 : Nat) : Int) by have := HX2.out; have := HX.out.2; omega]
      rfl
    rw [if_neg c4, if_pos c2] at hr
    have d2 : decide ((x : Int) < 160) = false := by simp; omega
    have d3 : decide ((x : Int) < 192) = true := by simp; omega
    have HR : Hid (R = (8, 0, x - 160)) := hr.symm
    have HX2 : Hid (160 ≤ x) := by show _ ≤ _; omega
    clear hr HC h hx c0 c1 c2 c3 c4
    go_enter Tryz.func108, Tryz.ntmps108
    go_wp2
    refine bodyPost_ret (hd_ret W _ rfl _ rfl Tryz.results108) rfl ⟨?_, hd_below _ _⟩
    rw [HR.out, show ((x : Int) - 160) % 256 = ((x - 160 : Nat) : Int) by have := HX2.out; have := HX.out.2; omega]
    rfl
  · have HC : Hid (pkHd x = (5, 0, 18446744073709551360 + x)) := by
      show _ = _
      unfold pkHd
      rw [if_neg (by omega), if_neg (by omega), if_neg (by omega), if_neg (by omega), if_neg (by omega)]
    have d0 : decide ((x : Int) < 128) = false := by simp; omega
    have d1 : decide ((x : Int) < 144) = false := by simp; omega
    have d2 : decide ((x : Int) < 160) = false := by simp; omega
    have d3 : decide ((x : Int) < 192) = false := by simp; omega
    have d4 : decide ((x : Int) < 224) = false := by simp; omega
    have hw := i8_u64 x (by omega) hx
    have HW : Hid (IntKind.u64.wrap (IntKind.i8.wrap (x : Int)) = ((18446744073709551360 + x : Nat) : Int)) := hw
    clear h hx c0 c1 c2 hw
    go_enter Tryz.func108, Tryz.ntmps108
    go_wp2
    refine bodyPost_ret (hd_ret W _ rfl _ rfl Tryz.results108) rfl ⟨?_, hd_below _ _⟩
    rw [HC.out, HW.out]
    rfl
end Go.Proofs.YtllcbnfmihfaaaaGreatDoor
