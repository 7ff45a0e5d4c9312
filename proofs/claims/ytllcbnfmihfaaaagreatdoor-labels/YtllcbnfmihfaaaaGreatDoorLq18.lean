import Derived.Shelf.Unicode.DecodeSlow
import Derived.Test.YtllcbnfmihfaaaaGreatDoorLq06
import Derived.Test.YtllcbnfmihfaaaaGreatDoorLq17
namespace Go.Proofs.YtllcbnfmihfaaaaGreatDoor
open Go.RowKit

/-- A configuration, as data. -/
structure Cfg where
  labels : Int
  L : List (Int × Int)
  ea : Option Addr
  ecap : Nat
  dflt : Int
  pol : ByteArray
  clr : Int
  key : Int
  inn : Int
  out : Int
  depth : Int
  bytes : Int
  B : List Int
  ba : Option Addr
  bcap : Nat
/-- Its value. -/
def Cfg.arr (c : Cfg) : Array Value := #[.int .i64 c.labels, .slice c.ea c.L.length c.ecap, .int .i64 c.dflt, .string c.pol, .int .i64 c.clr, .int .i64 c.key, .int .i64 c.inn, .int .i64 c.out, .int .i64 c.depth, .int .i64 c.bytes, .slice c.ba c.B.length c.bcap]
theorem Cfg.size (c : Cfg) : c.arr.size = 11 := rfl
theorem Cfg.one (c : Cfg) : c.arr.all (·.oneCell') = true := by simp [Cfg.arr, Value.oneCell']
/-- Its lists, in memory; how long they are. -/
structure CfgW (w : World) (c : Cfg) : Prop where
  edges : EdgesAt w c.ea c.L
  ints : IntsAt w c.ba c.B
  en : c.ea = none → c.L.length = 0 ∧ c.ecap = 0
  bn : c.ba = none → c.B.length = 0 ∧ c.bcap = 0
  eb : (c.L.length + 8) * 16 ≤ 281474976710656
  bb : (c.B.length + 8) * 8 ≤ 281474976710656
theorem CfgW.below {w w' : World} {c : Cfg} (h : CfgW w c) (hb : Below w.heap.size w w') : CfgW w' c := ⟨h.edges.below hb, h.ints.below hb, h.en, h.bn, h.eb, h.bb⟩
/-- The same configuration with lists of the caller's own. -/
def Cfg.lent (c : Cfg) (w : World) : Cfg :=
  { c with
    ea := if c.ea.isSome then some ⟨w.heap.size + 1 + 1, 0, none⟩ else c.ea
    ecap := if c.ea.isSome then c.L.length + 8 else c.ecap
    ba := if c.ba.isSome then some ⟨w.heap.size + 1 + 1 + 1, 0, none⟩ else c.ba
    bcap := if c.ba.isSome then c.B.length + 8 else c.bcap }
theorem Cfg.lent_arr (c : Cfg) (w : World) : (c.lent w).arr = lentArr c.arr w c.ea c.ba c.L.length c.B.length := by
  unfold Cfg.lent Cfg.arr lentArr
  cases c.ea <;> cases c.ba <;> rfl
theorem lent_w {w W : World} {c : Cfg} (hc : CfgW w c) (h : LentOut w W (c.L ++ roomE 8) (c.B ++ roomI 8)) : CfgW W (c.lent w) := by
  have sE : w.heap.size + 1 + 1 < W.heap.size := (Array.getElem?_eq_some_iff.1 h.e).1
  have sI : w.heap.size + 1 + 1 + 1 < W.heap.size := (Array.getElem?_eq_some_iff.1 h.b).1
  refine ⟨⟨fun i hi => ?_⟩, ⟨fun i hi => ?_⟩, fun hn => ?_, fun hn => ?_, hc.eb, hc.bb⟩
  · have hi : i < c.L.length := hi
    cases he : c.ea with
    | none => have := (hc.en he).1; omega
    | some ad =>
      refine ⟨w.heap.size + 1 + 1, 0, by simp [Cfg.lent, he], sE, ?_, ?_⟩
      · have g := (edgeArr_at (c.L ++ roomE 8) i (by rw [List.length_append]; omega)).1
        rw [List.getElem_append_left hi] at g
        rw [Nat.zero_add]
        exact (cellOfHeap h.e _).trans g
      · have g := (edgeArr_at (c.L ++ roomE 8) i (by rw [List.length_append]; omega)).2
        rw [List.getElem_append_left hi] at g
        rw [Nat.zero_add]
        exact (cellOfHeap h.e _).trans g
  · have hi : i < c.B.length := hi
    cases he : c.ba with
    | none => have := (hc.bn he).1; omega
    | some ad =>
      refine ⟨w.heap.size + 1 + 1 + 1, 0, by simp [Cfg.lent, he], sI, fun j hj => ?_⟩
      have hj : j < c.B.length := hj
      have g := intArr_at (c.B ++ roomI 8) j (by rw [List.length_append]; omega)
      rw [List.getElem_append_left hj] at g
      rw [Nat.zero_add]
      exact (cellOfHeap h.b _).trans g
  · cases he : c.ea with
    | none =>
      have := hc.en he
      refine ⟨this.1, ?_⟩
      show (if c.ea.isSome then c.L.length + 8 else c.ecap) = 0
      rw [he]; exact this.2
    | some ad =>
      exfalso
      have hn : (if c.ea.isSome then some ⟨w.heap.size + 1 + 1, 0, none⟩ else c.ea) = none := hn
      rw [he] at hn
      cases hn
  · cases he : c.ba with
    | none =>
      have := hc.bn he
      refine ⟨this.1, ?_⟩
      show (if c.ba.isSome then c.B.length + 8 else c.bcap) = 0
      rw [he]; exact this.2
    | some ad =>
      exfalso
      have hn : (if c.ba.isSome then some ⟨w.heap.size + 1 + 1 + 1, 0, none⟩ else c.ba) = none := hn
      rw [he] at hn
      cases hn

/-- What the package-level variables hold. -/
structure Glob (w : World) : Prop where
  signs : ∃ t fr, w.heap[2]? = some (.cells #[.string ⟨#[42]⟩, .int .i64 0, .string ⟨#[42, 42]⟩, .int .i64 1, .string ⟨#[91, 93]⟩, .int .i64 2] t fr)
  tabs : Lib.Utf8Tabs 4 5 w
  mlen : ∃ m, w.cell? ⟨3, 0, none⟩ = some (.int .i64 m)
theorem Glob.below {w w' : World} (h : Glob w) (hb : Below w.heap.size w w') : Glob w' := by
  obtain ⟨t, fr, h1⟩ := h.signs
  obtain ⟨m, h2⟩ := h.mlen
  exact ⟨⟨t, fr, (hb.block _ (Array.getElem?_eq_some_iff.1 h1).1).trans h1⟩, Utf8Tabs_below h.tabs hb, ⟨m, (hb.cell (p := ⟨_, 0, none⟩) (block_lt_of_cell h2)).trans h2⟩⟩

/-- A call that answers an error and a number, whatever the configuration. -/
def Says2 (f : Nat) (E N : Cfg → Int) : Prop := ∀ (c : Cfg) (w : World), CfgW w c → Glob w → Calls Tryz.prog f #[.agg c.arr] w fun e w' => e = .returned (.tuple #[.int .i64 (E c), .int .i64 (N c)]) ∧ Below w.heap.size w w'
/-- It does not hang on where the lists lie. -/
def Blind (E : Cfg → Int) : Prop := ∀ (c : Cfg) (w : World), E (c.lent w) = E c
end Go.Proofs.YtllcbnfmihfaaaaGreatDoor
