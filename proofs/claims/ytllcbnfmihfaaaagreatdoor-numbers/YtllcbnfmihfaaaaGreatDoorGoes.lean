import Derived.Test.YtllcbnfmihfaaaaGreatDoorTrN
import Derived.Test.YtllcbnfmihfaaaaGreatDoorDocB
import Derived.Test.YtllcbnfmihfaaaaGreatDoorBinM
import Derived.Test.YtllcbnfmihfaaaaGreatDoorDec
import Derived.Test.YtllcbnfmihfaaaaGreatDoorHdK
namespace Go.Proofs.YtllcbnfmihfaaaaGreatDoor
open Go.RowKit

/-- The tables that numbers are read and written by. -/
structure NumTabs (W : World) : Prop where
  tab : Lib.TabIs Tryz.prog W tabName .u64 Lib.pow10Tab
  hd : HdTab W
theorem NumTabs.below {W V : World} (h : NumTabs W) (hb : Below W.heap.size W V) : NumTabs V := ⟨Lib.tabBelow_of_tabIs h.tab V hb, h.hd.below hb⟩
theorem NumTabs.at {W : World} (h : NumTabs W) : TabAt W.heap.size W := Lib.tabBelow_of_tabIs h.tab

/-- The bytes of a string, in new memory. -/
theorem conv_bytes (W : World) (l : List UInt8) (hl : l.length ≤ maxLen) : ∃ cap V, (convert 9 28 (strV l)).run Tryz.prog W = .ok (.slice (some ⟨W.heap.size, 0, none⟩) l.length cap) V ∧ Below W.heap.size W V ∧ BytesAt V (some ⟨W.heap.size, 0, none⟩) l := by
  have h := run_bytes_of_string (P := Tryz.prog) W 9 28 5 ⟨l.toArray⟩ Tryz.underlying9 Tryz.underlying28 Tryz.underlying5
  have hs : (⟨l.toArray⟩ : ByteArray).size = l.length := List.size_toArray ..
  refine ⟨_, _, by rw [← hs]; exact h, ((Below.refl _ _).drew).alloc (Nat.le_refl _) _, ⟨fun i hi => ⟨W.heap.size, 0, rfl, by rw [World.size_alloc]; exact Nat.lt_succ_self _, ?_⟩, hl⟩⟩
  rw [Nat.zero_add]
  refine (World.cell?_alloc_mark W.drew _ _ _ i).trans ((bytesRow_at ⟨l.toArray⟩ _ i (by simpa using hi)).trans ?_)
  simp
/-- What a slice of one's own holds. -/
theorem Own.holds {W : World} {base : Nat} {v : Value} {bs : List UInt8} (h : Own W base v bs) (hne : 0 < bs.length) : ∃ g cap, v = .slice (some ⟨g, 0, none⟩) bs.length cap ∧ BytesAt W (some ⟨g, 0, none⟩) bs ∧ (convert 28 9 v).run Tryz.prog W = .ok (strV bs) W := by
  obtain ⟨⟨h1, h2⟩, _, _⟩ := h
  rcases h2 with ⟨_, h2⟩ | ⟨g, cap, cur, rfl, _, hg, h5, h6, h7, h8⟩
  · omega
  · have hc : ∀ j (hj : j < bs.length), W.cell? ⟨g, j, none⟩ = some (.int .u8 ((bs[j]'hj).toNat : Int)) := by
      intro j hj
      rw [cellOfHeap hg j, ← Array.getElem?_toList]
      have h9 := congrArg (fun l => l[j]?) h8
      simp only [Nat.mul_one] at h9
      rw [List.getElem?_take_of_lt hj, List.getElem?_map, List.getElem?_eq_getElem hj] at h9
      exact h9
    refine ⟨g, cap, rfl, ⟨fun i hi => ⟨g, 0, rfl, (Array.getElem?_eq_some_iff.1 hg).1, by rw [Nat.zero_add]; exact hc i hi⟩, by omega⟩, ?_⟩
    refine run_convert_bytes_back W 28 9 5 ⟨g, 0, none⟩ cap bs Tryz.underlying28 Tryz.underlying5 Tryz.underlying9 ?_
    intro j hj
    have e : (⟨g, 0, none⟩ : Addr).add j = ⟨g, j, none⟩ := by by_cases h : j = 0 <;> simp [Addr.add, h]
    rw [e]
    exact hc j hj

/-- A number in JSON, to CBOR. -/
theorem tr_json_cbor (V : World) (a : Option Addr) (l : List UInt8) (cap : Nat) (c : UInt8) (r : Except (Int × Int) Int) (h : BytesAt V a l) (hc : l[0]? = some c) (hn : c.toNat = 45 ∨ isDig c = true) (hr : docN l 4096 c = r)
    (hz : ∀ z, r = .ok z → -9223372036854775808 ≤ z ∧ z ≤ 9223372036854775807) (he : ∀ en pl, r = .error (en, pl) → en ≠ 0) :
    Calls Tryz.prog 19 #[.int .i64 1, .int .i64 2, .int .i64 16, .int .i64 4096, .slice a l.length cap] V (TrSays V cborZ r) := by
  refine transcode_num V 1 2 16 4096 a l.length cap r cborZ (by decide) he (fun V' hB => ?_) (fun z V' h1 _ => writeCBOR_num V' z (hz z h1).1 (hz z h1).2)
  have := document_num V' a l cap 16 4096 (h.below hB) c hc (by decide) hn
  rw [hr] at this
  exact this
/-- A number in CBOR, read. -/
theorem doc_cbor (V : World) (a : Option Addr) (z : Int) (cap : Nat) (hn1 : -9223372036854775808 ≤ z) (hn2 : z ≤ 9223372036854775807) (h : BytesAt V a (cborZ z)) (ht : HdTab V) :
    Calls Tryz.prog 41 #[.int .i64 2, .agg #[.int .i64 16, .int .i64 4096], .slice a (cborZ z).length cap] V (Says1 V thNum (.ok z)) := by
  obtain ⟨c, x, h1, h2, h3, h4⟩ := binF_parts (binF_cborZ z 4096 (by decide) hn1 hn2)
  have hk := cbHd_ok c.toNat
  exact document_bin V 2 107 cbHd a (cborZ z) cap 16 4096 c _ _ _ x z h ht h1 (by decide) (.inl rfl) h2 hk.1 hk.2.1 (arg_fits hk h3) rfl h3 h4
    (fun V' hV => newReader_cbor V' a (cborZ z) cap 16 4096 hV) (fun V' hV => cborHead_any V' c.toNat c.toNat_lt hV)
/-- A number in MessagePack, read. -/
theorem doc_pack (V : World) (a : Option Addr) (z : Int) (cap : Nat) (hn1 : -9223372036854775808 ≤ z) (hn2 : z ≤ 9223372036854775807) (h : BytesAt V a (packZ z)) (ht : HdTab V) :
    Calls Tryz.prog 41 #[.int .i64 3, .agg #[.int .i64 16, .int .i64 4096], .slice a (packZ z).length cap] V (Says1 V thNum (.ok z)) := by
  obtain ⟨c, x, h1, h2, h3, h4⟩ := binF_parts (binF_packZ z 4096 (by decide) hn1 hn2)
  have hk := pkHd_ok c.toNat c.toNat_lt
  exact document_bin V 3 108 pkHd a (packZ z) cap 16 4096 c _ _ _ x z h ht h1 (by decide) (.inr rfl) h2 hk.1 hk.2.1 (arg_fits hk h3) rfl h3 h4
    (fun V' hV => newReader_pack V' a (packZ z) cap 16 4096 hV) (fun V' hV => packHead_any V' c.toNat c.toNat_lt hV)
theorem tr_cbor_json (V : World) (a : Option Addr) (z : Int) (cap : Nat) (hn1 : -9223372036854775808 ≤ z) (hn2 : z ≤ 9223372036854775807) (h : BytesAt V a (cborZ z)) (ht : NumTabs V) :
    Calls Tryz.prog 19 #[.int .i64 2, .int .i64 1, .int .i64 16, .int .i64 4096, .slice a (cborZ z).length cap] V (TrSays V Lib.itoa (.ok z)) :=
  transcode_num V 2 1 16 4096 a (cborZ z).length cap (.ok z) Lib.itoa (by decide) (fun _ _ h => by cases h) (fun V' hB => doc_cbor V' a z cap hn1 hn2 (h.below hB) (ht.below hB).hd)
    (fun y V' h1 hB => by cases h1; exact writeJSON_num V' z hn1 hn2 (ht.below hB).at)
theorem tr_cbor_pack (V : World) (a : Option Addr) (z : Int) (cap : Nat) (hn1 : -9223372036854775808 ≤ z) (hn2 : z ≤ 9223372036854775807) (h : BytesAt V a (cborZ z)) (ht : NumTabs V) :
    Calls Tryz.prog 19 #[.int .i64 2, .int .i64 3, .int .i64 16, .int .i64 4096, .slice a (cborZ z).length cap] V (TrSays V packZ (.ok z)) :=
  transcode_num V 2 3 16 4096 a (cborZ z).length cap (.ok z) packZ (by decide) (fun _ _ h => by cases h) (fun V' hB => doc_cbor V' a z cap hn1 hn2 (h.below hB) (ht.below hB).hd)
    (fun y V' h1 _ => by cases h1; exact writePack_num V' z hn1 hn2)
theorem tr_pack_json (V : World) (a : Option Addr) (z : Int) (cap : Nat) (hn1 : -9223372036854775808 ≤ z) (hn2 : z ≤ 9223372036854775807) (h : BytesAt V a (packZ z)) (ht : NumTabs V) :
    Calls Tryz.prog 19 #[.int .i64 3, .int .i64 1, .int .i64 16, .int .i64 4096, .slice a (packZ z).length cap] V (TrSays V Lib.itoa (.ok z)) :=
  transcode_num V 3 1 16 4096 a (packZ z).length cap (.ok z) Lib.itoa (by decide) (fun _ _ h => by cases h) (fun V' hB => doc_pack V' a z cap hn1 hn2 (h.below hB) (ht.below hB).hd)
    (fun y V' h1 hB => by cases h1; exact writeJSON_num V' z hn1 hn2 (ht.below hB).at)

set_option maxRecDepth 100000 in
set_option maxHeartbeats 2000000 in
theorem goes_ok (W : World) (fin fout : Int) (l want : List UInt8) (z : Int) (out : Int → List UInt8) (hl : l.length ≤ maxLen) (hout : out z = want) (hne : 0 < want.length)
    (cT : ∀ V a cap, BytesAt V a l → Below W.heap.size W V → Calls Tryz.prog 19 #[.int .i64 fin, .int .i64 fout, .int .i64 16, .int .i64 4096, .slice a l.length cap] V (TrSays V out (.ok z))) :
    Calls Tryz.prog 18 #[.int .i64 fin, strV l, .int .i64 fout, strV want] W fun e W' => e = .returned (.bool true) ∧ Below W.heap.size W W' := by
  obtain ⟨cap, V, hcv, hB, hby⟩ := conv_bytes W l hl
  have cT2 := cT V _ cap hby hB
  have HB : Hid (Below W.heap.size W V) := hB
  subst hout
  have HNE : Hid (0 < (out z).length) := hne
  clear cT hby hB hl hne
  unfold strV at *
  go_enter Tryz.func18, Tryz.ntmps18
  go_wp2_with (first
    | (go_at_call 19; refine cT2.mono ?_; clear cT2; rintro e w2 ⟨hB2, v, rfl, hO⟩; obtain ⟨g, cap2, rfl, _, hback⟩ := hO.holds HNE.out; unfold strV at hback; have HB2 : Hid (Below V.heap.size V w2) := hB2; clear hB2 hO))
  go_ret
  exact ⟨rfl, HB.out.trans (HB2.out.mono HB.out.size)⟩
end Go.Proofs.YtllcbnfmihfaaaaGreatDoor
