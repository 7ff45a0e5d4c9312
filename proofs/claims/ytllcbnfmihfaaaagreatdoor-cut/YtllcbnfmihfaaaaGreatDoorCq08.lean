import Derived.Test.YtllcbnfmihfaaaaGreatDoorShelf
import Derived.Laws.Runes
import Derived.Laws.RangeAny
import Derived.Test.YtllcbnfmihfaaaaGreatDoorCq00
set_option maxRecDepth 100000
set_option maxHeartbeats 8000000
namespace Go.Proofs.YtllcbnfmihfaaaaGreatDoor
open Go.Proofs.Tryz
variable {Q:Exit→Act→World→Prop}{a:Act}{w:World}
section
open Go.RowKit Go.Shelf
theorem qf1 {K:Act→World→Prop}(h:Q .ret a w):Exit.then K Q .ret a w:=h
theorem qdT {n:Nat}(h:Q .ret a w):Exit.inBlock n Q .ret a w:=h
theorem qbU (h:Q .ret a w):Exit.noGoto Q .ret a w:=h
theorem qh9 (s:ByteArray)(hsz:s.size=5)(hA:∀i (h:i<s.size),(s[i]'h).toNat<128)(w:World):Calls prog 252 #[.string s,.int .i32 65533] w fun e w'=>e=.returned (.int .i64 (-1))∧Below w.heap.size w w':=by
 have HA:Hid (∀i (h:i<s.size),(s[i]'h).toNat<128):=hA;clear hA;go_enter func252,ntmps252;go_wp2
 go_loopg [5,6] 5 (fun g _ _ wx=>∃i:Nat,i+g=5∧wx=w.iter s i)
 case atStart=>exact⟨0,by omega,rfl⟩
 case round =>
  obtain⟨i,hig,rfl⟩:=hrel
  cases gk with
  |zero =>
   obtain rfl:i=5:=by omega
   have hnx:=fun ty=>run_next_end (P:=prog) w s 5 ty (by omega);go_wp2;go_ret;exact⟨rfl,bwA⟩
  |succ g =>
   have hi:i<s.size:=by omega
   have h1:=HA.out i (by omega);have hnx:=fun ty=>run_next_ascii (P:=prog) w s i ty hi h1;have h2:¬((s[i]'hi).toNat:Int)=65533:=by omega
   go_wp2;go_roundg g
   case measure=>omega
   case rel=>exact⟨i+1,by omega,rfl⟩
theorem qiy (s:ByteArray)(r:Int)(h128:128≤r)(hne:¬r=65533)(hv:Lib.validRune r=false)(w:World):Calls prog 252 #[.string s,.int .i32 r] w fun e w'=>e=.returned (.int .i64 (-1))∧Below w.heap.size w w':=by
 go_enter func252,ntmps252
 go_wp2_with (first|(go_at_call 267;refine(Tryz.utf8_ValidRune _ _).mono ?_;rintro e w2 ⟨rfl,rfl⟩;rw[hv]))
 go_ret;exact⟨rfl,Below.refl _ _⟩
theorem qgG (s:ByteArray)(hsz:s.size=5)(hA:∀i (h:i<s.size),(s[i]'h).toNat<128)(r:Int)(h128:128≤r)(hne:¬r=65533)(hv:Lib.validRune r=true)(rs:ByteArray)(k:Nat)(hrs:Utf8.encode r=rs)(hk:rs.size=k+1)(h1:1≤k)(h3:k≤3)(hb:128≤(rs[k]'(by omega)).toNat)(w:World):Calls prog 252 #[.string s,.int .i32 r] w fun e w'=>e=.returned (.int .i64 (-1))∧Below w.heap.size w w':=by
 have hks:k<s.size:=by omega
 have hkr:k<rs.size:=by omega
 have hx:=hA k hks;have hn:¬((s[k]'hks).toNat:Int)=((rs[k]'hkr).toNat:Int):=by omega
 have HI:Hid (Lib.indexByte (s.extract (k+1) s.size).data.toList (rs[k]'hkr) = -1):=by
  show _=_;rw[←Lib.firstIdx_eq];refine firstIdx_ascii s (k+1) s.size _ (fun b hbm => ?_) hb;obtain⟨i,hi,rfl⟩:=List.getElem_of_mem hbm;have hi':i<s.size:=by rw[Array.length_toList] at hi;exact hi
  exact hA i hi'
 have hback:(((rs[k]'hkr).toNat:Int)).toNat.toUInt8=rs[k]'hkr:=by simp
 clear hA;obtain rfl|rfl|rfl:k=1∨k=2∨k=3:=by omega
 all_goals
  rw[hsz] at HI;go_enter func252,ntmps252
  go_wp2_with (first|(go_at_call 267;refine(Tryz.utf8_ValidRune _ _).mono ?_;rintro e w2 ⟨rfl,rfl⟩;rw[hv]))
  go_step3;go_wp2
 ·have hlt:Lib.indexByte (List.take 3 (List.drop 2 s.data.toList)) (rs[1]'hkr)<0:=by
   have h:=HI.out;rw[ByteArray.data_extract,Array.toList_extract,List.extract_eq_take_drop] at h;have h2:Lib.indexByte (List.take 3 (List.drop 2 s.data.toList)) (rs[1]'hkr) = -1:=h;omega
  go_loopg [9,10,11,12] 1 (fun g a b c d wx=>a=.int .i64 1∧wx=w2)
  case atStart=>exact⟨rfl,rfl⟩
  case round =>
   obtain⟨rfl,rfl⟩:=hrel;go_wp2;go_step3;go_wp2
   go_region
   go_wp2
   go_region_with (first|(go_at_call 266;refine(Tryz.strings_IndexByte _ _ _).mono ?_;rintro e w' ⟨rfl,hw⟩;rw[hw,hback]))
   go_wp2
   all_goals repeat (first|refine qf1 ?_|refine qdT ?_|refine qbU ?_)
   all_goals go_ret
   all_goals exact⟨rfl,(Below.refl _ _).drew.drew⟩
 ·have hlt:Lib.indexByte (List.take 2 (List.drop 3 s.data.toList)) (rs[2]'hkr)<0:=by
   have h:=HI.out;rw[ByteArray.data_extract,Array.toList_extract,List.extract_eq_take_drop] at h;have h2:Lib.indexByte (List.take 2 (List.drop 3 s.data.toList)) (rs[2]'hkr) = -1:=h;omega
  go_loopg [9,10,11,12] 1 (fun g a b c d wx=>a=.int .i64 2∧wx=w2)
  case atStart=>exact⟨rfl,rfl⟩
  case round =>
   obtain⟨rfl,rfl⟩:=hrel;go_wp2;go_step3;go_wp2
   go_region
   go_wp2
   go_region_with (first|(go_at_call 266;refine(Tryz.strings_IndexByte _ _ _).mono ?_;rintro e w' ⟨rfl,hw⟩;rw[hw,hback]))
   go_wp2
   all_goals repeat (first|refine qf1 ?_|refine qdT ?_|refine qbU ?_)
   all_goals go_ret
   all_goals exact⟨rfl,(Below.refl _ _).drew.drew⟩
 have hlt:Lib.indexByte (List.take 1 (List.drop 4 s.data.toList)) (rs[3]'hkr)<0:=by
  have h:=HI.out;rw[ByteArray.data_extract,Array.toList_extract,List.extract_eq_take_drop] at h;have h2:Lib.indexByte (List.take 1 (List.drop 4 s.data.toList)) (rs[3]'hkr) = -1:=h;omega
 go_loopg [9,10,11,12] 1 (fun g a b c d wx=>a=.int .i64 3∧wx=w2)
 case atStart=>exact⟨rfl,rfl⟩
 case round =>
  obtain⟨rfl,rfl⟩:=hrel;go_wp2;go_step3;go_wp2
  go_region
  go_wp2
  go_region_with (first|(go_at_call 266;refine(Tryz.strings_IndexByte _ _ _).mono ?_;rintro e w' ⟨rfl,hw⟩;rw[hw,hback]))
  go_wp2
  all_goals repeat (first|refine qf1 ?_|refine qdT ?_|refine qbU ?_)
  all_goals go_ret
  all_goals exact⟨rfl,(Below.refl _ _).drew.drew⟩
def qua (r:Int):Bool:=r==42||(r==91||(r==93||(r==47||r==46)))
theorem qoD:∀k:Nat,k<128→decide (0≤Lib.indexByte [42,91,93,47,46] k.toUInt8)=qua (k:Int):=by decide
theorem qpU:∀i (h:i<(⟨#[42,91,93,47,46]⟩:ByteArray).size),((⟨#[42,91,93,47,46]⟩:ByteArray)[i]'h).toNat<128:=by decide
theorem qfb (r:Int)(h0:0≤r)(w:World):Calls prog 237 #[.string ⟨#[42,91,93,47,46]⟩,.int .i32 r] w fun e w'=>e=.returned (.bool (qua r))∧Below w.heap.size w w':=by
 by_cases h:r<128
 ·refine(Tryz.strings_ContainsRune_ascii _ r w h0 h).mono ?_;rintro e w' ⟨rfl,rfl⟩;refine⟨?_,Below.refl _ _⟩;have:=qoD r.toNat (by omega);rw[Int.toNat_of_nonneg h0] at this;rw[←this]
 have hs:qua r=false:=by
  unfold qua;simp only[Bool.or_eq_false_iff,beq_eq_false_iff_ne];omega
 have cI:Calls prog 252 #[.string ⟨#[42,91,93,47,46]⟩,.int .i32 r] w fun e w'=>e=.returned (.int .i64 (-1))∧Below w.heap.size w w':=by
  by_cases hne:r=65533
  ·subst hne;exact qh9 _ rfl qpU w
  cases hv:Lib.validRune r
  ·exact qiy _ r (by omega) hne hv w
  obtain⟨h2,h4,hl⟩:=encode_facts r (by rw[validRune_eq];exact hv) (by omega);exact qgG _ rfl qpU r (by omega) hne hv _ ((Utf8.encode r).size-1) rfl (by omega) (by omega) (by omega) (hl (by omega)) w
 rw[hs];clear hs h;generalize (⟨#[42,91,93,47,46]⟩:ByteArray)=s at *;go_enter func237,ntmps237
 go_wp2_with (first|(go_at_call 252;refine cI.mono ?_;rintro e w2 ⟨rfl,hB⟩))
 go_ret;exact⟨rfl,hB⟩
end
end Go.Proofs.YtllcbnfmihfaaaaGreatDoor
