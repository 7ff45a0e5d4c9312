import Derived.Laws.CopyRow
import Derived.Laws.MakeOwn
import Derived.Lib.AppendStr
import Derived.Test.YtllcbnfmihfaaaaGreatDoorShelf
import Derived.Test.YtllcbnfmihfaaaaGreatDoorCq02
import Derived.Test.YtllcbnfmihfaaaaGreatDoorCq04
set_option maxRecDepth 100000
set_option maxHeartbeats 8000000
namespace Go.Proofs.YtllcbnfmihfaaaaGreatDoor
open Go.Proofs.Tryz
section
open Go.RowKit
theorem qcn (b off j:Nat):(⟨b,off,none⟩:Addr).add j=⟨b,off+j,none⟩:=by unfold Addr.add;split<;>simp_all
end
section
open Go.RowKit Go.Lib
def wmF (s b:Nat):Nat:=((s ^^^ b)*1099511628211)%18446744073709551616
theorem qkj (s b:Nat):wmF s b<18446744073709551616:=Nat.mod_lt _ (by decide)
theorem qwZ (a b:Nat)(ha:a<18446744073709551616)(hb:b<18446744073709551616):bits .xor .u64 (a:Int) (b:Int)=((a ^^^ b:Nat):Int):=by
 have h:(BitVec.ofNat 64 a ^^^ BitVec.ofNat 64 b).toNat=a ^^^ b:=by
  rw[BitVec.toNat_xor,BitVec.toNat_ofNat,BitVec.toNat_ofNat,Nat.mod_eq_of_lt (by omega),Nat.mod_eq_of_lt (by omega)]
 have e1:BitVec.ofInt 64 (a:Int)=BitVec.ofNat 64 a:=BitVec.ofInt_natCast ..;have e2:BitVec.ofInt 64 (b:Int)=BitVec.ofNat 64 b:=BitVec.ofInt_natCast ..;show IntKind.u64.wrap ((BitVec.ofInt 64 (a:Int) ^^^ BitVec.ofInt 64 (b:Int)).toNat:Int)=_;have hl:a ^^^ b<2^64:=Nat.xor_lt_two_pow (by omega) (by omega);rw[e1,e2,h];unfold IntKind.wrap;simp[IntKind.bits,IntKind.signed];omega
theorem qup (x:Nat):IntKind.u64.wrap ((x:Int)*1099511628211)=(((x*1099511628211)%18446744073709551616:Nat):Int):=by
 unfold IntKind.wrap;simp[IntKind.bits,IntKind.signed]
theorem qi5 (s b:Nat)(hs:s<18446744073709551616)(hb:b<256)(W:World):Calls prog 221 #[.int .u64 s,.int .u8 b] W fun e W'=>e=.returned (.int .u64 (wmF s b))∧W'=W:=by
 have hx:=qwZ s b hs (by omega);go_enter func221,ntmps221;go_wp2;rw[qup];go_ret;exact⟨rfl,rfl⟩
end
section
open Go.RowKit
theorem qtp:∀(s:Fin 8) (x:Fin 32),bits .or .u8 ((s.val:Int)*32) (x.val:Int)=((32*s.val+x.val:Nat):Int):=by decide
theorem qew (s x:Nat)(hs:s<8)(hx:x<32):qav (UInt8.ofNat (32*s+x))=.int .u8 (bits .or .u8 ((s:Int)*32) (x:Int)):=by
 rw[qaQ _ (by omega)];have:=qtp ⟨s,hs⟩ ⟨x,hx⟩;simp only[] at this;rw[this]
theorem qbl (W:World)(base:Nat)(v:Value)(bs:List UInt8)(s x:Nat)(hs:s<8)(hx:x<18446744073709551616)(hl:bs.length≤999999999)(h:Own W base v bs):Calls prog 163 #[v,.int .u8 s,.int .u64 x] W fun e W'=>∃v',e=.returned v'∧Own W' base v' (bs++qaj s x)∧Below base W W':=by
 obtain⟨i0,hi,hz0,hz1,hz2⟩:=info_parts Tryz.infoU8;obtain⟨ho,hb,a,n,c,rfl⟩:=h;have HO:=qaa ho;by_cases c0:x<24
 ·have hr:Hid (qaj s x=UInt8.ofNat (32*s+x)::[]):=by show _=_;unfold qaj;rw[if_pos c0]
  go_enter func163,ntmps163
  go_wp2_with (first
    |(at_builtin;refine wpList_append_own _ rfl _ _ 28 rfl base 5 i0 (.int .u8 0) 1 1 underlying28 hi hz0 hz1 hz2 rfl (by decide) _ _ _ rfl (HO.out.alloc _) ⟨W.heap.size,0,none⟩ 1 1 [.int .u8 (bits .or .u8 ((s:Int)*32) (x:Int))] rfl rfl (qag _ _ _) (fun u hu=>by simp at hu;subst hu;rfl) (by unfold maxLen;omega) (by omega) (by simp;omega) ?_;intro v' w5 hown' hgrow5 hnil5;obtain⟨g5,cap5,rfl⟩:=ownsRow_succ hown';have HB:Hid (Own w5 base _ (bs++[UInt8.ofNat (32*s+x)])∧Below base W w5):=qax hb HO.out (qew s _ hs (by omega)) hown' hgrow5))
  go_ret;rw[hr.out];exact⟨_,rfl,HB.out⟩
 skip
 by_cases c1:x≤255
 ·have hr:Hid (qaj s x=UInt8.ofNat (32*s+24)::beF x 1):=by show _=_;unfold qaj;rw[if_neg c0];rw[if_pos c1]
  go_enter func163,ntmps163
  go_wp2_with (first
    |(at_builtin;refine wpList_append_own _ rfl _ _ 28 rfl base 5 i0 (.int .u8 0) 1 1 underlying28 hi hz0 hz1 hz2 rfl (by decide) _ _ _ rfl (HO.out.alloc _) ⟨W.heap.size,0,none⟩ 1 1 [.int .u8 (bits .or .u8 ((s:Int)*32) 24)] rfl rfl (qag _ _ _) (fun u hu=>by simp at hu;subst hu;rfl) (by unfold maxLen;omega) (by omega) (by simp;omega) ?_;intro v' w5 hown' hgrow5 hnil5;obtain⟨g5,cap5,rfl⟩:=ownsRow_succ hown';have HB:Hid (Own w5 base _ (bs++[UInt8.ofNat (32*s+24)])∧Below base W w5):=qax hb HO.out (qew s _ hs (by omega)) hown' hgrow5)
    |(go_at_call 202;refine(qaq _ base _ _ (x) 1 (by omega) (by omega) (by simp;omega) HB.out.1).mono ?_;rintro e w6 ⟨v6,rfl,h6,hB6⟩;obtain⟨h61,h62,a6,n6,c6,rfl⟩:=h6;have HC:=qaa (qaJ HB.out ⟨h61,h62,a6,n6,c6,rfl⟩ hB6 (hr.out.symm))))
  go_ret;exact⟨_,rfl,HC.out⟩
 skip
 by_cases c2:x≤65535
 ·have hr:Hid (qaj s x=UInt8.ofNat (32*s+25)::beF x 2):=by show _=_;unfold qaj;rw[if_neg c0];rw[if_neg c1];rw[if_pos c2]
  go_enter func163,ntmps163
  go_wp2_with (first
    |(at_builtin;refine wpList_append_own _ rfl _ _ 28 rfl base 5 i0 (.int .u8 0) 1 1 underlying28 hi hz0 hz1 hz2 rfl (by decide) _ _ _ rfl (HO.out.alloc _) ⟨W.heap.size,0,none⟩ 1 1 [.int .u8 (bits .or .u8 ((s:Int)*32) 25)] rfl rfl (qag _ _ _) (fun u hu=>by simp at hu;subst hu;rfl) (by unfold maxLen;omega) (by omega) (by simp;omega) ?_;intro v' w5 hown' hgrow5 hnil5;obtain⟨g5,cap5,rfl⟩:=ownsRow_succ hown';have HB:Hid (Own w5 base _ (bs++[UInt8.ofNat (32*s+25)])∧Below base W w5):=qax hb HO.out (qew s _ hs (by omega)) hown' hgrow5)
    |(go_at_call 202;refine(qaq _ base _ _ (x) 2 (by omega) (by omega) (by simp;omega) HB.out.1).mono ?_;rintro e w6 ⟨v6,rfl,h6,hB6⟩;obtain⟨h61,h62,a6,n6,c6,rfl⟩:=h6;have HC:=qaa (qaJ HB.out ⟨h61,h62,a6,n6,c6,rfl⟩ hB6 (hr.out.symm))))
  go_ret;exact⟨_,rfl,HC.out⟩
 skip
 by_cases c3:x≤4294967295
 ·have hr:Hid (qaj s x=UInt8.ofNat (32*s+26)::beF x 4):=by show _=_;unfold qaj;rw[if_neg c0];rw[if_neg c1];rw[if_neg c2];rw[if_pos c3]
  go_enter func163,ntmps163
  go_wp2_with (first
    |(at_builtin;refine wpList_append_own _ rfl _ _ 28 rfl base 5 i0 (.int .u8 0) 1 1 underlying28 hi hz0 hz1 hz2 rfl (by decide) _ _ _ rfl (HO.out.alloc _) ⟨W.heap.size,0,none⟩ 1 1 [.int .u8 (bits .or .u8 ((s:Int)*32) 26)] rfl rfl (qag _ _ _) (fun u hu=>by simp at hu;subst hu;rfl) (by unfold maxLen;omega) (by omega) (by simp;omega) ?_;intro v' w5 hown' hgrow5 hnil5;obtain⟨g5,cap5,rfl⟩:=ownsRow_succ hown';have HB:Hid (Own w5 base _ (bs++[UInt8.ofNat (32*s+26)])∧Below base W w5):=qax hb HO.out (qew s _ hs (by omega)) hown' hgrow5)
    |(go_at_call 202;refine(qaq _ base _ _ (x) 4 (by omega) (by omega) (by simp;omega) HB.out.1).mono ?_;rintro e w6 ⟨v6,rfl,h6,hB6⟩;obtain⟨h61,h62,a6,n6,c6,rfl⟩:=h6;have HC:=qaa (qaJ HB.out ⟨h61,h62,a6,n6,c6,rfl⟩ hB6 (hr.out.symm))))
  go_ret;exact⟨_,rfl,HC.out⟩
 skip
 have hr:Hid (qaj s x=UInt8.ofNat (32*s+27)::beF x 8):=by show _=_;unfold qaj;rw[if_neg c0];rw[if_neg c1];rw[if_neg c2];rw[if_neg c3]
 go_enter func163,ntmps163
 go_wp2_with (first
   |(at_builtin;refine wpList_append_own _ rfl _ _ 28 rfl base 5 i0 (.int .u8 0) 1 1 underlying28 hi hz0 hz1 hz2 rfl (by decide) _ _ _ rfl (HO.out.alloc _) ⟨W.heap.size,0,none⟩ 1 1 [.int .u8 (bits .or .u8 ((s:Int)*32) 27)] rfl rfl (qag _ _ _) (fun u hu=>by simp at hu;subst hu;rfl) (by unfold maxLen;omega) (by omega) (by simp;omega) ?_;intro v' w5 hown' hgrow5 hnil5;obtain⟨g5,cap5,rfl⟩:=ownsRow_succ hown';have HB:Hid (Own w5 base _ (bs++[UInt8.ofNat (32*s+27)])∧Below base W w5):=qax hb HO.out (qew s _ hs (by omega)) hown' hgrow5)
   |(go_at_call 202;refine(qaq _ base _ _ (x) 8 (by omega) (by omega) (by simp;omega) HB.out.1).mono ?_;rintro e w6 ⟨v6,rfl,h6,hB6⟩;obtain⟨h61,h62,a6,n6,c6,rfl⟩:=h6;have HC:=qaa (qaJ HB.out ⟨h61,h62,a6,n6,c6,rfl⟩ hB6 (hr.out.symm))))
 go_ret;exact⟨_,rfl,HC.out⟩
end
section
open Go.RowKit Go.Lib
theorem qp3 (l:List UInt8):strCells ⟨l.toArray⟩=l.map qav:=by
 unfold strCells;simp[qav]
theorem qaL {W W':World}{base:Nat}{v v':Value}{bs l:List UInt8}(h:Own W base v bs)(hown:W'.ownsRow base 5 1 v' (bs.length+(⟨l.toArray⟩:ByteArray).size) (bs.map qav++strCells ⟨l.toArray⟩))(hg:W.grownBy W' v.ownBlock):Own W' base v' (bs++l)∧Below base W W':=by
 obtain⟨ho,hb,_⟩:=h;have hB:=qaz (Below.refl base W) ho hg hb;have hs:(⟨l.toArray⟩:ByteArray).size=l.length:=List.size_toArray ..;rw[hs,qp3] at hown;refine⟨⟨by rw[List.length_append,List.map_append];exact hown,Nat.le_trans hb hB.size,?_⟩,hB⟩;rcases hown.2 with ⟨e,_⟩|⟨g,cap,cur,e,_⟩
 ·exact⟨none,0,0,e⟩
 exact⟨_,_,_,e⟩
theorem qjn (W:World)(base:Nat)(v:Value)(bs l:List UInt8)(hl:bs.length≤999999999)(hl2:l.length≤999999999)(h:Own W base v bs):Calls prog 164 #[v,.string ⟨l.toArray⟩] W fun e W'=>∃v',e=.returned v'∧Own W' base v' (bs++(qaj 3 l.length++l))∧Below base W W':=by
 obtain⟨i0,hi,hz0,hz1,hz2⟩:=info_parts Tryz.infoU8;have cH:Calls prog 163 #[v,.int .u8 3,.int .u64 l.length] W fun e W'=>∃v',e=.returned v'∧Own W' base v' (bs++qaj 3 l.length)∧Below base W W':=qbl W base v bs 3 l.length (by decide) (by omega) hl h;have hcl:(qaj 3 l.length).length≤9:=by
  unfold qaj;have hb:∀x k,(beF x k).length=k:=fun x k=>by induction k with|zero=>rfl|succ k ih=>rw[beF,List.length_cons,ih]
  repeat' split
  all_goals simp[hb]
 have hsz:(⟨l.toArray⟩:ByteArray).size=l.length:=List.size_toArray ..;obtain⟨_,_,a,n,c,rfl⟩:=h;go_enter func164,ntmps164
 go_wp2_with (first
  |(go_at_call 163;refine cH.mono ?_;rintro e w2 ⟨v2,rfl,h2,hB2⟩;obtain⟨o2,b2,a2,n2,c2,rfl⟩:=h2;have HO2:Hid (Own w2 base (.slice a2 n2 c2) (bs++qaj 3 l.length)):=⟨o2,b2,_,_,_,rfl⟩;have HB2:=qaa hB2)
  |(at_builtin;refine wpList_append_own_string _ rfl _ _ 28 9 rfl base 5 i0 underlying28 underlying9 hi hz0 hz1 hz2 _ _ _ rfl HO2.out.1 ⟨l.toArray⟩ rfl (by rw[hsz,List.length_append];unfold maxLen;omega) (by rw[hsz,List.length_append];omega) HO2.out.2.1 ?_;intro v' w5 hown' hgrow5 hnil5;have HN:=qaa (qaL HO2.out hown' hgrow5)))
 go_ret;rw[List.append_assoc] at HN;exact⟨_,rfl,HN.out.1,HB2.out.trans HN.out.2⟩
end
section
open Go.RowKit Go.Shelf
theorem qn1 (s:ByteArray)(w:World)(hs:s.size≤1000000):Calls prog 218 #[.string s] w fun e w'=>e=.returned (.string s)∧Below w.heap.size w w':=by
 have cC:=Tryz.stringslite_Clone s w (by omega);go_enter func218,ntmps218
 go_wp2_with (first
  |(go_at_call 238;refine cC.mono ?_;clear cC;rintro e w2 ⟨rfl,hB⟩))
 go_ret;exact⟨rfl,hB⟩
end
end Go.Proofs.YtllcbnfmihfaaaaGreatDoor
