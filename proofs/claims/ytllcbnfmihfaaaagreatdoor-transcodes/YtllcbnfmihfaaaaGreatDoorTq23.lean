import Derived.Test.YtllcbnfmihfaaaaGreatDoorTq14
import Derived.Test.YtllcbnfmihfaaaaGreatDoorTq21
set_option maxRecDepth 100000
set_option maxHeartbeats 8000000
namespace Go.Proofs.YtllcbnfmihfaaaaGreatDoor
open Go.Proofs.Tryz
variable {V W:World}{base k p q r:Nat}{v:Value}{bs l:List UInt8}{F:Nat→Prop}{d:DataW Unit}
section
open Go.RowKit Go.Lib
theorem qon:∀x:Fin 24,bits .or .u8 96 (x.val:Int)=((96+x.val:Nat):Int):=by decide
theorem quA (W:World)(base e:Nat)(v:Value)(bs:List UInt8)(x:Nat)(hx:x<4294967296)(hl:bs.length≤999999999)(h:qg2 W base e v bs):Calls prog 203 #[v,.int .u64 x] W fun r W'=>∃v',r=.returned v'∧qg2 W' base e v' (bs++qa2 x)∧qg5 base e W W':=by
 obtain⟨i0,hi,hz0,hz1,hz2⟩:=info_parts Tryz.infoU8;have hb:=h.1.2.1;obtain⟨a,n,c,rfl⟩:=h.1.2.2;have HO:=qaa h;by_cases c0:x<32
 ·have hr:Hid (qa2 x=[UInt8.ofNat (160+x)]):=by show _=_;unfold qa2;rw[if_pos c0]
  have hor:=qh4 ⟨x,c0⟩;simp only[] at hor;have HV:Hid (qav (UInt8.ofNat (160+x))=.int .u8 (bits .or .u8 160 (x:Int))):=by show _=_;rw[hor,qaQ _ (by omega)]
  have HV2:Hid (qav (UInt8.ofNat (160+x))=.int .u8 (160+(x:Int))):=by show _=_;rw[qaQ _ (by omega)];simp
  go_enter func203,ntmps203
  go_wp2_with (first
   |(at_builtin;refine wpList_append_own_at _ rfl _ _ 28 rfl base 5 i0 (.int .u8 0) 1 1 underlying28 hi hz0 hz1 hz2 rfl (by decide) _ _ _ rfl (HO.out.1.1.alloc _) ⟨W.heap.size,0,none⟩ 1 1 [.int .u8 (bits .or .u8 160 (x:Int))] rfl rfl (qag _ _ _) (fun u hu=>by simp at hu;subst hu;rfl) (by unfold maxLen;omega) (by omega) (by simp;omega) ?_;intro v' w5 hown' hgrow5 hnil5 hat5;have HB:=qaa (qb0 HO.out HV.out hown' hgrow5 hat5);obtain⟨g5,cap5,rfl⟩:=ownsRow_succ hown')
   |(at_builtin;refine wpList_append_own_at _ rfl _ _ 28 rfl base 5 i0 (.int .u8 0) 1 1 underlying28 hi hz0 hz1 hz2 rfl (by decide) _ _ _ rfl (HO.out.1.1.alloc _) ⟨W.heap.size,0,none⟩ 1 1 [.int .u8 (160+(x:Int))] rfl rfl (qag _ _ _) (fun u hu=>by simp at hu;subst hu;rfl) (by unfold maxLen;omega) (by omega) (by simp;omega) ?_;intro v' w5 hown' hgrow5 hnil5 hat5;have HB:Hid (qg2 w5 base e v' (bs++[UInt8.ofNat (160+x)])∧qg5 base e W w5):=qb0 HO.out HV2.out hown' hgrow5 hat5;obtain⟨g5,cap5,rfl⟩:=ownsRow_succ hown'))
  go_ret;rw[hr.out];exact⟨_,rfl,HB.out⟩
 by_cases c1:x≤255
 ·have hr:Hid (qa2 x=217::beF x 1):=by show _=_;unfold qa2;rw[if_neg c0];rw[if_pos c1]
  go_enter func203,ntmps203
  go_wp2_with (first
   |(at_builtin;refine wpList_append_own_at _ rfl _ _ 28 rfl base 5 i0 (.int .u8 0) 1 1 underlying28 hi hz0 hz1 hz2 rfl (by decide) _ _ _ rfl (HO.out.1.1.alloc _) ⟨W.heap.size,0,none⟩ 1 1 [.int .u8 217] rfl rfl (qag _ _ _) (fun u hu=>by simp at hu;subst hu;rfl) (by unfold maxLen;omega) (by omega) (by simp;omega) ?_;intro v' w5 hown' hgrow5 hnil5 hat5;have HB:Hid (qg2 w5 base e v' (bs++[217])∧qg5 base e W w5):=qb0 HO.out rfl hown' hgrow5 hat5;obtain⟨g5,cap5,rfl⟩:=ownsRow_succ hown')
   |(go_at_call 202;refine(qbT _ base e _ _ x 1 (by omega) (by omega) (by simp;omega) HB.out.1).mono ?_;rintro r w6 ⟨v6,rfl,h6,hB6⟩;obtain⟨a6,n6,c6,rfl⟩:=h6.1.2.2;have HC:=qaa (qdv HB.out h6 hB6 (hr.out.symm))))
  go_ret;exact⟨_,rfl,HC.out⟩
 by_cases c2:x≤65535
 ·have hr:Hid (qa2 x=218::beF x 2):=by show _=_;unfold qa2;rw[if_neg c0];rw[if_neg c1];rw[if_pos c2]
  go_enter func203,ntmps203
  go_wp2_with (first
   |(at_builtin;refine wpList_append_own_at _ rfl _ _ 28 rfl base 5 i0 (.int .u8 0) 1 1 underlying28 hi hz0 hz1 hz2 rfl (by decide) _ _ _ rfl (HO.out.1.1.alloc _) ⟨W.heap.size,0,none⟩ 1 1 [.int .u8 218] rfl rfl (qag _ _ _) (fun u hu=>by simp at hu;subst hu;rfl) (by unfold maxLen;omega) (by omega) (by simp;omega) ?_;intro v' w5 hown' hgrow5 hnil5 hat5;have HB:Hid (qg2 w5 base e v' (bs++[218])∧qg5 base e W w5):=qb0 HO.out rfl hown' hgrow5 hat5;obtain⟨g5,cap5,rfl⟩:=ownsRow_succ hown')
   |(go_at_call 202;refine(qbT _ base e _ _ x 2 (by omega) (by omega) (by simp;omega) HB.out.1).mono ?_;rintro r w6 ⟨v6,rfl,h6,hB6⟩;obtain⟨a6,n6,c6,rfl⟩:=h6.1.2.2;have HC:=qaa (qdv HB.out h6 hB6 (hr.out.symm))))
  go_ret;exact⟨_,rfl,HC.out⟩
 have hr:Hid (qa2 x=219::beF x 4):=by show _=_;unfold qa2;rw[if_neg c0];rw[if_neg c1];rw[if_neg c2]
 go_enter func203,ntmps203
 go_wp2_with (first
  |(at_builtin;refine wpList_append_own_at _ rfl _ _ 28 rfl base 5 i0 (.int .u8 0) 1 1 underlying28 hi hz0 hz1 hz2 rfl (by decide) _ _ _ rfl (HO.out.1.1.alloc _) ⟨W.heap.size,0,none⟩ 1 1 [.int .u8 219] rfl rfl (qag _ _ _) (fun u hu=>by simp at hu;subst hu;rfl) (by unfold maxLen;omega) (by omega) (by simp;omega) ?_;intro v' w5 hown' hgrow5 hnil5 hat5;have HB:Hid (qg2 w5 base e v' (bs++[219])∧qg5 base e W w5):=qb0 HO.out rfl hown' hgrow5 hat5;obtain⟨g5,cap5,rfl⟩:=ownsRow_succ hown')
  |(go_at_call 202;refine(qbT _ base e _ _ x 4 (by omega) (by omega) (by simp;omega) HB.out.1).mono ?_;rintro r w6 ⟨v6,rfl,h6,hB6⟩;obtain⟨a6,n6,c6,rfl⟩:=h6.1.2.2;have HC:=qaa (qdv HB.out h6 hB6 (hr.out.symm))))
 go_ret;exact⟨_,rfl,HC.out⟩
theorem qun (W:World)(base e:Nat)(v:Value)(bs:List UInt8)(x:Nat)(hx:x<4294967296)(hl:bs.length≤999999999)(h:qg2 W base e v bs):Calls prog 163 #[v,.int .u8 3,.int .u64 x] W fun r W'=>∃v',r=.returned v'∧qg2 W' base e v' (bs++qaj 3 x)∧qg5 base e W W':=by
 obtain⟨i0,hi,hz0,hz1,hz2⟩:=info_parts Tryz.infoU8;have hb:=h.1.2.1;obtain⟨a,n,c,rfl⟩:=h.1.2.2;have HO:=qaa h;by_cases c0:x<24
 ·have hr:Hid (qaj 3 x=[UInt8.ofNat (96+x)]):=by show _=_;unfold qaj;rw[if_pos c0]
  have hor:=qon ⟨x,c0⟩;simp only[] at hor;have HV:Hid (qav (UInt8.ofNat (96+x))=.int .u8 (bits .or .u8 96 (x:Int))):=by show _=_;rw[hor,qaQ _ (by omega)]
  have HV2:Hid (qav (UInt8.ofNat (96+x))=.int .u8 (96+(x:Int))):=by show _=_;rw[qaQ _ (by omega)];simp
  go_enter func163,ntmps163
  go_wp2_with (first
   |(at_builtin;refine wpList_append_own_at _ rfl _ _ 28 rfl base 5 i0 (.int .u8 0) 1 1 underlying28 hi hz0 hz1 hz2 rfl (by decide) _ _ _ rfl (HO.out.1.1.alloc _) ⟨W.heap.size,0,none⟩ 1 1 [.int .u8 (bits .or .u8 96 (x:Int))] rfl rfl (qag _ _ _) (fun u hu=>by simp at hu;subst hu;rfl) (by unfold maxLen;omega) (by omega) (by simp;omega) ?_;intro v' w5 hown' hgrow5 hnil5 hat5;have HB:=qaa (qb0 HO.out HV.out hown' hgrow5 hat5);obtain⟨g5,cap5,rfl⟩:=ownsRow_succ hown')
   |(at_builtin;refine wpList_append_own_at _ rfl _ _ 28 rfl base 5 i0 (.int .u8 0) 1 1 underlying28 hi hz0 hz1 hz2 rfl (by decide) _ _ _ rfl (HO.out.1.1.alloc _) ⟨W.heap.size,0,none⟩ 1 1 [.int .u8 (96+(x:Int))] rfl rfl (qag _ _ _) (fun u hu=>by simp at hu;subst hu;rfl) (by unfold maxLen;omega) (by omega) (by simp;omega) ?_;intro v' w5 hown' hgrow5 hnil5 hat5;have HB:Hid (qg2 w5 base e v' (bs++[UInt8.ofNat (96+x)])∧qg5 base e W w5):=qb0 HO.out HV2.out hown' hgrow5 hat5;obtain⟨g5,cap5,rfl⟩:=ownsRow_succ hown'))
  go_ret;rw[hr.out];exact⟨_,rfl,HB.out⟩
 by_cases c1:x≤255
 ·have hr:Hid (qaj 3 x=120::beF x 1):=by show _=_;unfold qaj;rw[if_neg c0];rw[if_pos c1];rfl
  go_enter func163,ntmps163
  go_wp2_with (first
   |(at_builtin;refine wpList_append_own_at _ rfl _ _ 28 rfl base 5 i0 (.int .u8 0) 1 1 underlying28 hi hz0 hz1 hz2 rfl (by decide) _ _ _ rfl (HO.out.1.1.alloc _) ⟨W.heap.size,0,none⟩ 1 1 [.int .u8 120] rfl rfl (qag _ _ _) (fun u hu=>by simp at hu;subst hu;rfl) (by unfold maxLen;omega) (by omega) (by simp;omega) ?_;intro v' w5 hown' hgrow5 hnil5 hat5;have HB:Hid (qg2 w5 base e v' (bs++[120])∧qg5 base e W w5):=qb0 HO.out rfl hown' hgrow5 hat5;obtain⟨g5,cap5,rfl⟩:=ownsRow_succ hown')
   |(go_at_call 202;refine(qbT _ base e _ _ x 1 (by omega) (by omega) (by simp;omega) HB.out.1).mono ?_;rintro r w6 ⟨v6,rfl,h6,hB6⟩;obtain⟨a6,n6,c6,rfl⟩:=h6.1.2.2;have HC:=qaa (qdv HB.out h6 hB6 (hr.out.symm))))
  go_ret;exact⟨_,rfl,HC.out⟩
 by_cases c2:x≤65535
 ·have hr:Hid (qaj 3 x=121::beF x 2):=by show _=_;unfold qaj;rw[if_neg c0];rw[if_neg c1];rw[if_pos c2];rfl
  go_enter func163,ntmps163
  go_wp2_with (first
   |(at_builtin;refine wpList_append_own_at _ rfl _ _ 28 rfl base 5 i0 (.int .u8 0) 1 1 underlying28 hi hz0 hz1 hz2 rfl (by decide) _ _ _ rfl (HO.out.1.1.alloc _) ⟨W.heap.size,0,none⟩ 1 1 [.int .u8 121] rfl rfl (qag _ _ _) (fun u hu=>by simp at hu;subst hu;rfl) (by unfold maxLen;omega) (by omega) (by simp;omega) ?_;intro v' w5 hown' hgrow5 hnil5 hat5;have HB:Hid (qg2 w5 base e v' (bs++[121])∧qg5 base e W w5):=qb0 HO.out rfl hown' hgrow5 hat5;obtain⟨g5,cap5,rfl⟩:=ownsRow_succ hown')
   |(go_at_call 202;refine(qbT _ base e _ _ x 2 (by omega) (by omega) (by simp;omega) HB.out.1).mono ?_;rintro r w6 ⟨v6,rfl,h6,hB6⟩;obtain⟨a6,n6,c6,rfl⟩:=h6.1.2.2;have HC:=qaa (qdv HB.out h6 hB6 (hr.out.symm))))
  go_ret;exact⟨_,rfl,HC.out⟩
 have hr:Hid (qaj 3 x=122::beF x 4):=by show _=_;unfold qaj;rw[if_neg c0];rw[if_neg c1];rw[if_neg c2];rw[if_pos (by omega)];rfl
 go_enter func163,ntmps163
 go_wp2_with (first
  |(at_builtin;refine wpList_append_own_at _ rfl _ _ 28 rfl base 5 i0 (.int .u8 0) 1 1 underlying28 hi hz0 hz1 hz2 rfl (by decide) _ _ _ rfl (HO.out.1.1.alloc _) ⟨W.heap.size,0,none⟩ 1 1 [.int .u8 122] rfl rfl (qag _ _ _) (fun u hu=>by simp at hu;subst hu;rfl) (by unfold maxLen;omega) (by omega) (by simp;omega) ?_;intro v' w5 hown' hgrow5 hnil5 hat5;have HB:Hid (qg2 w5 base e v' (bs++[122])∧qg5 base e W w5):=qb0 HO.out rfl hown' hgrow5 hat5;obtain⟨g5,cap5,rfl⟩:=ownsRow_succ hown')
  |(go_at_call 202;refine(qbT _ base e _ _ x 4 (by omega) (by omega) (by simp;omega) HB.out.1).mono ?_;rintro r w6 ⟨v6,rfl,h6,hB6⟩;obtain⟨a6,n6,c6,rfl⟩:=h6.1.2.2;have HC:=qaa (qdv HB.out h6 hB6 (hr.out.symm))))
 go_ret;exact⟨_,rfl,HC.out⟩
theorem qoT (W:World)(base e:Nat)(v:Value)(bs l:List UInt8)(hl:bs.length≤999999999)(hl2:l.length≤999999999)(h:qg2 W base e v bs):Calls prog 164 #[v,.string ⟨l.toArray⟩] W fun r W'=>∃v',r=.returned v'∧Own W' base v' (bs++(qaj 3 l.length++l))∧qg5 base e W W':=by
 obtain⟨i0,hi,hz0,hz1,hz2⟩:=info_parts Tryz.infoU8;have cH:=qun W base e v bs l.length (by omega) hl h;have hcl:(qaj 3 l.length).length≤9:=by
  unfold qaj;have hb:∀x k,(beF x k).length=k:=fun x k=>by induction k with|zero=>rfl|succ k ih=>rw[beF,List.length_cons,ih]
  repeat' split
  all_goals simp[hb]
 have hsz:(⟨l.toArray⟩:ByteArray).size=l.length:=List.size_toArray ..;obtain⟨a,n,c,rfl⟩:=h.1.2.2;go_enter func164,ntmps164
 go_wp2_with (first
  |(go_at_call 163;refine cH.mono ?_;rintro r w2 ⟨v2,rfl,h2,hB2⟩;obtain⟨a2,n2,c2,rfl⟩:=h2.1.2.2;have HO2:=qaa h2;have HB2:=qaa hB2)
  |(at_builtin;refine wpList_append_own_string _ rfl _ _ 28 9 rfl base 5 i0 underlying28 underlying9 hi hz0 hz1 hz2 _ _ _ rfl HO2.out.1.1 ⟨l.toArray⟩ rfl (by rw[hsz,List.length_append];unfold maxLen;omega) (by rw[hsz,List.length_append];omega) HO2.out.1.2.1 ?_;intro v' w5 hown' hgrow5 hnil5;have HN:Hid ((Own w5 base v' ((bs++qaj 3 l.length)++l)∧Below base w2 w5)∧w5.heap[e]? = w2.heap[e]?):=⟨qaL HO2.out.1 hown' hgrow5,hgrow5.block e HO2.out.2.2 (fun x=>HO2.out.2.1 x.symm)⟩))
 go_ret;rw[List.append_assoc] at HN;exact⟨_,rfl,HN.out.1.1,HB2.out.trans ⟨HN.out.1.2,HN.out.2⟩⟩
theorem qou (W:World)(base e:Nat)(v:Value)(bs l:List UInt8)(hl:bs.length≤999999999)(hl2:l.length≤999999999)(h:qg2 W base e v bs):Calls prog 167 #[v,.string ⟨l.toArray⟩] W fun r W'=>∃v',r=.returned v'∧Own W' base v' (bs++(qa2 l.length++l))∧qg5 base e W W':=by
 obtain⟨i0,hi,hz0,hz1,hz2⟩:=info_parts Tryz.infoU8;have cH:=quA W base e v bs l.length (by omega) hl h;have hcl:(qa2 l.length).length≤9:=by
  unfold qa2;have hb:∀x k,(beF x k).length=k:=fun x k=>by induction k with|zero=>rfl|succ k ih=>rw[beF,List.length_cons,ih]
  repeat' split
  all_goals simp[hb]
 have hsz:(⟨l.toArray⟩:ByteArray).size=l.length:=List.size_toArray ..;obtain⟨a,n,c,rfl⟩:=h.1.2.2;go_enter func167,ntmps167
 go_wp2_with (first
  |(go_at_call 203;refine cH.mono ?_;rintro r w2 ⟨v2,rfl,h2,hB2⟩;obtain⟨a2,n2,c2,rfl⟩:=h2.1.2.2;have HO2:=qaa h2;have HB2:=qaa hB2)
  |(at_builtin;refine wpList_append_own_string _ rfl _ _ 28 9 rfl base 5 i0 underlying28 underlying9 hi hz0 hz1 hz2 _ _ _ rfl HO2.out.1.1 ⟨l.toArray⟩ rfl (by rw[hsz,List.length_append];unfold maxLen;omega) (by rw[hsz,List.length_append];omega) HO2.out.1.2.1 ?_;intro v' w5 hown' hgrow5 hnil5;have HN:Hid ((Own w5 base v' ((bs++qa2 l.length)++l)∧Below base w2 w5)∧w5.heap[e]? = w2.heap[e]?):=⟨qaL HO2.out.1 hown' hgrow5,hgrow5.block e HO2.out.2.2 (fun x=>HO2.out.2.1 x.symm)⟩))
 go_ret;rw[List.append_assoc] at HN;exact⟨_,rfl,HN.out.1.1,HB2.out.trans ⟨HN.out.1.2,HN.out.2⟩⟩
def qb7:Lit→List UInt8
 |.string l=>l
 |_=>[]
theorem qvX (h:Own W base v bs):v.ownBlock≠some W.heap.size:=by
 obtain⟨ho,_,_⟩:=h;rcases ho.2 with ⟨rfl,_⟩|⟨g,cap,cur,rfl,_,hg,_⟩
 ·intro e;cases e
 have:=ltA hg;intro e;simp[Value.ownBlock] at e;omega
theorem qkc (h:Own W base v bs)(o:Obj):qg2 (W.alloc o) base W.heap.size v bs:=⟨⟨h.1.alloc _,by have:=h.2.1;simp;omega,h.2.2⟩,qvX h,by simp⟩
theorem quo (T:DataW Unit→List UInt8)(W:World)(base:Nat)(v u:Value)(F:Nat→Prop)(hF:∀k,F k→k<base)(bs:List UInt8)(es:List (Lit×DataW Unit))(xs:List Value)(hl:bs.length+((qaj 5 es.length)++es.flatMap (fun e:Lit×DataW Unit=>(qaj 3 (qb7 e.1).length++qb7 e.1)++T e.2)).length≤999999999)(hn:es.length≤999999999)(hu:qb1 W 208 2 F u es.length xs)(hit:∀(i:Nat) (key:Lit) (d:DataW Unit),es[i]? = some (key,d)→∃l t y,key=.string l∧xs[2*i]? = some (.string ⟨l.toArray⟩)∧xs[2*i+1]? = some (.iface t y)∧qbQ W base (.iface t y) (T d))(h:Own W base v bs):Calls prog 110 #[v,.iface 206 u] W fun e W'=>∃v',e=.returned v'∧Own W' base v' (bs++(qaj 5 es.length++es.flatMap (fun e:Lit×DataW Unit=>(qaj 3 (qb7 e.1).length++qb7 e.1)++T e.2)))∧Below base W W':=by
 have hl1:bs.length≤999999999:=by omega
 obtain⟨a,n,c,rfl⟩:=h.2.2;have cH:Calls prog 163 #[.slice a n c,.int .u8 5,.int .u64 es.length] W fun e W'=>∃v',e=.returned v'∧Own W' base v' (bs++qaj 5 es.length)∧Below base W W':=qbl W base (.slice a n c) bs 5 es.length (by decide) (by omega) hl1 h;obtain⟨q,cap,rfl⟩:∃q cap,u=.slice q es.length cap:=by
  rcases hu.2 with ⟨e,e2⟩|⟨g,cap,cur,e,_⟩
  ·exact⟨none,0,by rw[e,e2]⟩
  exact⟨_,_,e⟩
 have HU:=qaa hu;have HI:=qaa hit;obtain⟨KF,HK⟩:∃KF:Lit×DataW Unit→List UInt8,Hid (KF=(fun e:Lit×DataW Unit=>(qaj 3 (qb7 e.1).length++qb7 e.1)++T e.2)):=⟨_,show _=_ from rfl⟩
 rw[←HK.out] at hl ⊢;have HL:=qaa hl;have ta0:=qeD q es.length cap;have ta1:=qdR q es.length cap;have ta2:=qf7 q es.length cap;have ta3:=qhd q es.length cap;have ta4:=qfH q es.length cap;have ta5:=qhO q es.length cap;go_enter func110,ntmps110
 go_wp2_with (first
  |(go_at_call 163;refine cH.mono ?_;rintro e w2 ⟨v2,rfl,h2,hB2⟩;obtain⟨o2,b2,a2,n2,c2,rfl⟩:=h2;have HO2:Hid (Own w2 base (.slice a2 n2 c2) (bs++qaj 5 es.length)):=⟨o2,b2,_,_,_,rfl⟩;have HB2:=qaa hB2))
 go_loopg [0,83,14] es.length (fun g y z x wr=>∃(k:Nat) (a3:Option Addr) (n3 c3:Nat),y=.slice a3 n3 c3∧z=.int .i64 k∧Hid (k+g=es.length)∧Hid (Own wr base (.slice a3 n3 c3) ((bs++qaj 5 es.length)++(es.take k).flatMap KF))∧Hid (Below base W wr))
 case atStart=>exact⟨0,a2,n2,c2,rfl,rfl,by show _=_;omega,by simpa using HO2,HB2⟩
 case round =>
  obtain⟨k,a3,n3,c3,rfl,rfl,hk,HO3,HB3⟩:=hrel
  cases gk with
  |zero =>
   have hlt:¬(k:Int)<es.length:=by have:=hk.out;omega
   have HT:Hid (es.take k=es):=by show _=_;exact List.take_of_length_le (by have:=hk.out;omega)
   go_wp2;go_ret;have h3:=HO3.out;rw[HT.out,List.append_assoc] at h3;exact⟨_,rfl,h3,HB3.out⟩
  |succ g =>
   have hkn:k<es.length:=by have:=hk.out;omega
   have hlt:(k:Int)<es.length:=by omega
   have HR:=HU.out.same (V':=wr) (G:=F) (fun _ h=>h) (fun j hj=>HB3.out.block j (hF j hj));obtain⟨q0,rfl⟩:∃q0,q=some ⟨q0,0,none⟩:=by
    rcases HR.2 with ⟨_,e⟩|⟨g,cap',cur,e,_⟩
    ·omega
    injection e with e1 e2 e3;exact⟨g,e1⟩
   obtain⟨⟨key,d⟩,hd⟩:∃d,es[k]? = some d:=⟨es[k],List.getElem?_eq_getElem hkn⟩
   obtain⟨l,tx,yx,rfl,hx0,hx1,hI⟩:=HI.out k key d hd;have hc0:wr.cell? ⟨q0,k*2,none⟩=some (.string ⟨l.toArray⟩):=by
    have:=HR.cell (2*k) _ hx0;have e:(⟨q0,0,none⟩:Addr).add (2*k)=⟨q0,k*2,none⟩:=by by_cases h:2*k=0<;>simp only[Addr.add,h,Nat.zero_add,Nat.mul_comm k 2,if_true,if_false]
    rwa [e] at this
   have hc1:wr.cell? ⟨q0,k*2+1,none⟩=some (.iface tx yx):=by
    have:=HR.cell (2*k+1) _ hx1;have e:(⟨q0,0,none⟩:Addr).add (2*k+1)=⟨q0,k*2+1,none⟩:=by simp[Addr.add,Nat.mul_comm]
    rwa [e] at this
   have HT:Hid ((es.take (k+1)).flatMap KF=(es.take k).flatMap KF++((qaj 3 l.length++l)++T d)):=by
    show _=_;rw[List.take_add_one,hd,HK.out];simp[qb7]
   have HB:Hid (((bs++qaj 5 es.length)++(es.take k).flatMap KF).length+((qaj 3 l.length++l)++T d).length≤999999999):=by
    show _≤_;have h1:=HL.out;have h2:(es.flatMap KF).length=((es.take (k+1)).flatMap KF).length+((es.drop (k+1)).flatMap KF).length:=by
     rw[←List.length_append,←List.flatMap_append,List.take_append_drop]
    rw[HT.out] at h2;simp only[List.length_append] at h1 h2 ⊢;omega
   have HV:Hid (Below base W (wr.alloc (.cells #[.string ⟨l.toArray⟩,.iface tx yx] 208))):=HB3.out.trans ((Below.refl base wr).alloc HO3.out.2.1 _);have cT:=qoT _ base wr.heap.size _ _ l (by have:=HB.out;omega) (by have:=HB.out;simp only[List.length_append] at this;omega) (qkc HO3.out (.cells #[.string ⟨l.toArray⟩,.iface tx yx] 208));have HX:Hid ((wr.alloc (.cells #[.string ⟨l.toArray⟩,.iface tx yx] 208)).heap[wr.heap.size]? = some (.cells #[.string ⟨l.toArray⟩,.iface tx yx] 208)):=qac _ _;have HJ:=qaa hI
   go_wp2_with (first
    |(go_at_call 164;refine cT.mono ?_;rintro e w4 ⟨v4,rfl,h4,hB4⟩;obtain⟨o4,b4,a4,n4,c4,rfl⟩:=h4;have HO4:Hid (Own w4 base (.slice a4 n4 c4) (((bs++qaj 5 es.length)++(es.take k).flatMap KF)++(qaj 3 l.length++l))):=⟨o4,b4,_,_,_,rfl⟩;have HB4:=qaa (HV.out.trans hB4.1);have hf0:=qab (hB4.2.trans HX.out) 0;have hf1:=qab (hB4.2.trans HX.out) 1)
    |(go_at_call 110;refine(HJ.out w4 _ _ HB4.out HO4.out (by have:=HB.out;simp only[List.length_append] at this ⊢;omega)).mono ?_;rintro e w5 ⟨v5,rfl,h5,hB5⟩;obtain⟨o5,b5,a5,n5,c5,rfl⟩:=h5;have HO5:Hid (Own w5 base (.slice a5 n5 c5) ((((bs++qaj 5 es.length)++(es.take k).flatMap KF)++(qaj 3 l.length++l))++T d)):=⟨o5,b5,_,_,_,rfl⟩;have HB5:=qaa (HB4.out.trans hB5)))
   go_roundg g
   case measure=>omega
   case rel=>exact⟨k+1,a5,n5,c5,rfl,by go_num,by show _=_;have:=hk.out;omega,by show Own _ _ _ _;rw[HT.out,←List.append_assoc,←List.append_assoc];exact HO5.out,HB5⟩
theorem qu6 (T:DataW Unit→List UInt8)(W:World)(base:Nat)(v u:Value)(F:Nat→Prop)(hF:∀k,F k→k<base)(bs:List UInt8)(es:List (Lit×DataW Unit))(xs:List Value)(hl:bs.length+((qb2 es.length)++es.flatMap (fun e:Lit×DataW Unit=>(qa2 (qb7 e.1).length++qb7 e.1)++T e.2)).length≤999999999)(hn:es.length≤999999999)(hu:qb1 W 208 2 F u es.length xs)(hit:∀(i:Nat) (key:Lit) (d:DataW Unit),es[i]? = some (key,d)→∃l t y,key=.string l∧xs[2*i]? = some (.string ⟨l.toArray⟩)∧xs[2*i+1]? = some (.iface t y)∧qbS W base (.iface t y) (T d))(h:Own W base v bs):Calls prog 111 #[v,.iface 206 u] W fun e W'=>∃v',e=.returned v'∧Own W' base v' (bs++(qb2 es.length++es.flatMap (fun e:Lit×DataW Unit=>(qa2 (qb7 e.1).length++qb7 e.1)++T e.2)))∧Below base W W':=by
 have hl1:bs.length≤999999999:=by omega
 obtain⟨a,n,c,rfl⟩:=h.2.2;have cH:=qm5 W base (.slice a n c) bs es.length (by omega) hl1 h;obtain⟨q,cap,rfl⟩:∃q cap,u=.slice q es.length cap:=by
  rcases hu.2 with ⟨e,e2⟩|⟨g,cap,cur,e,_⟩
  ·exact⟨none,0,by rw[e,e2]⟩
  exact⟨_,_,e⟩
 have HU:=qaa hu;have HI:=qaa hit;obtain⟨KF,HK⟩:∃KF:Lit×DataW Unit→List UInt8,Hid (KF=(fun e:Lit×DataW Unit=>(qa2 (qb7 e.1).length++qb7 e.1)++T e.2)):=⟨_,show _=_ from rfl⟩
 rw[←HK.out] at hl ⊢;have HL:=qaa hl;have ta0:=qeD q es.length cap;have ta1:=qdR q es.length cap;have ta2:=qf7 q es.length cap;have ta3:=qhd q es.length cap;have ta4:=qfH q es.length cap;have ta5:=qhO q es.length cap;go_enter func111,ntmps111
 go_wp2_with (first
  |(go_at_call 169;refine cH.mono ?_;rintro e w2 ⟨v2,rfl,h2,hB2⟩;obtain⟨o2,b2,a2,n2,c2,rfl⟩:=h2;have HO2:Hid (Own w2 base (.slice a2 n2 c2) (bs++qb2 es.length)):=⟨o2,b2,_,_,_,rfl⟩;have HB2:=qaa hB2))
 go_loopg [0,83,14] es.length (fun g y z x wr=>∃(k:Nat) (a3:Option Addr) (n3 c3:Nat),y=.slice a3 n3 c3∧z=.int .i64 k∧Hid (k+g=es.length)∧Hid (Own wr base (.slice a3 n3 c3) ((bs++qb2 es.length)++(es.take k).flatMap KF))∧Hid (Below base W wr))
 case atStart=>exact⟨0,a2,n2,c2,rfl,rfl,by show _=_;omega,by simpa using HO2,HB2⟩
 case round =>
  obtain⟨k,a3,n3,c3,rfl,rfl,hk,HO3,HB3⟩:=hrel
  cases gk with
  |zero =>
   have hlt:¬(k:Int)<es.length:=by have:=hk.out;omega
   have HT:Hid (es.take k=es):=by show _=_;exact List.take_of_length_le (by have:=hk.out;omega)
   go_wp2;go_ret;have h3:=HO3.out;rw[HT.out,List.append_assoc] at h3;exact⟨_,rfl,h3,HB3.out⟩
  |succ g =>
   have hkn:k<es.length:=by have:=hk.out;omega
   have hlt:(k:Int)<es.length:=by omega
   have HR:=HU.out.same (V':=wr) (G:=F) (fun _ h=>h) (fun j hj=>HB3.out.block j (hF j hj));obtain⟨q0,rfl⟩:∃q0,q=some ⟨q0,0,none⟩:=by
    rcases HR.2 with ⟨_,e⟩|⟨g,cap',cur,e,_⟩
    ·omega
    injection e with e1 e2 e3;exact⟨g,e1⟩
   obtain⟨⟨key,d⟩,hd⟩:∃d,es[k]? = some d:=⟨es[k],List.getElem?_eq_getElem hkn⟩
   obtain⟨l,tx,yx,rfl,hx0,hx1,hI⟩:=HI.out k key d hd;have hc0:wr.cell? ⟨q0,k*2,none⟩=some (.string ⟨l.toArray⟩):=by
    have:=HR.cell (2*k) _ hx0;have e:(⟨q0,0,none⟩:Addr).add (2*k)=⟨q0,k*2,none⟩:=by by_cases h:2*k=0<;>simp only[Addr.add,h,Nat.zero_add,Nat.mul_comm k 2,if_true,if_false]
    rwa [e] at this
   have hc1:wr.cell? ⟨q0,k*2+1,none⟩=some (.iface tx yx):=by
    have:=HR.cell (2*k+1) _ hx1;have e:(⟨q0,0,none⟩:Addr).add (2*k+1)=⟨q0,k*2+1,none⟩:=by simp[Addr.add,Nat.mul_comm]
    rwa [e] at this
   have HT:Hid ((es.take (k+1)).flatMap KF=(es.take k).flatMap KF++((qa2 l.length++l)++T d)):=by
    show _=_;rw[List.take_add_one,hd,HK.out];simp[qb7]
   have HB:Hid (((bs++qb2 es.length)++(es.take k).flatMap KF).length+((qa2 l.length++l)++T d).length≤999999999):=by
    show _≤_;have h1:=HL.out;have h2:(es.flatMap KF).length=((es.take (k+1)).flatMap KF).length+((es.drop (k+1)).flatMap KF).length:=by
     rw[←List.length_append,←List.flatMap_append,List.take_append_drop]
    rw[HT.out] at h2;simp only[List.length_append] at h1 h2 ⊢;omega
   have HV:Hid (Below base W (wr.alloc (.cells #[.string ⟨l.toArray⟩,.iface tx yx] 208))):=HB3.out.trans ((Below.refl base wr).alloc HO3.out.2.1 _);have cT:=qou _ base wr.heap.size _ _ l (by have:=HB.out;omega) (by have:=HB.out;simp only[List.length_append] at this;omega) (qkc HO3.out (.cells #[.string ⟨l.toArray⟩,.iface tx yx] 208));have HX:Hid ((wr.alloc (.cells #[.string ⟨l.toArray⟩,.iface tx yx] 208)).heap[wr.heap.size]? = some (.cells #[.string ⟨l.toArray⟩,.iface tx yx] 208)):=qac _ _;have HJ:=qaa hI
   go_wp2_with (first
    |(go_at_call 167;refine cT.mono ?_;rintro e w4 ⟨v4,rfl,h4,hB4⟩;obtain⟨o4,b4,a4,n4,c4,rfl⟩:=h4;have HO4:Hid (Own w4 base (.slice a4 n4 c4) (((bs++qb2 es.length)++(es.take k).flatMap KF)++(qa2 l.length++l))):=⟨o4,b4,_,_,_,rfl⟩;have HB4:=qaa (HV.out.trans hB4.1);have hf0:=qab (hB4.2.trans HX.out) 0;have hf1:=qab (hB4.2.trans HX.out) 1)
    |(go_at_call 111;refine(HJ.out w4 _ _ HB4.out HO4.out (by have:=HB.out;simp only[List.length_append] at this ⊢;omega)).mono ?_;rintro e w5 ⟨v5,rfl,h5,hB5⟩;obtain⟨o5,b5,a5,n5,c5,rfl⟩:=h5;have HO5:Hid (Own w5 base (.slice a5 n5 c5) ((((bs++qb2 es.length)++(es.take k).flatMap KF)++(qa2 l.length++l))++T d)):=⟨o5,b5,_,_,_,rfl⟩;have HB5:=qaa (HB4.out.trans hB5)))
   go_roundg g
   case measure=>omega
   case rel=>exact⟨k+1,a5,n5,c5,rfl,by go_num,by show _=_;have:=hk.out;omega,by show Own _ _ _ _;rw[HT.out,←List.append_assoc,←List.append_assoc];exact HO5.out,HB5⟩
def wrF (hB hL hM hT:Nat→List UInt8)(nt:Bool→List UInt8)(no:List UInt8)(nm:Int→List UInt8):Nat→DataW Unit→List UInt8
 |0,_=>[]
 |k+1,d=>match d with
  |.nil=>no
  |.lit (.bool b)=>nt b
  |.lit (.int .i64 z)=>nm z
  |.lit (.string l)=>hT l.length++l
  |.ptr (.lit (.string l))=>hB l.length++l
  |.agg ds=>hL ds.length++ds.flatMap (wrF hB hL hM hT nt no nm k)
  |.map es=>hM es.length++es.flatMap fun e=>(hT (qb7 e.1).length++qb7 e.1)++wrF hB hL hM hT nt no nm k e.2
  |_=>[]
def qs1 (b:Bool):List UInt8:=bif b then qaj 7 21 else qaj 7 20
def qsB (b:Bool):List UInt8:=bif b then [195] else [194]
def qaU:Nat→DataW Unit→List UInt8:=wrF (qaj 2) (qaj 4) (qaj 5) (qaj 3) qs1 (qaj 7 22) qhB
def qcV:Nat→DataW Unit→List UInt8:=wrF qb8 qbB qb2 qa2 qsB [192] qid
theorem qeE {α:Type}(f:α→List UInt8):∀(l:List α),(∀a,a∈l→1≤(f a).length)→l.length≤(l.flatMap f).length
 |[],_=>Nat.zero_le _
 |a::l,h=>by
  have h1:=h a (List.mem_cons_self ..);have h2:=qeE f l fun b hb=>h b (List.mem_cons_of_mem _ hb);rw[List.flatMap_cons,List.length_append,List.length_cons];omega
theorem qbn (s x:Nat):1≤(qaj s x).length:=by
 unfold qaj
 repeat' split
 all_goals simp
theorem qpY (z:Int):1≤(qhB z).length:=by
 unfold qhB;split<;>exact qbn _ _
theorem qhn (x:Nat):1≤(qa2 x).length:=by
 unfold qa2
 repeat' split
 all_goals simp
theorem qm1 (x:Nat):1≤(qb8 x).length:=by
 unfold qb8
 repeat' split
 all_goals simp
theorem qmu (x:Nat):1≤(qbB x).length:=by
 unfold qbB
 repeat' split
 all_goals simp
theorem qmM (x:Nat):1≤(qb2 x).length:=by
 unfold qb2
 repeat' split
 all_goals simp
theorem qny (z:Int):1≤(qid z).length:=by
 unfold qid qbo qbf
 repeat' split
 all_goals simp
theorem qod {hB hL hM hT:Nat→List UInt8}{nt:Bool→List UInt8}{no:List UInt8}{nm:Int→List UInt8}(pB:∀x,1≤(hB x).length)(pL:∀x,1≤(hL x).length)(pM:∀x,1≤(hM x).length)(pT:∀x,1≤(hT x).length)(pt:∀b,1≤(nt b).length)(po:1≤no.length)(pn:∀z,1≤(nm z).length):∀{k:Nat} {v:Value} {d:DataW Unit},qai k V F v d→1≤(wrF hB hL hM hT nt no nm k d).length
 |0,_,_,h=>h.elim
 |k+1,v,d,h=>by
  unfold qai at h;unfold wrF;split at h
  ·exact po
  ·exact pt _
  ·exact pn _
  ·rw[List.length_append];exact Nat.le_trans (pT _) (Nat.le_add_right ..)
  ·rw[List.length_append];exact Nat.le_trans (pB _) (Nat.le_add_right ..)
  ·rw[List.length_append];exact Nat.le_trans (pL _) (Nat.le_add_right ..)
  ·rw[List.length_append];exact Nat.le_trans (pM _) (Nat.le_add_right ..)
  exact h.elim
theorem qnG (h:qai k V F v d):1≤(qaU k d).length:=qod (qbn 2) (qbn 4) (qbn 5) (qbn 3) (fun b=>by cases b;exact qbn 7 20;exact qbn 7 21) (qbn _ _) qpY h
theorem qmc:∀(k:Nat) (W:World) (base:Nat) (F:Nat→Prop) (x:Value) (d:DataW Unit),(∀j,F j→j<base)→qai k W F x d→qbQ W base x (qaU k d)
 |0,_,_,_,_,_,_,h=>h.elim
 |k+1,W0,base,F,x,d,hF,h0=>by
  intro W v bs hW hO hl;have h:=h0.same (fun _ h=>h) (fun j hj=>hW.block j (hF j hj));have hl1:bs.length≤999999999:=by omega
  have inner:∀y d',qai k W F y d'→qbQ W base y (qaU k d'):=fun y d' hy=>qmc k W base F y d' hF hy;unfold qai at h;split at h
  ·subst h;exact qkS W base v bs hl1 hO
  ·rename_i b
   subst h;cases b
   ·exact qga W base v bs hl1 hO
   exact qgF W base v bs hl1 hO
  ·obtain⟨rfl,h1,h2⟩:=h;exact qoW W base v bs _ h1 h2 hl1 hO
  ·rename_i l
   subst h;have e:(qaU (k+1) (.lit (.string l))).length=_:=List.length_append;exact qrp W base v bs l hl1 (by omega) hO
  ·rename_i l
   obtain⟨u,rfl,hr⟩:=h;have e:(qaU (k+1) (.ptr (.lit (.string l)))).length=_:=List.length_append;exact qnV W base v u F hF bs l hl1 (by omega) hr hO
  ·rename_i ds
   obtain⟨u,xs,rfl,hr,ha⟩:=h;have hxl:xs.length=ds.length:=by have:=hr.1;omega
   have at_:∀i,i<ds.length→∃x d',xs[i]? = some x∧ds[i]? = some d'∧qai k W F x d':=fun i hi =>
    ⟨_,_,List.getElem?_eq_getElem (by omega),List.getElem?_eq_getElem hi,ha i _ _ (List.getElem?_eq_getElem (by omega)) (List.getElem?_eq_getElem hi)⟩
   have hg:=qeE (qaU k) ds fun d' hd'=>by
    obtain⟨i,hi,rfl⟩:=List.getElem_of_mem hd';obtain⟨x,d2,h1,h2,h3⟩:=at_ i hi;rw[List.getElem?_eq_getElem hi] at h2;injection h2 with h2;rw[h2];exact qnG h3
   have e:(qaU (k+1) (.agg ds)).length=_+(ds.flatMap (qaU k)).length:=List.length_append;exact qqx (qaU k) W base v u F hF bs ds xs hl (by omega) hr (fun i x d' h1 h2=>inner x d' (ha i x d' h1 h2)) (fun i x hx=>by
    obtain⟨x2,d',h1,h2,h3⟩:=at_ i (by have:=ltL hx;omega);rw[hx] at h1;injection h1 with h1;rw[h1];exact h3.iface) hO
  ·rename_i es
   obtain⟨u,xs,rfl,hr,ha⟩:=h;have hg:=qeE (fun e:Lit×DataW Unit=>(qaj 3 (qb7 e.1).length++qb7 e.1)++qaU k e.2) es fun d' hd'=>by
    rw[List.length_append,List.length_append];have:=qbn 3 (qb7 d'.1).length;omega
   have e:(qaU (k+1) (.map es)).length=_+(es.flatMap fun e:Lit×DataW Unit=>(qaj 3 (qb7 e.1).length++qb7 e.1)++qaU k e.2).length:=List.length_append;exact quo (qaU k) W base v u F hF bs es xs hl (by omega) hr (fun i key d' h1=>by
    obtain⟨l,x,e1,e2,e3,e4⟩:=ha i key d' h1;obtain⟨t,y,rfl⟩:=e4.iface;exact⟨l,t,y,e1,e2,e3,inner _ d' e4⟩) hO
  exact h.elim
theorem qo2 (h:qai k V F v d):1≤(qcV k d).length:=qod qm1 qmu qmM qhn (fun b=>by cases b<;>exact Nat.le_refl _) (Nat.le_refl _) qny h
theorem qlW:∀(k:Nat) (W:World) (base:Nat) (F:Nat→Prop) (x:Value) (d:DataW Unit),(∀j,F j→j<base)→qai k W F x d→qbS W base x (qcV k d)
 |0,_,_,_,_,_,_,h=>h.elim
 |k+1,W0,base,F,x,d,hF,h0=>by
  intro W v bs hW hO hl;have h:=h0.same (fun _ h=>h) (fun j hj=>hW.block j (hF j hj));have hl1:bs.length≤999999999:=by omega
  have inner:∀y d',qai k W F y d'→qbS W base y (qcV k d'):=fun y d' hy=>qlW k W base F y d' hF hy;unfold qai at h;split at h
  ·subst h;exact qla W base v bs hl1 hO
  ·rename_i b
   subst h;cases b
   ·exact qfL W base v bs hl1 hO
   exact qgL W base v bs hl1 hO
  ·obtain⟨rfl,h1,h2⟩:=h;exact qo0 W base v bs _ h1 h2 hl1 hO
  ·rename_i l
   subst h;have e:(qcV (k+1) (.lit (.string l))).length=_:=List.length_append;exact qqN W base v bs l hl1 (by omega) hO
  ·rename_i l
   obtain⟨u,rfl,hr⟩:=h;have e:(qcV (k+1) (.ptr (.lit (.string l)))).length=_:=List.length_append;exact qoA W base v u F hF bs l hl1 (by omega) hr hO
  ·rename_i ds
   obtain⟨u,xs,rfl,hr,ha⟩:=h;have hxl:xs.length=ds.length:=by have:=hr.1;omega
   have at_:∀i,i<ds.length→∃x d',xs[i]? = some x∧ds[i]? = some d'∧qai k W F x d':=fun i hi =>
    ⟨_,_,List.getElem?_eq_getElem (by omega),List.getElem?_eq_getElem hi,ha i _ _ (List.getElem?_eq_getElem (by omega)) (List.getElem?_eq_getElem hi)⟩
   have hg:=qeE (qcV k) ds fun d' hd'=>by
    obtain⟨i,hi,rfl⟩:=List.getElem_of_mem hd';obtain⟨x,d2,h1,h2,h3⟩:=at_ i hi;rw[List.getElem?_eq_getElem hi] at h2;injection h2 with h2;rw[h2];exact qo2 h3
   have e:(qcV (k+1) (.agg ds)).length=_+(ds.flatMap (qcV k)).length:=List.length_append;exact qrk (qcV k) W base v u F hF bs ds xs hl (by omega) hr (fun i x d' h1 h2=>inner x d' (ha i x d' h1 h2)) (fun i x hx=>by
    obtain⟨x2,d',h1,h2,h3⟩:=at_ i (by have:=ltL hx;omega);rw[hx] at h1;injection h1 with h1;rw[h1];exact h3.iface) hO
  ·rename_i es
   obtain⟨u,xs,rfl,hr,ha⟩:=h;have hg:=qeE (fun e:Lit×DataW Unit=>(qa2 (qb7 e.1).length++qb7 e.1)++qcV k e.2) es fun d' hd'=>by
    rw[List.length_append,List.length_append];have:=qhn (qb7 d'.1).length;omega
   have e:(qcV (k+1) (.map es)).length=_+(es.flatMap fun e:Lit×DataW Unit=>(qa2 (qb7 e.1).length++qb7 e.1)++qcV k e.2).length:=List.length_append;exact qu6 (qcV k) W base v u F hF bs es xs hl (by omega) hr (fun i key d' h1=>by
    obtain⟨l,x,e1,e2,e3,e4⟩:=ha i key d' h1;obtain⟨t,y,rfl⟩:=e4.iface;exact⟨l,t,y,e1,e2,e3,inner _ d' e4⟩) hO
  exact h.elim
theorem qej (k:Nat)(W:World)(F:Nat→Prop)(x:Value)(d:DataW Unit)(hF:∀j,F j→j<W.heap.size)(h:qai k W F x d)(hl:(qaU k d).length≤999999999):Calls prog 67 #[.int .i64 2,x] W fun e W'=>∃v',e=.returned v'∧Own W' W.heap.size v' (qaU k d)∧Below W.heap.size W W':=by
 have cA:=qmc k W W.heap.size F x d hF h W _ [] bwR (qip W) (by simpa using hl);obtain⟨t,y,rfl⟩:=h.iface;go_enter func67,ntmps67
 go_wp2_with (first
  |(go_at_call 110;refine cA.mono ?_;rintro e w6 ⟨v6,rfl,h6,hB6⟩;obtain⟨h61,h62,a6,n6,c6,rfl⟩:=h6))
 go_ret;exact⟨_,rfl,⟨h61,h62,_,_,_,rfl⟩,hB6⟩
theorem qhC (k:Nat)(W:World)(F:Nat→Prop)(x:Value)(d:DataW Unit)(hF:∀j,F j→j<W.heap.size)(h:qai k W F x d)(hl:(qcV k d).length≤999999999):Calls prog 67 #[.int .i64 3,x] W fun e W'=>∃v',e=.returned v'∧Own W' W.heap.size v' (qcV k d)∧Below W.heap.size W W':=by
 have cA:=qlW k W W.heap.size F x d hF h W _ [] bwR (qip W) (by simpa using hl);obtain⟨t,y,rfl⟩:=h.iface;go_enter func67,ntmps67
 go_wp2_with (first
  |(go_at_call 111;refine cA.mono ?_;rintro e w6 ⟨v6,rfl,h6,hB6⟩;obtain⟨h61,h62,a6,n6,c6,rfl⟩:=h6))
 go_ret;exact⟨_,rfl,⟨h61,h62,_,_,_,rfl⟩,hB6⟩
theorem qex (W:World)(base:Nat)(v:Value)(bs:List UInt8)(hl:bs.length≤999999999)(h:Own W base v bs):Calls prog 199 #[v,.bool true] W fun e W'=>∃v',e=.returned v'∧Own W' base v' (bs++[116,114,117,101])∧Below base W W':=by
 obtain⟨i0,hi,hz0,hz1,hz2⟩:=info_parts Tryz.infoU8;obtain⟨a,n,c,rfl⟩:=h.2.2;have HO:=qaa h;have hsz:(⟨([116,114,117,101]:List UInt8).toArray⟩:ByteArray).size=4:=rfl;go_enter func199,ntmps199
 go_wp2_with (first
  |(at_builtin;refine wpList_append_own_string _ rfl _ _ 28 9 rfl base 5 i0 underlying28 underlying9 hi hz0 hz1 hz2 _ _ _ rfl HO.out.1 ⟨[116,114,117,101].toArray⟩ rfl (by rw[hsz];unfold maxLen;omega) (by rw[hsz];omega) HO.out.2.1 ?_;intro v' w5 hown' hgrow5 hnil5;have HN:=qaa (qaL HO.out hown' hgrow5)))
 go_ret;exact⟨_,rfl,HN.out⟩
theorem qee (W:World)(base:Nat)(v:Value)(bs:List UInt8)(hl:bs.length≤999999999)(h:Own W base v bs):Calls prog 199 #[v,.bool false] W fun e W'=>∃v',e=.returned v'∧Own W' base v' (bs++[102,97,108,115,101])∧Below base W W':=by
 obtain⟨i0,hi,hz0,hz1,hz2⟩:=info_parts Tryz.infoU8;obtain⟨a,n,c,rfl⟩:=h.2.2;have HO:=qaa h;have hsz:(⟨([102,97,108,115,101]:List UInt8).toArray⟩:ByteArray).size=5:=rfl;go_enter func199,ntmps199
 go_wp2_with (first
  |(at_builtin;refine wpList_append_own_string _ rfl _ _ 28 9 rfl base 5 i0 underlying28 underlying9 hi hz0 hz1 hz2 _ _ _ rfl HO.out.1 ⟨[102,97,108,115,101].toArray⟩ rfl (by rw[hsz];unfold maxLen;omega) (by rw[hsz];omega) HO.out.2.1 ?_;intro v' w5 hown' hgrow5 hnil5;have HN:=qaa (qaL HO.out hown' hgrow5)))
 go_ret;exact⟨_,rfl,HN.out⟩
theorem qfI (W:World)(base:Nat)(v:Value)(bs:List UInt8)(hl:bs.length≤999999999)(h:Own W base v bs):Calls prog 158 #[v,.bool true] W fun e W'=>∃v',e=.returned v'∧Own W' base v' (bs++[116,114,117,101])∧Below base W W':=by
 have cA:=qex W base v bs hl h;obtain⟨a,n,c,rfl⟩:=h.2.2;go_enter func158,ntmps158
 go_wp2_with (first
  |(go_at_call 199;refine cA.mono ?_;rintro e w6 ⟨v6,rfl,h6,hB6⟩;obtain⟨h61,h62,a6,n6,c6,rfl⟩:=h6))
 go_ret;exact⟨_,rfl,⟨h61,h62,_,_,_,rfl⟩,hB6⟩
theorem qfj (W:World)(base:Nat)(v:Value)(bs:List UInt8)(hl:bs.length≤999999999)(h:Own W base v bs):Calls prog 158 #[v,.bool false] W fun e W'=>∃v',e=.returned v'∧Own W' base v' (bs++[102,97,108,115,101])∧Below base W W':=by
 have cA:=qee W base v bs hl h;obtain⟨a,n,c,rfl⟩:=h.2.2;go_enter func158,ntmps158
 go_wp2_with (first
  |(go_at_call 199;refine cA.mono ?_;rintro e w6 ⟨v6,rfl,h6,hB6⟩;obtain⟨h61,h62,a6,n6,c6,rfl⟩:=h6))
 go_ret;exact⟨_,rfl,⟨h61,h62,_,_,_,rfl⟩,hB6⟩
theorem qk9 (W:World)(base:Nat)(v:Value)(bs:List UInt8)(hl:bs.length≤999999999)(h:Own W base v bs):Calls prog 109 #[v,.iface 247 (.agg #[])] W fun e W'=>∃v',e=.returned v'∧Own W' base v' (bs++[110,117,108,108])∧Below base W W':=by
 obtain⟨i0,hi,hz0,hz1,hz2⟩:=info_parts Tryz.infoU8;obtain⟨a,n,c,rfl⟩:=h.2.2;have HO:=qaa h;have ta0:=qcx;have ta1:=qcf;have ta2:=qcN;have ta3:=qcO;have ta4:=qdq;have hsz:(⟨([110,117,108,108]:List UInt8).toArray⟩:ByteArray).size=4:=rfl;go_enter func109,ntmps109
 go_wp2_with (first
  |(at_builtin;refine wpList_append_own_string _ rfl _ _ 28 9 rfl base 5 i0 underlying28 underlying9 hi hz0 hz1 hz2 _ _ _ rfl HO.out.1 ⟨[110,117,108,108].toArray⟩ rfl (by rw[hsz];unfold maxLen;omega) (by rw[hsz];omega) HO.out.2.1 ?_;intro v' w5 hown' hgrow5 hnil5;have HN:=qaa (qaL HO.out hown' hgrow5)))
 go_ret;exact⟨_,rfl,HN.out⟩
theorem qgO (W:World)(base:Nat)(v:Value)(bs:List UInt8)(hl:bs.length≤999999999)(h:Own W base v bs):Calls prog 109 #[v,.iface 277 (.bool true)] W fun e W'=>∃v',e=.returned v'∧Own W' base v' (bs++[116,114,117,101])∧Below base W W':=by
 have cA:=qfI W base v bs hl h;obtain⟨a,n,c,rfl⟩:=h.2.2;have ta0:=qbu true;go_enter func109,ntmps109
 go_wp2_with (first
  |(go_at_call 158;refine cA.mono ?_;rintro e w6 ⟨v6,rfl,h6,hB6⟩;obtain⟨h61,h62,a6,n6,c6,rfl⟩:=h6))
 go_ret;exact⟨_,rfl,⟨h61,h62,_,_,_,rfl⟩,hB6⟩
theorem qf9 (W:World)(base:Nat)(v:Value)(bs:List UInt8)(hl:bs.length≤999999999)(h:Own W base v bs):Calls prog 109 #[v,.iface 277 (.bool false)] W fun e W'=>∃v',e=.returned v'∧Own W' base v' (bs++[102,97,108,115,101])∧Below base W W':=by
 have cA:=qfj W base v bs hl h;obtain⟨a,n,c,rfl⟩:=h.2.2;have ta0:=qbu false;go_enter func109,ntmps109
 go_wp2_with (first
  |(go_at_call 158;refine cA.mono ?_;rintro e w6 ⟨v6,rfl,h6,hB6⟩;obtain⟨h61,h62,a6,n6,c6,rfl⟩:=h6))
 go_ret;exact⟨_,rfl,⟨h61,h62,_,_,_,rfl⟩,hB6⟩
def szF:Nat→DataW Unit→Nat
 |0,_=>0
 |k+1,d=>match d with
  |.agg ds=>200+(ds.map fun d=>30+szF k d).sum
  |.map es=>200+(es.map fun e=>100+6*(qb7 e.1).length+szF k e.2).sum
  |.lit (.string l)=>200+6*l.length
  |.ptr (.lit (.string l))=>200+6*l.length
  |_=>200
def SzT (p:Nat)(d:DataW Unit)(q:Nat):Prop:=∀k,szF k d+30+400*p≤400*q
def sqL (k:Nat)(ds:List (DataW Unit)):Nat:=(ds.map fun d=>30+szF k d).sum
def sqE (k:Nat)(es:List (Lit×DataW Unit)):Nat:=(es.map fun e=>100+6*(qb7 e.1).length+szF k e.2).sum
theorem qiB (k:Nat)(ds:List (DataW Unit))(d:DataW Unit):sqL k (ds++[d])=sqL k ds+(30+szF k d):=by unfold sqL;simp
theorem ql1 (k:Nat)(es:List (Lit×DataW Unit))(l:List UInt8)(d:DataW Unit):sqE k (es++[(.string l,d)])=sqE k es+(100+6*l.length+szF k d):=by unfold sqE;simp[qb7]
def Gth {α:Type}(μ:Nat→α→Nat)(a:α)(p:Nat)(b:α)(q:Nat):Prop:=∀k,μ k b+400*p≤μ k a+400*q
theorem qct (h:∀k,szF (k+1) d=200)(hq:p<q):SzT p d q:=fun k=>by
 cases k with
 |zero=>show 0+30+_≤_;omega
 |succ k=>rw[h k];omega
theorem qoO (hq:l.length+4*(p+1)≤4*q):SzT p (.lit (.string l)) q:=fun k=>by
 cases k with
 |zero=>show 0+30+_≤_;omega
 |succ k=>show 200+6*l.length+30+_≤_;omega
theorem qrF (hq:l.length+4*(p+1)≤4*q):SzT p (.ptr (.lit (.string l))) q:=fun k=>by
 cases k with
 |zero=>show 0+30+_≤_;omega
 |succ k=>show 200+6*l.length+30+_≤_;omega
theorem qnC {ds:List (DataW Unit)}(hr:p<r)(hq:r≤q)(h:Gth sqL [] r ds q):SzT p (.agg ds) q:=fun k=>by
 cases k with
 |zero=>show 0+30+_≤_;omega
 |succ k =>
  have:=h k;show 200+sqL k ds+30+_≤_;have e:sqL k []=0:=rfl;omega
theorem qsq {es:List (Lit×DataW Unit)}(hr:p<r)(hq:r≤q)(h:Gth sqE [] r es q):SzT p (.map es) q:=fun k=>by
 cases k with
 |zero=>show 0+30+_≤_;omega
 |succ k =>
  have:=h k;show 200+sqE k es+30+_≤_;have e:sqE k []=0:=rfl;omega
end
section
open Go.RowKit
def fnL (ks:List (List UInt8)):Lit→Option Nat
 |.string b=>if b∈ks then some (2+ks.idxOf b) else none
 |_=>none
def qhw (ks:List (List UInt8))(s:Nat×List UInt8):List (List UInt8):=if s.1=3∧s.2∉ks then ks++[s.2] else ks
def qsz (ks:List (List UInt8))(r:List (Nat×List UInt8)×Int×Int):List (List UInt8):=r.1.foldl qhw ks
def qcl (rs:List (List (Nat×List UInt8)×Int×Int)):List (List UInt8):=rs.foldl qsz []
def q0 (ra:Option Addr)(rc:Nat)(rs:List (List (Nat×List UInt8)×Int×Int))(dflt:Int)(lm nb mb:Nat):Aut :=
 {ra:=ra,rc:=rc,rs:=rs,dflt:=dflt,lm:=lm,ln:=0,lf:=fun _=>none,st:=fun _=>0,tb:=0,L:=0,tc:=0,tk:=fun _ _=>0,nb:=nb,mb:=mb}
def q1 (ra:Option Addr)(rc:Nat)(rs:List (List (Nat×List UInt8)×Int×Int))(dflt:Int)(lm nb mb:Nat)(st:Nat→Nat)(tb:Nat)(tk:Nat→Nat→Nat):Aut :=
 {ra:=ra,rc:=rc,rs:=rs,dflt:=dflt,lm:=lm,ln:=(qcl rs).length,lf:=fnL (qcl rs),st:=st,tb:=tb,L:=2+(qcl rs).length,tc:=2+(qcl rs).length,tk:=tk,nb:=nb,mb:=mb}
end
end Go.Proofs.YtllcbnfmihfaaaaGreatDoor
