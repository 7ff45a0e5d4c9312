import Derived.Test.YtllcbnfmihfaaaaGreatDoorTq34
import Derived.Test.YtllcbnfmihfaaaaGreatDoorTq33
set_option maxRecDepth 100000
set_option maxHeartbeats 8000000
namespace Go.Proofs.YtllcbnfmihfaaaaGreatDoor
open Go.Proofs.Tryz
variable {N base:Nat}{V V' W:World}{cs:Array Value}{v v':Value}{cur:List UInt8}
section
open Go.RowKit Go.Lib
theorem qry (T:DataW Unit→List UInt8)(W:World)(base:Nat)(v:Value)(q:Option Addr)(cap:Nat)(F:Nat→Prop)(hF:∀k,F k→k<base)(bs:List UInt8)(ds:List (DataW Unit))(xs:List Value)(hl:bs.length+(qc5 T ds).length+2≤999999999)(hn:ds.length≤999999999)(hu:qb1 W 81 1 F (.slice q ds.length cap) ds.length xs)(hit:∀(i:Nat) (x:Value) (d:DataW Unit),xs[i]? = some x→ds[i]? = some d→qef W base x (T d))(hif:∀(i:Nat) (x:Value),xs[i]? = some x→∃t y,x=.iface t y)(h:Own W base v bs):Calls prog 161 #[v,.slice q ds.length cap] W fun e W'=>∃v',e=.returned v'∧Own W' base v' (((bs++[91])++qc5 T ds)++[93])∧Below base W W':=by
 obtain⟨i0,hi,hz0,hz1,hz2⟩:=info_parts Tryz.infoU8;obtain⟨a,n,c,rfl⟩:=h.2.2;have HO:=qaa h;have HU:=qaa hu;have HI:=qaa hit;have HF:=qaa hif;go_enter func161,ntmps161
 go_wp2_with (first
  |(at_builtin;refine wpList_append_own _ rfl _ _ 28 rfl base 5 i0 (.int .u8 0) 1 1 underlying28 hi hz0 hz1 hz2 rfl (by decide) _ _ _ rfl (HO.out.1.alloc _) ⟨W.heap.size,0,none⟩ 1 1 [.int .u8 91] rfl rfl (qag _ _ _) (fun u hu=>by simp at hu;subst hu;rfl) (by unfold maxLen;omega) (by omega) (by simp;have:=HO.out.2.1;omega) ?_;intro v' w2 hown' hgrow' hnil';obtain⟨gw2,capw2,rfl⟩:=ownsRow_succ hown';have HB2:=qaa (qaz ((Below.refl _ _).alloc HO.out.2.1 _) (HO.out.1.alloc _) hgrow' (by simp;have:=HO.out.2.1;omega));have HO2:Hid (Own w2 base (.slice (some ⟨gw2,0,none⟩) _ capw2) (bs++[91])):=⟨qbG hown' rfl,Nat.le_trans HO.out.2.1 HB2.out.size,_,_,_,rfl⟩))
 go_loopg [0,12] ds.length (fun g y z wr=>∃(k:Nat) (a3:Option Addr) (n3 c3:Nat),y=.slice a3 n3 c3∧z=.int .i64 k∧Hid (k+g=ds.length)∧Hid (Own wr base (.slice a3 n3 c3) ((bs++[91])++qc5 T (ds.take k)))∧Hid (Below base W wr))
 case atStart=>exact⟨0,_,_,_,rfl,rfl,by show _=_;omega,by simpa [qc5] using HO2,HB2⟩
 case round =>
  obtain⟨k,a3,n3,c3,rfl,rfl,hk,HO3,HB3⟩:=hrel;have hln:((bs++[91])++qc5 T (ds.take k)).length≤999999998:=by
   have:=qfx T ds k;simp only[List.length_append,List.length_cons,List.length_nil];omega
  obtain⟨cur,HC⟩:∃cur,Hid ((bs++[91])++qc5 T (ds.take k)=cur):=⟨_,show _=_ from rfl⟩
  rw[HC.out] at HO3 hln
  cases gk with
  |zero =>
   have hlt:¬(k:Int)<ds.length:=by have:=hk.out;omega
   have HT:Hid (ds.take k=ds):=by show _=_;exact List.take_of_length_le (by have:=hk.out;omega)
   go_wp2_with (first
    |(at_builtin;refine wpList_append_own _ rfl _ _ 28 rfl base 5 i0 (.int .u8 0) 1 1 underlying28 hi hz0 hz1 hz2 rfl (by decide) _ _ _ rfl (HO3.out.1.alloc _) ⟨wr.heap.size,0,none⟩ 1 1 [.int .u8 93] rfl rfl (qag _ _ _) (fun u hu=>by simp at hu;subst hu;rfl) (by unfold maxLen;omega) (by omega) (by simp;have:=HO3.out.2.1;omega) ?_;intro v' w4 hown' hgrow' hnil';obtain⟨gw4,capw4,rfl⟩:=ownsRow_succ hown';have HB4:=qaa (qaz ((Below.refl _ _).alloc HO3.out.2.1 _) (HO3.out.1.alloc _) hgrow' (by simp;have:=HO3.out.2.1;omega));have HO4:Hid (Own w4 base (.slice (some ⟨gw4,0,none⟩) _ capw4) (cur++[93])):=⟨qbG hown' rfl,Nat.le_trans HO3.out.2.1 HB4.out.size,_,_,_,rfl⟩))
   go_ret;have he:cur++[93]=bs++91::(qc5 T ds++[93]):=by
    rw[←HC.out,HT.out];simp
   have h4:=HO4.out;rw[he] at h4;exact⟨_,rfl,h4,HB3.out.trans HB4.out⟩
  |succ g =>
   have hkn:k<ds.length:=by have:=hk.out;omega
   have hlt:(k:Int)<ds.length:=by omega
   have HR:=HU.out.same (V':=wr) (G:=F) (fun _ h=>h) (fun j hj=>HB3.out.block j (hF j hj));obtain⟨q0,rfl⟩:∃q0,q=some ⟨q0,0,none⟩:=by
    rcases HR.2 with ⟨_,e⟩|⟨g,cap',cur,e,_⟩
    ·omega
    injection e with e1 e2 e3;exact⟨g,e1⟩
   have hxl:xs.length=ds.length:=by have:=HR.1;omega
   obtain⟨x,hx⟩:∃x,xs[k]? = some x:=⟨xs[k],List.getElem?_eq_getElem (by omega)⟩
   obtain⟨d,hd⟩:∃d,ds[k]? = some d:=⟨ds[k],List.getElem?_eq_getElem hkn⟩
   obtain⟨tx,yx,rfl⟩:=HF.out k x hx;have hc:wr.cell? ⟨q0,k,none⟩=some (.iface tx yx):=by
    have:=HR.cell k _ hx;have e:(⟨q0,0,none⟩:Addr).add k=⟨q0,k,none⟩:=by by_cases h:k=0<;>simp[Addr.add,h]
    rwa [e] at this
   have hTl:=qfx T ds (k+1);have HIT:=HI.out k _ d hx hd;have HIH:=qaa HIT;have hcc:(wr.alloc (.cells #[.int .u8 44] 5)).cell? ⟨q0,k,none⟩=some (.iface tx yx):=(World.cell?_alloc_some wr _ _ (by rw[hc];rfl)).trans hc;by_cases hk0:k=0
   ·subst hk0;have HT:=qaa (qhq T ds d hd);have HL:Hid (cur.length+(T d).length≤999999999):=by
     show _≤_;rw[←HC.out];rw[HT.out] at hTl;simp only[List.length_append,List.length_cons,List.length_nil,List.take_zero,qc5];omega
    have cI:=HIH.out wr _ _ HB3.out HO3.out HL.out;have HK:Hid (0+(g+1)=ds.length):=hk
    go_wp2_with (first
     |(go_at_call 109;refine cI.mono ?_;rintro e w4 ⟨v4,rfl,h4,hB4⟩;obtain⟨o4,b4,a4,n4,c4,rfl⟩:=h4;have HO4:Hid (Own w4 base (.slice a4 n4 c4) (cur++T d)):=⟨o4,b4,_,_,_,rfl⟩;have HB4:=qaa (HB3.out.trans hB4)))
    go_roundg g
    case measure=>omega
    case rel=>exact⟨1,a4,n4,c4,rfl,by go_num,by show _=_;have:=HK.out;omega,by show Own _ _ _ _;rw[HT.out];have h4:=HO4.out;rw[←HC.out] at h4;simpa [qc5] using h4,HB4⟩
   have hk1:decide ((0:Int)<(k:Int))=true:=by simp;omega
   have hk2:(0:Int)<(k:Int):=by omega
   have HT:=qaa (qjP T ds k (by omega) d hd);have HL:Hid ((cur++[44]).length+(T d).length≤999999999):=by
    show _≤_;rw[←HC.out];rw[HT.out] at hTl;simp only[List.length_append,List.length_cons,List.length_nil] at hTl ⊢;omega
   go_wp2_with (first
    |(at_builtin;refine wpList_append_own _ rfl _ _ 28 rfl base 5 i0 (.int .u8 0) 1 1 underlying28 hi hz0 hz1 hz2 rfl (by decide) _ _ _ rfl (HO3.out.1.alloc _) ⟨wr.heap.size,0,none⟩ 1 1 [.int .u8 44] rfl rfl (qag _ _ _) (fun u hu=>by simp at hu;subst hu;rfl) (by unfold maxLen;omega) (by omega) (by simp;have:=HO3.out.2.1;omega) ?_;intro v' w4 hown' hgrow' hnil';obtain⟨gw4,capw4,rfl⟩:=ownsRow_succ hown';have HB4:=qaa (qaz ((Below.refl _ _).alloc HO3.out.2.1 _) (HO3.out.1.alloc _) hgrow' (by simp;have:=HO3.out.2.1;omega));have HO4:Hid (Own w4 base (.slice (some ⟨gw4,0,none⟩) _ capw4) (cur++[44])):=⟨qbG hown' rfl,Nat.le_trans HO3.out.2.1 HB4.out.size,_,_,_,rfl⟩;have cI:=HIH.out w4 _ _ (HB3.out.trans HB4.out) HO4.out HL.out)
    |(go_at_call 109;refine cI.mono ?_;rintro e w5 ⟨v5,rfl,h5,hB5⟩;obtain⟨o5,b5,a5,n5,c5,rfl⟩:=h5;have HO5:Hid (Own w5 base (.slice a5 n5 c5) ((cur++[44])++T d)):=⟨o5,b5,_,_,_,rfl⟩;have HB5:=qaa ((HB3.out.trans HB4.out).trans hB5)))
   go_roundg g
   case measure=>omega
   case rel=>exact⟨k+1,a5,n5,c5,rfl,by go_num,by show _=_;have:=hk.out;omega,by show Own _ _ _ _;rw[HT.out];have h5:=HO5.out;rw[←HC.out] at h5;simpa only [List.append_assoc] using h5,HB5⟩
def qfn (T:DataW Unit→List UInt8)(e:Lit×DataW Unit):List UInt8:=(jsT (qb7 e.1)++[58])++T e.2
structure qnm (base:Nat)(W:World)(N:Nat)(cs:Array Value)(v:Value)(cur:List UInt8)(V:World):Prop where
 own:Own V base v cur
 below:Below base W V
 row:V.heap[N]? = some (.cells cs 208)
theorem qnm.app {o:Obj}{b:UInt8}(h:qnm base W N cs v cur V)(hown:V'.ownsRow base 5 1 v' (cur.length+1) (cur.map qav++[qav b]))(hg:(V.alloc o).grownBy V' v.ownBlock):qnm base W N cs v' (cur++[b]) V':=by
 have hB:=qaz ((Below.refl base V).alloc h.own.2.1 _) (h.own.1.alloc _) hg (by have:=h.own.2.1;simp;omega);refine⟨⟨by rw[List.length_append,List.map_append];exact hown,Nat.le_trans h.own.2.1 hB.size,?_⟩,h.below.trans hB,?_⟩
 ·rcases hown.2 with ⟨e,_⟩|⟨g,cap,c,e,_⟩
  ·exact⟨none,0,0,e⟩
  exact⟨_,_,_,e⟩
 exact((qed V o).trans (qek (h.own.1.alloc o) hg)) N cs _ _ h.row (by decide)
theorem qnm.said {l:List UInt8}(h:qnm base W N cs v cur V)(ho:Own V' base v' (cur++l))(hB:Below base V V')(hk:KpU V V'):qnm base W N cs v' (cur++l) V' :=
 ⟨ho,h.below.trans hB,hk N cs _ _ h.row (by decide)⟩
theorem qlE {bs:List UInt8}(h:Own W base v bs)(hne:0<bs.length):∃g cap,v=.slice (some ⟨g,0,none⟩) bs.length cap:=by
 rcases h.1.2 with ⟨_,h0⟩|⟨g,cap,c,h0,_⟩
 ·omega
 exact⟨g,cap,h0⟩
theorem qkp (l:List UInt8):0<(jsT l).length:=by simp[jsT]
theorem qtV (T:DataW Unit→List UInt8)(W:World)(base:Nat)(v:Value)(q:Option Addr)(cap:Nat)(F:Nat→Prop)(hF:∀k,F k→k<base)(bs:List UInt8)(es:List (Lit×DataW Unit))(xs:List Value)(hl:bs.length+(qc5 (qfn T) es).length+2≤999999999)(hn:es.length≤999999999)(hu:qb1 W 208 2 F (.slice q es.length cap) es.length xs)(hit:∀(i:Nat) (key:Lit) (d:DataW Unit),es[i]? = some (key,d)→∃l t y,key=.string l∧xs[2*i]? = some (.string ⟨l.toArray⟩)∧xs[2*i+1]? = some (.iface t y)∧qef W base (.iface t y) (T d))(h:Own W base v bs):Calls prog 162 #[v,.slice q es.length cap] W fun e W'=>∃v',e=.returned v'∧Own W' base v' (((bs++[123])++qc5 (qfn T) es)++[125])∧Below base W W':=by
 obtain⟨i0,hi,hz0,hz1,hz2⟩:=info_parts Tryz.infoU8;obtain⟨a,n,c,rfl⟩:=h.2.2;have HO:=qaa h;have HU:=qaa hu;have HI:=qaa hit;go_enter func162,ntmps162
 go_wp2_with (first
  |(at_builtin;refine wpList_append_own _ rfl _ _ 28 rfl base 5 i0 (.int .u8 0) 1 1 underlying28 hi hz0 hz1 hz2 rfl (by decide) _ _ _ rfl (HO.out.1.alloc _) ⟨W.heap.size,0,none⟩ 1 1 [.int .u8 123] rfl rfl (qag _ _ _) (fun u hu=>by simp at hu;subst hu;rfl) (by unfold maxLen;omega) (by omega) (by simp;have:=HO.out.2.1;omega) ?_;intro v' w2 hown' hgrow' hnil';obtain⟨gw2,capw2,rfl⟩:=ownsRow_succ hown';have HB2:=qaa (qaz ((Below.refl _ _).alloc HO.out.2.1 _) (HO.out.1.alloc _) hgrow' (by simp;have:=HO.out.2.1;omega));have HO2:Hid (Own w2 base (.slice (some ⟨gw2,0,none⟩) _ capw2) (bs++[123])):=⟨qbG hown' rfl,Nat.le_trans HO.out.2.1 HB2.out.size,_,_,_,rfl⟩))
 go_loopg [0,12] es.length (fun g y z wr=>∃(k:Nat) (a3:Option Addr) (n3 c3:Nat),y=.slice a3 n3 c3∧z=.int .i64 k∧Hid (k+g=es.length)∧Hid (Own wr base (.slice a3 n3 c3) ((bs++[123])++qc5 (qfn T) (es.take k)))∧Hid (Below base W wr))
 case atStart=>exact⟨0,_,_,_,rfl,rfl,by show _=_;omega,by simpa [qc5] using HO2,HB2⟩
 case round =>
  obtain⟨k,a3,n3,c3,rfl,rfl,hk,HO3,HB3⟩:=hrel;have hln:((bs++[123])++qc5 (qfn T) (es.take k)).length≤999999998:=by
   have:=qfx (qfn T) es k;simp only[List.length_append,List.length_cons,List.length_nil];omega
  obtain⟨cur,HC⟩:∃cur,Hid ((bs++[123])++qc5 (qfn T) (es.take k)=cur):=⟨_,show _=_ from rfl⟩
  rw[HC.out] at HO3 hln
  cases gk with
  |zero =>
   have hlt:¬(k:Int)<es.length:=by have:=hk.out;omega
   have HT:Hid (es.take k=es):=by show _=_;exact List.take_of_length_le (by have:=hk.out;omega)
   go_wp2_with (first
    |(at_builtin;refine wpList_append_own _ rfl _ _ 28 rfl base 5 i0 (.int .u8 0) 1 1 underlying28 hi hz0 hz1 hz2 rfl (by decide) _ _ _ rfl (HO3.out.1.alloc _) ⟨wr.heap.size,0,none⟩ 1 1 [.int .u8 125] rfl rfl (qag _ _ _) (fun u hu=>by simp at hu;subst hu;rfl) (by unfold maxLen;omega) (by omega) (by simp;have:=HO3.out.2.1;omega) ?_;intro v' w4 hown' hgrow' hnil';obtain⟨gw4,capw4,rfl⟩:=ownsRow_succ hown';have HB4:=qaa (qaz ((Below.refl _ _).alloc HO3.out.2.1 _) (HO3.out.1.alloc _) hgrow' (by simp;have:=HO3.out.2.1;omega));have HO4:Hid (Own w4 base (.slice (some ⟨gw4,0,none⟩) _ capw4) (cur++[125])):=⟨qbG hown' rfl,Nat.le_trans HO3.out.2.1 HB4.out.size,_,_,_,rfl⟩))
   go_ret;have he:cur++[125]=((bs++[123])++qc5 (qfn T) es)++[125]:=by rw[←HC.out,HT.out]
   have h4:=HO4.out;rw[he] at h4
   first|exact⟨_,rfl,h4,HB3.out.trans HB4.out⟩|exact⟨_,rfl,by simpa using h4,HB3.out.trans HB4.out⟩
  |succ g =>
   have hkn:k<es.length:=by have:=hk.out;omega
   have hlt:(k:Int)<es.length:=by omega
   have HR:=HU.out.same (V':=wr) (G:=F) (fun _ h=>h) (fun j hj=>HB3.out.block j (hF j hj));obtain⟨q0,rfl⟩:∃q0,q=some ⟨q0,0,none⟩:=by
    rcases HR.2 with ⟨_,e⟩|⟨g,cap',cur,e,_⟩
    ·omega
    injection e with e1 e2 e3;exact⟨g,e1⟩
   obtain⟨⟨key,d⟩,hd⟩:∃d,es[k]? = some d:=⟨es[k],List.getElem?_eq_getElem hkn⟩
   obtain⟨l,tx,yx,rfl,hx0,hx1,hI⟩:=HI.out k key d hd;have hc0:wr.cell? ⟨q0,k*2,none⟩=some (.string ⟨l.toArray⟩):=by
    have:=HR.cell (2*k) _ hx0;have e:(⟨q0,0,none⟩:Addr).add (2*k)=⟨q0,k*2,none⟩:=by by_cases h:2*k=0<;>simp only[Addr.add,h,Nat.zero_add,Nat.mul_comm k 2,if_true,if_false]
    rwa [e] at this
   have hc1:wr.cell? ⟨q0,k*2+1,none⟩=some (.iface tx yx):=by
    have:=HR.cell (2*k+1) _ hx1;have e:(⟨q0,0,none⟩:Addr).add (2*k+1)=⟨q0,k*2+1,none⟩:=by simp[Addr.add,Nat.mul_comm]
    rwa [e] at this
   have HV0:Hid (qnm base W wr.heap.size #[.string ⟨l.toArray⟩,.iface tx yx] (.slice a3 n3 c3) cur (wr.alloc (.cells #[.string ⟨l.toArray⟩,.iface tx yx] 208))):=⟨⟨HO3.out.1.alloc _,by have:=HO3.out.2.1;simp;omega,_,_,_,rfl⟩,HB3.out.trans ((Below.refl base wr).alloc HO3.out.2.1 _),qac _ _⟩
   have HJ:=qaa hI;have hTl:=qfx (qfn T) es (k+1);have hej:(qfn T (.string l,d)).length=(jsT l).length+1+(T d).length:=by simp[qfn,qb7];omega
   by_cases hk0:k=0
   ·subst hk0;have HT:=qaa (qhq (qfn T) es (.string l,d) hd);have hL:cur.length+(jsT l).length+1+(T d).length+1≤999999999:=by
     rw[HT.out] at hTl;rw[←HC.out];simp only[List.length_append,List.length_cons,List.length_nil,List.take_zero,qc5];omega
    have HE:Hid (((cur++jsT l)++[58])++T d=(bs++[123])++qc5 (qfn T) (es.take (0+1))):=by
     show _=_;rw[HT.out,←HC.out];simp[qfn,qb7,qc5]
    have cT:=qil _ base _ ⟨l.toArray⟩ cur (by show _+(jsT l).length≤_;omega) HV0.out.own;have e9:jsT (⟨l.toArray⟩:ByteArray).data.toList=jsT l:=rfl;rw[e9] at cT
    go_wp2_with (first
     |(go_at_call 160;refine cT.mono ?_;rintro e w5 ⟨v5,rfl,h5,hB5,hK5⟩;obtain⟨cur2,HC2⟩:∃z,Hid (cur++jsT l=z):=⟨_,show _=_ from rfl⟩;have HL2:Hid (0<cur2.length∧cur2.length+1+(T d).length+1≤999999999):=(by rw[←HC2.out];have:=qkp l;simp only[List.length_append];exact⟨by omega,by omega⟩);have HV5:Hid (qnm base W wr.heap.size #[.string ⟨l.toArray⟩,.iface tx yx] v5 cur2 w5):=(by rw[←HC2.out];exact HV0.out.said h5 hB5 hK5);obtain⟨g5,c5,rfl⟩:=qlE HV5.out.own HL2.out.1)
     |(at_builtin;refine wpList_append_own _ rfl _ _ 28 rfl base 5 i0 (.int .u8 0) 1 1 underlying28 hi hz0 hz1 hz2 rfl (by decide) _ _ _ rfl (HV5.out.own.1.alloc _) ⟨w5.heap.size,0,none⟩ 1 1 [.int .u8 58] rfl rfl (qag _ _ _) (fun u hu=>by simp at hu;subst hu;rfl) (by have:=HL2.out.2;unfold maxLen;omega) (by have:=HL2.out.2;omega) (by have:=HV5.out.own.2.1;simp only[World.size_alloc] at this ⊢;omega) ?_;intro v' w6 hown' hgrow' hnil';obtain⟨gw6,capw6,rfl⟩:=ownsRow_succ hown';have HV6:Hid (qnm base W wr.heap.size #[.string ⟨l.toArray⟩,.iface tx yx] (.slice (some ⟨gw6,0,none⟩) (cur2.length+1) capw6) (cur2++[58]) w6):=HV5.out.app hown' hgrow';have hf1:=qab HV6.out.row 1)
     |(go_at_call 109;refine(HJ.out w6 _ _ HV6.out.below HV6.out.own (by have:=HL2.out.2;simp only[List.length_append,List.length_cons,List.length_nil];omega)).mono ?_;rintro e w7 ⟨v7,rfl,h7,hB7⟩;obtain⟨o7,b7,a7,n7,c7,rfl⟩:=h7;have HO7:Hid (Own w7 base (.slice a7 n7 c7) ((cur2++[58])++T d)):=⟨o7,b7,_,_,_,rfl⟩;have HB7:=qaa (HV6.out.below.trans hB7)))
    go_roundg g
    case measure=>omega
    case rel=>exact⟨1,a7,n7,c7,rfl,by go_num,by show _=_;have:=hk.out;omega,by have h:=HO7.out;rw[←HC2.out,HE.out] at h;exact h,HB7⟩
   have HT:=qaa (qjP (qfn T) es k (by omega) (.string l,d) hd);have hkp:(0:Int)<(k:Int):=by omega
   have hL:cur.length+1+(jsT l).length+1+(T d).length+1≤999999999:=by
    rw[HT.out] at hTl;rw[←HC.out];simp only[List.length_append,List.length_cons,List.length_nil] at hTl ⊢;omega
   have HE:Hid ((((cur++[44])++jsT l)++[58])++T d=(bs++[123])++qc5 (qfn T) (es.take (k+1))):=by
    show _=_;rw[HT.out,←HC.out];simp[qfn,qb7]
   go_wp2_with (first
    |(at_builtin;refine wpList_append_own _ rfl _ _ 28 rfl base 5 i0 (.int .u8 0) 1 1 underlying28 hi hz0 hz1 hz2 rfl (by decide) _ _ _ rfl (HV0.out.own.1.alloc _) ⟨wr.heap.size+1,0,none⟩ 1 1 [.int .u8 44] rfl rfl (by have h:=qag (wr.alloc (.cells #[.string ⟨l.toArray⟩,.iface tx yx] 208)) #[.int .u8 44] 5;rw[World.size_alloc] at h;exact h) (fun u hu=>by simp at hu;subst hu;rfl) (by unfold maxLen;omega) (by omega) (by have:=HV0.out.own.2.1;simp only[World.size_alloc] at this ⊢;omega) ?_;intro v' w4 hown' hgrow' hnil';obtain⟨gw4,capw4,rfl⟩:=ownsRow_succ hown';have HV4:Hid (qnm base W wr.heap.size #[.string ⟨l.toArray⟩,.iface tx yx] (.slice (some ⟨gw4,0,none⟩) (cur.length+1) capw4) (cur++[44]) w4):=HV0.out.app hown' hgrow';have hf0:=qab HV4.out.row 0;have cT:=qil _ base _ ⟨l.toArray⟩ (cur++[44]) (by show _+(jsT l).length≤_;simp only[List.length_append,List.length_cons,List.length_nil];omega) HV4.out.own;have e9:jsT (⟨l.toArray⟩:ByteArray).data.toList=jsT l:=rfl;rw[e9] at cT)
    |(go_at_call 160;refine cT.mono ?_;rintro e w5 ⟨v5,rfl,h5,hB5,hK5⟩;obtain⟨cur2,HC2⟩:∃z,Hid ((cur++[44])++jsT l=z):=⟨_,show _=_ from rfl⟩;have HL2:Hid (0<cur2.length∧cur2.length+1+(T d).length+1≤999999999):=(by rw[←HC2.out];have:=qkp l;simp only[List.length_append,List.length_cons,List.length_nil];exact⟨by omega,by omega⟩);have HV5:Hid (qnm base W wr.heap.size #[.string ⟨l.toArray⟩,.iface tx yx] v5 cur2 w5):=(by rw[←HC2.out];exact HV4.out.said h5 hB5 hK5);obtain⟨g5,c5,rfl⟩:=qlE HV5.out.own HL2.out.1)
    |(at_builtin;refine wpList_append_own _ rfl _ _ 28 rfl base 5 i0 (.int .u8 0) 1 1 underlying28 hi hz0 hz1 hz2 rfl (by decide) _ _ _ rfl (HV5.out.own.1.alloc _) ⟨w5.heap.size,0,none⟩ 1 1 [.int .u8 58] rfl rfl (qag _ _ _) (fun u hu=>by simp at hu;subst hu;rfl) (by have:=HL2.out.2;unfold maxLen;omega) (by have:=HL2.out.2;omega) (by have:=HV5.out.own.2.1;simp only[World.size_alloc] at this ⊢;omega) ?_;intro v' w6 hown' hgrow' hnil';obtain⟨gw6,capw6,rfl⟩:=ownsRow_succ hown';have HV6:Hid (qnm base W wr.heap.size #[.string ⟨l.toArray⟩,.iface tx yx] (.slice (some ⟨gw6,0,none⟩) (cur2.length+1) capw6) (cur2++[58]) w6):=HV5.out.app hown' hgrow';have hf1:=qab HV6.out.row 1)
    |(go_at_call 109;refine(HJ.out w6 _ _ HV6.out.below HV6.out.own (by have:=HL2.out.2;simp only[List.length_append,List.length_cons,List.length_nil];omega)).mono ?_;rintro e w7 ⟨v7,rfl,h7,hB7⟩;obtain⟨o7,b7,a7,n7,c7,rfl⟩:=h7;have HO7:Hid (Own w7 base (.slice a7 n7 c7) ((cur2++[58])++T d)):=⟨o7,b7,_,_,_,rfl⟩;have HB7:=qaa (HV6.out.below.trans hB7)))
   go_roundg g
   case measure=>omega
   case rel=>exact⟨k+1,a7,n7,c7,rfl,by go_num,by show _=_;have:=hk.out;omega,by have h:=HO7.out;rw[←HC2.out,HE.out] at h;exact h,HB7⟩
theorem q1b (W:World)(kd v:Int)(b:UInt8)(hk:(kd=0∧v=192)∨(kd=1∧v=194)∨(kd=2∧v=195))(hb:(b.toNat:Int)=v):Calls prog 74 #[.agg (thA kd 0 ⟨#[]⟩ qxE qxE)] W (WrS [b] W):=by
 have hc:=qyI (W.alloc (.cells (thA kd 0 ⟨#[]⟩ qxE qxE) 93)) v b hb.symm;rw[show(W.alloc (.cells (thA kd 0 ⟨#[]⟩ qxE qxE) 93)).heap.size=W.heap.size+1 by simp] at hc;unfold thA qxE at *;rcases hk with ⟨rfl,rfl⟩|⟨rfl,rfl⟩|⟨rfl,rfl⟩
 all_goals
  go_enter func74,ntmps74;go_wp2;go_ret;exact⟨rfl,(bwA).alloc (by simp) _⟩
theorem q6u (W:World)(z:Int)(h1 : -9223372036854775808≤z)(h2:z≤9223372036854775807):Calls prog 74 #[.agg (thA 3 z ⟨#[]⟩ qxE qxE)] W (WrS (qid z) W):=by
 have HX:Hid (qyP W (thA 3 z ⟨#[]⟩ qxE qxE) (W.alloc (.cells (thA 3 z ⟨#[]⟩ qxE qxE) 93))):=qy6 _ _;have c:∀V,Calls prog 120 #[.int .i64 z] V (WrS (qid z) V):=fun V=>by
  unfold qid;by_cases hz:z<0
  ·rw[if_pos hz];exact q1W V z hz h1
  rw[if_neg hz];have h:=q2k V z.toNat (by omega);rw[show((z.toNat:Nat):Int)=z by omega] at h;exact h
 generalize qid z=R at *;unfold thA qxE at *;go_enter func74,ntmps74
 go_wp2_with (first|(go_at_call 120;refine(c _).mono ?_;rintro e w2 ⟨rfl,hB2⟩))
 go_ret;exact⟨rfl,(HX.out.next hB2).below⟩
theorem q34 (x:Nat):(qa2 x).length≤9:=by
 unfold qa2
 repeat' split
 all_goals simp[qy0]
theorem q5f (W:World)(l:List UInt8)(hl:l.length≤999999999):Calls prog 74 #[.agg (thA 4 0 ⟨l.toArray⟩ qxE qxE)] W (WrS (qa2 l.length++l) W):=by
 have HX:Hid (qyP W (thA 4 0 ⟨l.toArray⟩ qxE qxE) (W.alloc (.cells (thA 4 0 ⟨l.toArray⟩ qxE qxE) 93))):=qy6 _ _;have c:=fun V=>qz4 V l.length (by omega);have hlen:¬((qa2 l.length).length+l.length>9223372036854775807):=by have:=q34 l.length;omega
 generalize qa2 l.length=hd at *;unfold thA qxE at *;go_enter func74,ntmps74
 go_wp2_with fail
 generalize W.alloc (.cells #[.int .i64 4,.int .i64 0,.string ⟨l.toArray⟩,.slice none 0 0,.slice none 0 0] 93)=V0 at *;refine rgn (S:=qyP W #[.int .i64 4,.int .i64 0,.string ⟨l.toArray⟩,.slice none 0 0,.slice none 0 0]) HX.out.drew (by kernel_rfl) ?_;intro hS;refine tkk 0 29 (.pointer (some ⟨W.heap.size,2,none⟩)) (by kernel_rfl) iQ3 hS ?_;refine tk 1 30 (.string ⟨l.toArray⟩) rfl (by kernel_rfl) iQ3 (fun Z hZ => ?y1) hS ?_
 case y1=>(have hz:=qab hZ.box 2;go_simp)
 refine tk 2 31 (.int .i64 l.length) rfl (by kernel_rfl) iQ3 (fun Z hZ => ?y2) hS ?_
 case y2=>go_simp
 refine tkk 4 33 (.pointer (some ⟨W.heap.size,2,none⟩)) (by kernel_rfl) iQ3 hS ?_;refine tk 5 34 (.string ⟨l.toArray⟩) rfl (by kernel_rfl) iQ3 (fun Z hZ => ?y3) hS ?_
 case y3=>(have hz:=qab hZ.box 2;go_simp)
 refine rdH 3 rfl (by kernel_rfl) (fun K hK => ?_);go_simp;refine(c _).mono ?_;rintro e w2 ⟨rfl,hB2⟩;have hS2:=hS.next hB2
 refine hK.out _ _ hS2 (fun _ => ?_);refine tk 6 35 (qxX (hd++l)) rfl (by kernel_rfl) iQ3 (fun Z hZ => ?y4) hS2 ?_
 case y4=>(unfold qxX;go_simp;exact qxF _ _)
 refine tkk 7 2 (qxX (hd++l)) (by kernel_rfl) iQ3 hS2 ?_;refine wpAnyH_done (by kernel_rfl) ?_ _;go_wp2;go_ret;exact⟨rfl,hS2.below⟩
theorem q6Z (n:Nat)(h2:n<4294967296):qb8 n=UInt8.ofNat (196+ixN n)::beF n (2^ixN n):=by
 unfold qb8 ixN;by_cases a:n<256
 ·rw[if_pos (by omega),if_pos a];rfl
 rw[if_neg (by omega),if_neg a];by_cases b:n<65536
 ·rw[if_pos (by omega),if_pos b];rfl
 rw[if_neg (by omega),if_neg b,if_pos h2];rfl
theorem q3G (W:World)(l:List UInt8)(hl:l.length≤999999999):Calls prog 74 #[.agg (thA 5 0 ⟨l.toArray⟩ qxE qxE)] W (WrS (qb8 l.length++l) W):=by
 have HX:Hid (qyP W (thA 5 0 ⟨l.toArray⟩ qxE qxE) (W.alloc (.cells (thA 5 0 ⟨l.toArray⟩ qxE qxE) 93))):=qy6 _ _;obtain⟨m,hm⟩:∃m,ixN l.length=m:=⟨_,rfl⟩
 have hm3:=hm▸q1z _;obtain⟨u,hu⟩:∃u,UInt8.ofNat (196+m)=u:=⟨_,rfl⟩
 have HU:Hid ((u.toNat:Int)=196+m):=by show _=_;rw[←hu,u8n _ (by omega)];omega
 have hk8:=(qzb (Nat.le_refl m) hm3).2;have HE:Hid (qb8 l.length++l=([u]++beF l.length (2^m))++l):=by show _=_;rw[q6Z _ (by omega),hm,hu];rfl
 rw[HE.out];have cW:=fun V=>qyK V (l.length:Int);rw[Int.toNat_natCast,hm] at cW;have cB:=fun V=>qyG (2^m) l.length V (by omega) hk8;have cI:=fun V=>qzt V m hm3;have hlen:(beF l.length (2^m)).length≤8:=by rw[qy0];omega
 generalize beF l.length (2^m)=bb at *;generalize 2^m=kv at *;have HW2:Hid (IntKind.i64.wrap (196+(m:Int))=u.toNat):=by show _=_;rw[HU.out];exact w64 _ (by omega)
 have HW3:Hid (IntKind.u8.wrap (u.toNat:Int)=u.toNat):=w8 _ (by have:=u.toNat_lt;omega);have g1:¬(1+bb.length>9223372036854775807):=by omega
 have g2:¬(([u]++bb).length+l.length>9223372036854775807):=by rw[List.length_append];simp;omega
 obtain⟨cc,HCC⟩:∃cc,Hid ([u]++bb=cc):=⟨_,show _=_ from rfl⟩
 rw[HCC.out] at g2 ⊢;unfold thA qxE at *;go_enter func74,ntmps74
 go_wp2_with (first|(go_at_call 122;refine(cW _).mono ?_;rintro e w2 ⟨rfl,hB2⟩;have HX2:=qaa (HX.out.next hB2)))
 refine rgn (S:=qyP W #[.int .i64 5,.int .i64 0,.string ⟨l.toArray⟩,.slice none 0 0,.slice none 0 0]) HX2.out.drew (by kernel_rfl) ?_;intro hS;refine tkk 0 42 (.int .i64 kv) (by kernel_rfl) iQ3 hS ?_;refine tkk 6 48 (.pointer (some ⟨W.heap.size,2,none⟩)) (by kernel_rfl) iQ3 hS ?_;refine tk 7 49 (.string ⟨l.toArray⟩) rfl (by kernel_rfl) iQ3 (fun Z hZ => ?y1) hS ?_
 case y1=>(have hz:=qab hZ.box 2;go_simp)
 refine tk 8 50 (.int .i64 l.length) rfl (by kernel_rfl) iQ3 (fun Z hZ => ?y2) hS ?_
 case y2=>go_simp
 refine tkk 9 51 (.int .i64 kv) (by kernel_rfl) iQ3 hS ?_;refine tkk 12 54 (.pointer (some ⟨W.heap.size,2,none⟩)) (by kernel_rfl) iQ3 hS ?_;refine tk 13 55 (.string ⟨l.toArray⟩) rfl (by kernel_rfl) iQ3 (fun Z hZ => ?y3) hS ?_
 case y3=>(have hz:=qab hZ.box 2;go_simp)
 refine rdH 1 rfl (by kernel_rfl) (fun K hK => ?_);go_simp;refine(cI _).mono ?_;rintro e w3 ⟨rfl,hB3⟩;have hS3:=hS.next hB3
 refine hK.out _ _ hS3 (fun _ => ?_);refine tk 2 44 (.int .i64 u.toNat) rfl (by kernel_rfl) iQ3 (fun Z _ => ?y4) hS3 ?_
 case y4=>(go_simp<;>exact HW2.out)
 refine tk 3 45 (.int .u8 u.toNat) rfl (by kernel_rfl) iQ3 (fun Z _ => ?y5) hS3 ?_
 case y5=>(go_simp<;>exact HW3.out)
 refine tri 10 4 5 52 46 47 124 (qxX bb) u ⟨rfl,rfl,rfl⟩ rfl (by kernel_rfl) (fun _ _ _=>⟨by kernel_rfl,by kernel_rfl,by kernel_rfl⟩) (fun _=>⟨by kernel_rfl,by kernel_rfl⟩) cB (fun _ h=>hS3.next h) (fun V y hB => ?_);have hS4:=hS3.next hB
 refine tk 11 53 (qxX cc) rfl (by kernel_rfl) iQ3 (fun Z _ => ?y6) hS4 ?_
 case y6=>(unfold qxX;go_simp;rw[←HCC.out];exact qxF [u] _)
 refine tk 14 56 (qxX (cc++l)) rfl (by kernel_rfl) iQ3 (fun Z _ => ?y7) hS4 ?_
 case y7=>(unfold qxX;go_simp;exact qxF _ _)
 refine tkk 15 2 (qxX (cc++l)) (by kernel_rfl) iQ3 hS4 ?_;refine wpAnyH_done (by kernel_rfl) ?_ _;go_wp2;go_ret;exact⟨by kernel_rfl,hS4.below⟩
theorem q5i (k:Nat)(W:World)(F:Nat→Prop)(u:Value)(xs:List Value)(ds:List (DataW Unit))(f:DataW Unit→List UInt8)(hF:∀j,F j→j<W.heap.size)(hr:qb1 W 93 5 F u ds.length xs)(ha:∀(i:Nat) (d:DataW Unit),ds[i]? = some d→∃a,qzH xs i a∧qyi k W F (.agg a) d)(hl:(qbB ds.length++ds.flatMap f).length≤999999999)(ih:∀(V:World) (a:Array Value) (d:DataW Unit),(∀j,F j→j<V.heap.size)→qyi k V F (.agg a) d→(f d).length≤999999999→Calls prog 74 #[.agg a] V (WrS (f d) V)):Calls prog 74 #[.agg (thA 6 0 ⟨#[]⟩ qxE u)] W (WrS (qbB ds.length++ds.flatMap f) W):=by
 obtain⟨hn,a,cap,rfl,HC⟩:=qyC hr;have HX:Hid (qyP W (thA 6 0 ⟨#[]⟩ qxE (.slice a ds.length cap)) (W.alloc (.cells (thA 6 0 ⟨#[]⟩ qxE (.slice a ds.length cap)) 93))):=qy6 _ _;have c:=fun V=>qz8 V 144 220 ds.length (by decide) (by decide) hn;obtain⟨n,hN⟩:∃n,ds.length=n:=⟨_,rfl⟩
 rw[(q2N ds.length).1] at c;obtain⟨h0,H0⟩:∃h0,Hid (qbB ds.length=h0):=⟨_,show _=_ from rfl⟩
 have HKID:Hid (∀i,i<n→∃d g kd z s ka ki kj va vi vj,ds[i]? = some d∧a=some ⟨g,0,none⟩∧(∀V,Below W.heap.size W V→(V.cell? ⟨g,i*5,none⟩=some (.int .i64 kd)∧V.cell? ⟨g,i*5+1,none⟩=some (.int .i64 z)∧V.cell? ⟨g,i*5+2,none⟩=some (.string s)∧V.cell? ⟨g,i*5+3,none⟩=some (.slice ka ki kj)∧V.cell? ⟨g,i*5+4,none⟩=some (.slice va vi vj))∧Calls prog 74 #[.agg #[.int .i64 kd,.int .i64 z,.string s,.slice ka ki kj,.slice va vi vj]] V (WrS (f d) V))):=fun i hi=>by
  obtain⟨d,hd⟩:∃d,ds[i]? = some d:=⟨_,List.getElem?_eq_getElem (by omega)⟩
  obtain⟨A,hs,hA⟩:=ha i d hd;obtain⟨kd,z,s,ka,ki,kj,va,vi,vj,e⟩:=hA.shape;injection e with e;subst e;obtain⟨g,ea,hg,hc⟩:=HC i _ (by omega) hs;have hfl:(f d).length≤999999999:=by
   have h1:=qyr f ds i d hd;have h2:=qyx f ds (i+1);rw[h1,List.length_append] at h2;rw[List.length_append] at hl;omega
  refine⟨d,g,kd,z,s,ka,ki,kj,va,vi,vj,hd,ea,fun V hV=>⟨?_,ih V _ d (fun j hj=>Nat.lt_of_lt_of_le (hF j hj) hV.size) (hA.same (fun _ h=>h) (fun j hj=>hV.block j (hF j hj))) hfl⟩⟩;have hb:=hV.block g (hF g hg);exact⟨hc V hb 0 (by decide),hc V hb 1 (by decide),hc V hb 2 (by decide),hc V hb 3 (by decide),hc V hb 4 (by decide)⟩
 have HL:Hid (∀i,(h0++(ds.take i).flatMap f).length≤999999999):=fun i=>by
  have:=qyx f ds i;rw[←H0.out];rw[List.length_append] at hl ⊢;omega
 have HT:Hid (ds.flatMap f=(ds.take n).flatMap f):=by show _=_;rw[←hN,List.take_length]
 rw[HT.out];rw[H0.out] at c ⊢;rw[hN] at c HX hn ⊢;have HS:Hid (∀i d,ds[i]? = some d→h0++(ds.take (i+1)).flatMap f=(h0++(ds.take i).flatMap f)++f d):=fun i d hd=>by rw[qyr f ds i d hd,List.append_assoc]
 unfold thA qxE at *;go_enter func74,ntmps74
 go_wp2_with (first|(go_at_call 125;refine(c _).mono ?_;rintro e w2 ⟨rfl,hB2⟩;unfold qxX))
 go_loopg [4,5] n (fun g zs zi wr=>∃(i:Nat) (cur:List UInt8),zs=.string ⟨cur.toArray⟩∧zi=.int .i64 i∧Hid (i+g=n)∧Hid (cur=h0++(ds.take i).flatMap f)∧Hid (qyP W #[.int .i64 6,.int .i64 0,.string ⟨#[]⟩,.slice none 0 0,.slice a n cap] wr))
 case atStart=>exact⟨0,h0,rfl,rfl,by show _=_;omega,by show _=_;simp,HX.out.next hB2⟩
 case round =>
  obtain⟨i,cur,rfl,rfl,hg,hcur,HX⟩:=hrel;have c4:=qab HX.out.box 4
  cases gk with
  |zero =>
   obtain rfl:i=n:=hg.out;have hlt:¬(i:Int)<(i:Int):=by omega
   go_wp2;go_ret;rw[←hcur.out];exact⟨rfl,HX.out.below⟩
  |succ g =>
   have hin:i<n:=by have:=hg.out;omega
   have hlt:(i:Int)<(n:Int):=by omega
   obtain⟨d,gb,kd,z,s,ka,ki,kj,va,vi,vj,hd,rfl,hk⟩:=HKID.out i hin;obtain⟨⟨k0,k1,k2,k3,k4⟩,ck⟩:=hk _ HX.out.below;have HN:Hid (h0++(ds.take (i+1)).flatMap f=cur++f d):=by show _=_;rw[HS.out i d hd,←hcur.out]
   have hlen:¬(cur.length+(f d).length>9223372036854775807):=by
    have h1:=HL.out (i+1);rw[HN.out,List.length_append] at h1;omega
   go_wp2_with (first|(go_at_call 74;refine ck.mono ?_;rintro e w3 ⟨rfl,hB3⟩;unfold qxX))
   go_roundg g
   case measure=>omega
   case rel=>exact⟨i+1,cur++f d,by rw[←qxF],by go_num,by show _=_;have:=hg.out;omega,HN.out.symm,HX.out.next hB3⟩
theorem q6j (k:Nat)(W:World)(F:Nat→Prop)(kv u:Value)(xs:List Value)(es:List (Lit×DataW Unit))(f:DataW Unit→List UInt8)(hF:∀j,F j→j<W.heap.size)(hq:qb1 W 9 1 F kv es.length (es.map q6v))(hr:qb1 W 93 5 F u es.length xs)(ha:∀(i:Nat) (key:Lit) (d:DataW Unit),es[i]? = some (key,d)→∃l a,key=.string l∧qzH xs i a∧qyi k W F (.agg a) d)(hl:(qb2 es.length++es.flatMap fun e=>(qa2 (qb7 e.1).length++qb7 e.1)++f e.2).length≤999999999)(ih:∀(V:World) (a:Array Value) (d:DataW Unit),(∀j,F j→j<V.heap.size)→qyi k V F (.agg a) d→(f d).length≤999999999→Calls prog 74 #[.agg a] V (WrS (f d) V)):Calls prog 74 #[.agg (thA 7 0 ⟨#[]⟩ kv u)] W (WrS (qb2 es.length++es.flatMap fun e=>(qa2 (qb7 e.1).length++qb7 e.1)++f e.2) W):=by
 obtain⟨hn,a,cap,rfl,HC⟩:=qyC hr;obtain⟨b,capb,rfl,HQ⟩:=qzZ hq;obtain⟨fe,HFE⟩:∃fe:Lit×DataW Unit→List UInt8,Hid ((fun e=>(qa2 (qb7 e.1).length++qb7 e.1)++f e.2)=fe):=⟨_,show _=_ from rfl⟩
 rw[HFE.out] at hl ⊢;have HX:Hid (qyP W (thA 7 0 ⟨#[]⟩ (.slice b es.length capb) (.slice a es.length cap)) (W.alloc (.cells (thA 7 0 ⟨#[]⟩ (.slice b es.length capb) (.slice a es.length cap)) 93))):=qy6 _ _;have c:=fun V=>qz8 V 128 222 es.length (by decide) (by decide) hn;obtain⟨n,hN⟩:∃n,es.length=n:=⟨_,rfl⟩
 rw[(q2N es.length).2] at c;obtain⟨h0,H0⟩:∃h0,Hid (qb2 es.length=h0):=⟨_,show _=_ from rfl⟩
 have HKID:Hid (∀i,i<n→∃e l fd g gk kd z s ka ki kj va vi vj,es[i]? = some e∧fe e=(qa2 l.length++l)++fd∧a=some ⟨g,0,none⟩∧b=some ⟨gk,0,none⟩∧(∀V,Below W.heap.size W V→V.cell? ⟨gk,i,none⟩=some (.string ⟨l.toArray⟩)∧(V.cell? ⟨g,i*5,none⟩=some (.int .i64 kd)∧V.cell? ⟨g,i*5+1,none⟩=some (.int .i64 z)∧V.cell? ⟨g,i*5+2,none⟩=some (.string s)∧V.cell? ⟨g,i*5+3,none⟩=some (.slice ka ki kj)∧V.cell? ⟨g,i*5+4,none⟩=some (.slice va vi vj))∧Calls prog 74 #[.agg #[.int .i64 kd,.int .i64 z,.string s,.slice ka ki kj,.slice va vi vj]] V (WrS fd V))):=fun i hi=>by
  obtain⟨⟨key,d⟩,hd⟩:∃e,es[i]? = some e:=⟨_,List.getElem?_eq_getElem (by omega)⟩
  obtain⟨l,A,hkl,hs,hA⟩:=ha i key d hd;subst hkl;obtain⟨kd,z,s,ka,ki,kj,va,vi,vj,e⟩:=hA.shape;injection e with e;subst e;obtain⟨g,ea,hg,hc⟩:=HC i _ (by omega) hs;obtain⟨gk,eb,hgk,hck⟩:=HQ i l d hd;have hfe:fe (.string l,d)=(qa2 l.length++l)++f d:=by rw[←HFE.out];rfl
  have hfl:(f d).length≤999999999:=by
   have h1:=qyr fe es i _ hd;have h2:=qyx fe es (i+1);rw[h1,hfe,List.length_append,List.length_append] at h2;rw[List.length_append] at hl;omega
  refine⟨(.string l,d),l,f d,g,gk,kd,z,s,ka,ki,kj,va,vi,vj,hd,hfe,ea,eb,fun V hV=>⟨hck V (hV.block gk (hF gk hgk)),?_,ih V _ d (fun j hj=>Nat.lt_of_lt_of_le (hF j hj) hV.size) (hA.same (fun _ h=>h) (fun j hj=>hV.block j (hF j hj))) hfl⟩⟩;have hb:=hV.block g (hF g hg);exact⟨hc V hb 0 (by decide),hc V hb 1 (by decide),hc V hb 2 (by decide),hc V hb 3 (by decide),hc V hb 4 (by decide)⟩
 have HL:Hid (∀i,(h0++(es.take i).flatMap fe).length≤999999999):=fun i=>by
  have:=qyx fe es i;rw[←H0.out];rw[List.length_append] at hl ⊢;omega
 have HT:Hid (es.flatMap fe=(es.take n).flatMap fe):=by show _=_;rw[←hN,List.take_length]
 rw[HT.out];rw[H0.out] at c ⊢;rw[hN] at c HX hn ⊢;have HS:Hid (∀i d,es[i]? = some d→h0++(es.take (i+1)).flatMap fe=(h0++(es.take i).flatMap fe)++fe d):=fun i d hd=>by rw[qyr fe es i d hd,List.append_assoc]
 have cK:∀(V:World) (l:List UInt8),l.length≤999999999→Calls prog 121 #[.int .i64 l.length] V (WrS (qa2 l.length) V):=fun V l h=>qz4 V l.length (by omega);unfold thA at *;go_enter func74,ntmps74
 go_wp2_with (first|(go_at_call 125;refine(c _).mono ?_;rintro e w2 ⟨rfl,hB2⟩;unfold qxX))
 go_loopg [6,7] n (fun g zs zi wr=>∃(i:Nat) (cur:List UInt8),zs=.string ⟨cur.toArray⟩∧zi=.int .i64 i∧Hid (i+g=n)∧Hid (cur=h0++(es.take i).flatMap fe)∧Hid (qyP W #[.int .i64 7,.int .i64 0,.string ⟨#[]⟩,.slice b n capb,.slice a n cap] wr))
 case atStart=>exact⟨0,h0,rfl,rfl,by show _=_;omega,by show _=_;simp,HX.out.next hB2⟩
 case round =>
  obtain⟨i,cur,rfl,rfl,hg,hcur,HX⟩:=hrel;have c4:=qab HX.out.box 4
  cases gk with
  |zero =>
   obtain rfl:i=n:=hg.out;have hlt:¬(i:Int)<(i:Int):=by omega
   go_wp2;go_ret;rw[←hcur.out];exact⟨rfl,HX.out.below⟩
  |succ g =>
   have hin:i<n:=by have:=hg.out;omega
   have hlt:(i:Int)<(n:Int):=by omega
   obtain⟨ee,l,fd,gb,gk,kd,z,s,ka,ki,kj,va,vi,vj,hd,hfe,rfl,rfl,hk⟩:=HKID.out i hin;obtain⟨c1,HC1⟩:∃c1,Hid (cur++qa2 l.length=c1):=⟨_,show _=_ from rfl⟩
   obtain⟨cc,HCC⟩:∃cc,Hid (c1++l=cc):=⟨_,show _=_ from rfl⟩
   have HN:Hid (h0++(es.take (i+1)).flatMap fe=cc++fd):=by show _=_;rw[HS.out i ee hd,←hcur.out,hfe,←HCC.out,←HC1.out];simp only[List.append_assoc]
   have hl3:l.length≤999999999∧¬(cur.length+(qa2 l.length).length>9223372036854775807)∧¬(c1.length+l.length>9223372036854775807)∧¬(cc.length+fd.length>9223372036854775807):=by
    have h1:=HL.out (i+1);rw[HN.out,List.length_append] at h1;have h2:cc.length=c1.length+l.length:=by rw[←HCC.out,List.length_append]
    have h3:c1.length=cur.length+(qa2 l.length).length:=by rw[←HC1.out,List.length_append]
    omega
   obtain⟨hl3,g1,g2,g3⟩:=hl3;have HK:Hid (∀V,qyP W #[.int .i64 7,.int .i64 0,.string ⟨#[]⟩,.slice (some ⟨gk,0,none⟩) n capb,.slice (some ⟨gb,0,none⟩) n cap] V→V.cell? ⟨gk,i,none⟩=some (.string ⟨l.toArray⟩)∧(V.cell? ⟨gb,i*5,none⟩=some (.int .i64 kd)∧V.cell? ⟨gb,i*5+1,none⟩=some (.int .i64 z)∧V.cell? ⟨gb,i*5+2,none⟩=some (.string s)∧V.cell? ⟨gb,i*5+3,none⟩=some (.slice ka ki kj)∧V.cell? ⟨gb,i*5+4,none⟩=some (.slice va vi vj))∧Calls prog 74 #[.agg #[.int .i64 kd,.int .i64 z,.string s,.slice ka ki kj,.slice va vi vj]] V (WrS fd V)):=fun V hV=>hk V hV.below;have ck:=fun V=>cK V l hl3
   go_wp2_with fail
   refine rgn (S:=qyP W #[.int .i64 7,.int .i64 0,.string ⟨#[]⟩,.slice (some ⟨gk,0,none⟩) n capb,.slice (some ⟨gb,0,none⟩) n cap]) HX.out.drew (by kernel_rfl) ?_;intro hS;refine tkk 0 90 (.string ⟨cur.toArray⟩) (by kernel_rfl) iQ3 hS ?_;refine tkk 1 91 (.pointer (some ⟨W.heap.size,3,none⟩)) (by kernel_rfl) iQ3 hS ?_;refine tk 2 92 (.slice (some ⟨gk,0,none⟩) n capb) rfl (by kernel_rfl) iQ3 (fun Z hZ => ?y2) hS ?_
   case y2=>(have hz:=qab hZ.box 3;go_simp)
   refine tkk 3 93 (.int .i64 i) (by kernel_rfl) iQ3 hS ?_;refine tk 4 94 (.pointer (some ⟨gk,i,none⟩)) rfl (by kernel_rfl) iQ3 (fun Z hZ => ?y4) hS ?_
   case y4=>go_simp
   refine tk 5 95 (.string ⟨l.toArray⟩) rfl (by kernel_rfl) iQ3 (fun Z hZ => ?y5) hS ?_
   case y5=>(have hz:=(HK.out Z hZ).1;go_simp)
   refine tk 6 96 (.int .i64 l.length) rfl (by kernel_rfl) iQ3 (fun Z hZ => ?y6) hS ?_
   case y6=>go_simp
   refine tkk 9 99 (.pointer (some ⟨W.heap.size,3,none⟩)) (by kernel_rfl) iQ3 hS ?_;refine tk 10 100 (.slice (some ⟨gk,0,none⟩) n capb) rfl (by kernel_rfl) iQ3 (fun Z hZ => ?z2) hS ?_
   case z2=>(have hz:=qab hZ.box 3;go_simp)
   refine tkk 11 101 (.int .i64 i) (by kernel_rfl) iQ3 hS ?_;refine tk 12 102 (.pointer (some ⟨gk,i,none⟩)) rfl (by kernel_rfl) iQ3 (fun Z hZ => ?z4) hS ?_
   case z4=>go_simp
   refine tk 13 103 (.string ⟨l.toArray⟩) rfl (by kernel_rfl) iQ3 (fun Z hZ => ?z5) hS ?_
   case z5=>(have hz:=(HK.out Z hZ).1;go_simp)
   refine tkk 15 105 (.pointer (some ⟨W.heap.size,4,none⟩)) (by kernel_rfl) iQ3 hS ?_;refine tk 16 106 (.slice (some ⟨gb,0,none⟩) n cap) rfl (by kernel_rfl) iQ3 (fun Z hZ => ?x2) hS ?_
   case x2=>(have hz:=qab hZ.box 4;go_simp)
   refine tkk 17 107 (.int .i64 i) (by kernel_rfl) iQ3 hS ?_;refine tk 18 108 (.pointer (some ⟨gb,i*5,none⟩)) rfl (by kernel_rfl) iQ3 (fun Z hZ => ?x4) hS ?_
   case x4=>go_simp
   refine tk 19 109 (.agg #[.int .i64 kd,.int .i64 z,.string s,.slice ka ki kj,.slice va vi vj]) rfl (by kernel_rfl) iQ3 (fun Z hZ => ?x5) hS ?_
   case x5=>(obtain⟨k0,k1,k2,k3,k4⟩:=(HK.out Z hZ).2.1;go_simp)
   refine rdH 7 rfl (by kernel_rfl) (fun K hK => ?_);go_simp;refine(ck _).mono ?_;rintro e w2 ⟨rfl,hB2⟩;have hS2:=hS.next hB2
   refine hK.out _ _ hS2 (fun _ => ?_);refine tk 8 98 (qxX c1) rfl (by kernel_rfl) iQ3 (fun Z hZ => ?u1) hS2 ?_
   case u1=>(unfold qxX;go_simp;rw[←HC1.out];exact qxF _ _)
   refine tk 14 104 (qxX cc) rfl (by kernel_rfl) iQ3 (fun Z hZ => ?u2) hS2 ?_
   case u2=>(unfold qxX;go_simp;rw[←HCC.out];exact qxF _ _)
   refine rdH 20 rfl (by kernel_rfl) (fun K hK => ?_);go_simp;refine(HK.out _ hS2).2.2.mono ?_;rintro e w3 ⟨rfl,hB3⟩;have hS3:=hS2.next hB3
   refine hK.out _ _ hS3 (fun _ => ?_);refine tk 21 111 (qxX (cc++fd)) rfl (by kernel_rfl) iQ3 (fun Z hZ => ?u3) hS3 ?_
   case u3=>(unfold qxX;go_simp;exact qxF _ _)
   refine tkk 22 6 (qxX (cc++fd)) (by kernel_rfl) iQ3 hS3 ?_;refine wpAnyH_done (by kernel_rfl) ?_ _;go_wp2;go_roundg g
   case measure=>omega
   case rel=>exact⟨i+1,_,rfl,by go_num,by show _=_;have:=hg.out;omega,HN.out.symm,hS3⟩
end
end Go.Proofs.YtllcbnfmihfaaaaGreatDoor
