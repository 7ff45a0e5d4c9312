import Derived.Test.YtllcbnfmihfaaaaGreatDoorCq35
import Derived.Test.YtllcbnfmihfaaaaGreatDoorCq39
import Derived.Test.YtllcbnfmihfaaaaGreatDoorCq40
set_option maxRecDepth 100000
set_option maxHeartbeats 8000000
namespace Go.Proofs.YtllcbnfmihfaaaaGreatDoor
open Go.Proofs.Tryz
variable {N base n:Nat}{V V' W W':World}{cs:Array Value}{v v':Value}{cur:List UInt8}{c:Cfg}
section
open Go.RowKit
theorem qmy (k:Nat)(V:World)(fout:Int)(t:TypeId)(y:Value)(dd:DataW Unit)(ys:List UInt8)(hD:qai k V (fun j=>j<V.heap.size) (.iface t y) dd)(hn:¬(fout=1∧qkn k dd=true))(cW:∀U,Below V.heap.size V U→Calls prog 67 #[.int .i64 fout,.iface t y] U fun e V'=>∃v',e=.returned v'∧Own V' U.heap.size v' ys∧Below U.heap.size U V'):Calls prog 42 #[.int .i64 fout,.iface t y] V fun e V'=>∃v',e=.returned (.tuple #[v',.int .i64 0])∧Own V' V.heap.size v' ys∧Below V.heap.size V V':=by
 cases hf:(fout==1)
 ·exact qo4 V fout t y ys hf (cW V bwR)
 obtain rfl:fout=1:=by simpa using hf
 have hh:qkn k dd=false:=by cases hx:qkn k dd with|false=>rfl|true=>exact absurd ⟨rfl,hx⟩ hn
 have cH:=qia k V (fun j=>j<V.heap.size) (.iface t y) dd (fun _ h=>h) hD;rw[hh] at cH;refine qm4 V t y ys cH (fun U hU=>(cW U hU).mono ?_);rintro e w2 ⟨v',rfl,h1,h2⟩;exact⟨v',rfl,Own.mono h1 hU.size,h2.mono hU.size⟩
theorem qfA (k:Nat)(V:World)(t:TypeId)(y:Value)(dd:DataW Unit)(hD:qai k V (fun j=>j<V.heap.size) (.iface t y) dd)(hh:qkn k dd=true):Calls prog 42 #[.int .i64 1,.iface t y] V fun e V'=>e=.returned (.tuple #[.slice none 0 0,.int .i64 13])∧Below V.heap.size V V':=by
 have cH:=qia k V (fun j=>j<V.heap.size) (.iface t y) dd (fun _ h=>h) hD;rw[hh] at cH;exact qmH V t y cH
end
section
open Go.RowKit Go.Lib
def qc5 {α:Type}(T:α→List UInt8):List α→List UInt8
 |[]=>[]
 |d::ds=>T d++ds.flatMap fun e=>44::T e
theorem qhq {α:Type}(T:α→List UInt8)(l:List α)(d:α)(hd:l[0]? = some d):qc5 T (l.take 1)=T d:=by
 cases l with
 |nil=>simp at hd
 |cons a l=>simp at hd;subst hd;simp[qc5]
theorem qjP {α:Type}(T:α→List UInt8)(l:List α)(k:Nat)(hk:0<k)(d:α)(hd:l[k]? = some d):qc5 T (l.take (k+1))=(qc5 T (l.take k)++[44])++T d:=by
 cases l with
 |nil=>simp at hd
 |cons a l =>
  cases k with
  |zero=>omega
  |succ k =>
   rw[List.getElem?_cons_succ] at hd;rw[List.take_succ_cons,List.take_succ_cons];unfold qc5;rw[List.take_add_one,hd];simp
theorem qfx {α:Type}(T:α→List UInt8)(l:List α)(k:Nat):(qc5 T (l.take k)).length≤(qc5 T l).length:=by
 cases l with
 |nil=>simp
 |cons a l =>
  cases k with
  |zero=>simp[qc5]
  |succ k =>
   rw[List.take_succ_cons];unfold qc5;rw[List.length_append,List.length_append];have h2:(l.flatMap fun e=>44::T e).length=((l.take k).flatMap fun e=>44::T e).length+((l.drop k).flatMap fun e=>44::T e).length:=by
    rw[←List.length_append,←List.flatMap_append,List.take_append_drop]
   omega
def qef (W:World)(base:Nat)(x:Value)(ys:List UInt8):Prop:=∀(V:World) (v:Value) (bs:List UInt8),Below base W V→Own V base v bs→bs.length+ys.length≤999999999→Calls prog 109 #[v,x] V fun e W'=>∃v',e=.returned v'∧Own W' base v' (bs++ys)∧Below base V W'
theorem qry (T:DataW Unit→List UInt8)(W:World)(base:Nat)(v:Value)(q:Option Addr)(cap:Nat)(F:Nat→Prop)(hF:∀k,F k→k<base)(bs:List UInt8)(ds:List (DataW Unit))(xs:List Value)(hl:bs.length+(qc5 T ds).length+2≤999999999)(hn:ds.length≤999999999)(hu:qb1 W 81 1 F (.slice q ds.length cap) ds.length xs)(hit:∀(i:Nat) (x:Value) (d:DataW Unit),xs[i]? = some x→ds[i]? = some d→qef W base x (T d))(hif:∀(i:Nat) (x:Value),xs[i]? = some x→∃t y,x=.iface t y)(h:Own W base v bs):Calls prog 161 #[v,.slice q ds.length cap] W fun e W'=>∃v',e=.returned v'∧Own W' base v' (((bs++[91])++qc5 T ds)++[93])∧Below base W W':=by
 obtain⟨i0,hi,hz0,hz1,hz2⟩:=info_parts Tryz.infoU8;obtain⟨a,n,c,rfl⟩:=h.2.2;have HO:=qaa h;have HU:=qaa hu;have HI:=qaa hit;have HF:=qaa hif;go_enter func161,ntmps161
 go_wp2_with (first
  |(at_builtin;refine wpList_append_own _ rfl _ _ 28 rfl base 5 i0 (.int .u8 0) 1 1 underlying28 hi hz0 hz1 hz2 rfl (by decide) _ _ _ rfl (HO.out.1.alloc _) ⟨W.heap.size,0,none⟩ 1 1 [.int .u8 91] rfl rfl (qag _ _ _) (fun u hu=>by simp at hu;subst hu;rfl) (by unfold maxLen;omega) (by omega) (by simp;have:=HO.out.2.1;omega) ?_;intro v' w2 hown' hgrow' hnil';obtain⟨gw2,capw2,rfl⟩:=ownsRow_succ hown';have HB2:=qaa (qaz ((Below.refl _ _).alloc HO.out.2.1 _) (HO.out.1.alloc _) hgrow' (by simp;have:=HO.out.2.1;omega));have HO2:Hid (Own w2 base (.slice (some ⟨gw2,0,none⟩) _ capw2) (bs++[91])):=⟨qbG hown' rfl,Nat.le_trans HO.out.2.1 HB2.out.size,_,_,_,rfl⟩))
 go_loopg [0,12] ds.length (fun g y z wr=>∃(k:Nat) (a3:Option Addr) (n3 c3:Nat),y=.slice a3 n3 c3∧z=.int .i64 k∧Hid (k+g=ds.length)∧Hid (Own wr base (.slice a3 n3 c3) ((bs++[91])++qc5 T (ds.take k)))∧Hid (Below base W wr))
 case atStart=>exact⟨0,_,_,_,rfl,rfl,by show _=_;omega,by simpa [qc5] using HO2,HB2⟩
 case round =>
  obtain⟨k,a3,n3,c3,rfl,rfl,hk,HO3,HB3⟩:=hrel;have hln:((bs++[91])++qc5 T (ds.take k)).length≤999999998:=by
   have:=qfx T ds k;simp only[List.length_append,List.length_cons,List.length_nil];omega
  obtain⟨cur,HC⟩:∃cur,Hid ((bs++[91])++qc5 T (ds.take k)=cur):=⟨_,show _=_ from rfl⟩
  rw[HC.out] at HO3 hln
  cases gk with
  |zero =>
   have hlt:¬(k:Int)<ds.length:=by have:=hk.out;omega
   have HT:Hid (ds.take k=ds):=by show _=_;exact List.take_of_length_le (by have:=hk.out;omega)
   go_wp2_with (first
    |(at_builtin;refine wpList_append_own _ rfl _ _ 28 rfl base 5 i0 (.int .u8 0) 1 1 underlying28 hi hz0 hz1 hz2 rfl (by decide) _ _ _ rfl (HO3.out.1.alloc _) ⟨wr.heap.size,0,none⟩ 1 1 [.int .u8 93] rfl rfl (qag _ _ _) (fun u hu=>by simp at hu;subst hu;rfl) (by unfold maxLen;omega) (by omega) (by simp;have:=HO3.out.2.1;omega) ?_;intro v' w4 hown' hgrow' hnil';obtain⟨gw4,capw4,rfl⟩:=ownsRow_succ hown';have HB4:=qaa (qaz ((Below.refl _ _).alloc HO3.out.2.1 _) (HO3.out.1.alloc _) hgrow' (by simp;have:=HO3.out.2.1;omega));have HO4:Hid (Own w4 base (.slice (some ⟨gw4,0,none⟩) _ capw4) (cur++[93])):=⟨qbG hown' rfl,Nat.le_trans HO3.out.2.1 HB4.out.size,_,_,_,rfl⟩))
   go_ret;have he:cur++[93]=bs++91::(qc5 T ds++[93]):=by
    rw[←HC.out,HT.out];simp
   have h4:=HO4.out;rw[he] at h4;exact⟨_,rfl,h4,HB3.out.trans HB4.out⟩
  |succ g =>
   have hkn:k<ds.length:=by have:=hk.out;omega
   have hlt:(k:Int)<ds.length:=by omega
   have HR:=HU.out.same (V':=wr) (G:=F) (fun _ h=>h) (fun j hj=>HB3.out.block j (hF j hj));obtain⟨q0,rfl⟩:∃q0,q=some ⟨q0,0,none⟩:=by
    rcases HR.2 with ⟨_,e⟩|⟨g,cap',cur,e,_⟩
    ·omega
    injection e with e1 e2 e3;exact⟨g,e1⟩
   have hxl:xs.length=ds.length:=by have:=HR.1;omega
   obtain⟨x,hx⟩:∃x,xs[k]? = some x:=⟨xs[k],List.getElem?_eq_getElem (by omega)⟩
   obtain⟨d,hd⟩:∃d,ds[k]? = some d:=⟨ds[k],List.getElem?_eq_getElem hkn⟩
   obtain⟨tx,yx,rfl⟩:=HF.out k x hx;have hc:wr.cell? ⟨q0,k,none⟩=some (.iface tx yx):=by
    have:=HR.cell k _ hx;have e:(⟨q0,0,none⟩:Addr).add k=⟨q0,k,none⟩:=by by_cases h:k=0<;>simp[Addr.add,h]
    rwa [e] at this
   have hTl:=qfx T ds (k+1);have HIT:=HI.out k _ d hx hd;have HIH:=qaa HIT;have hcc:(wr.alloc (.cells #[.int .u8 44] 5)).cell? ⟨q0,k,none⟩=some (.iface tx yx):=(World.cell?_alloc_some wr _ _ (by rw[hc];rfl)).trans hc;by_cases hk0:k=0
   ·subst hk0;have HT:=qaa (qhq T ds d hd);have HL:Hid (cur.length+(T d).length≤999999999):=by
     show _≤_;rw[←HC.out];rw[HT.out] at hTl;simp only[List.length_append,List.length_cons,List.length_nil,List.take_zero,qc5];omega
    have cI:=HIH.out wr _ _ HB3.out HO3.out HL.out;have HK:Hid (0+(g+1)=ds.length):=hk
    go_wp2_with (first
     |(go_at_call 109;refine cI.mono ?_;rintro e w4 ⟨v4,rfl,h4,hB4⟩;obtain⟨o4,b4,a4,n4,c4,rfl⟩:=h4;have HO4:Hid (Own w4 base (.slice a4 n4 c4) (cur++T d)):=⟨o4,b4,_,_,_,rfl⟩;have HB4:=qaa (HB3.out.trans hB4)))
    go_roundg g
    case measure=>omega
    case rel=>exact⟨1,a4,n4,c4,rfl,by go_num,by show _=_;have:=HK.out;omega,by show Own _ _ _ _;rw[HT.out];have h4:=HO4.out;rw[←HC.out] at h4;simpa [qc5] using h4,HB4⟩
   have hk1:decide ((0:Int)<(k:Int))=true:=by simp;omega
   have hk2:(0:Int)<(k:Int):=by omega
   have HT:=qaa (qjP T ds k (by omega) d hd);have HL:Hid ((cur++[44]).length+(T d).length≤999999999):=by
    show _≤_;rw[←HC.out];rw[HT.out] at hTl;simp only[List.length_append,List.length_cons,List.length_nil] at hTl ⊢;omega
   go_wp2_with (first
    |(at_builtin;refine wpList_append_own _ rfl _ _ 28 rfl base 5 i0 (.int .u8 0) 1 1 underlying28 hi hz0 hz1 hz2 rfl (by decide) _ _ _ rfl (HO3.out.1.alloc _) ⟨wr.heap.size,0,none⟩ 1 1 [.int .u8 44] rfl rfl (qag _ _ _) (fun u hu=>by simp at hu;subst hu;rfl) (by unfold maxLen;omega) (by omega) (by simp;have:=HO3.out.2.1;omega) ?_;intro v' w4 hown' hgrow' hnil';obtain⟨gw4,capw4,rfl⟩:=ownsRow_succ hown';have HB4:=qaa (qaz ((Below.refl _ _).alloc HO3.out.2.1 _) (HO3.out.1.alloc _) hgrow' (by simp;have:=HO3.out.2.1;omega));have HO4:Hid (Own w4 base (.slice (some ⟨gw4,0,none⟩) _ capw4) (cur++[44])):=⟨qbG hown' rfl,Nat.le_trans HO3.out.2.1 HB4.out.size,_,_,_,rfl⟩;have cI:=HIH.out w4 _ _ (HB3.out.trans HB4.out) HO4.out HL.out)
    |(go_at_call 109;refine cI.mono ?_;rintro e w5 ⟨v5,rfl,h5,hB5⟩;obtain⟨o5,b5,a5,n5,c5,rfl⟩:=h5;have HO5:Hid (Own w5 base (.slice a5 n5 c5) ((cur++[44])++T d)):=⟨o5,b5,_,_,_,rfl⟩;have HB5:=qaa ((HB3.out.trans HB4.out).trans hB5)))
   go_roundg g
   case measure=>omega
   case rel=>exact⟨k+1,a5,n5,c5,rfl,by go_num,by show _=_;have:=hk.out;omega,by show Own _ _ _ _;rw[HT.out];have h5:=HO5.out;rw[←HC.out] at h5;simpa only [List.append_assoc] using h5,HB5⟩
def qfn (T:DataW Unit→List UInt8)(e:Lit×DataW Unit):List UInt8:=(jsT (qb7 e.1)++[58])++T e.2
structure qnm (base:Nat)(W:World)(N:Nat)(cs:Array Value)(v:Value)(cur:List UInt8)(V:World):Prop where
 own:Own V base v cur
 below:Below base W V
 row:V.heap[N]? = some (.cells cs 208)
theorem qnm.app {o:Obj}{b:UInt8}(h:qnm base W N cs v cur V)(hown:V'.ownsRow base 5 1 v' (cur.length+1) (cur.map qav++[qav b]))(hg:(V.alloc o).grownBy V' v.ownBlock):qnm base W N cs v' (cur++[b]) V':=by
 have hB:=qaz ((Below.refl base V).alloc h.own.2.1 _) (h.own.1.alloc _) hg (by have:=h.own.2.1;simp;omega);refine⟨⟨by rw[List.length_append,List.map_append];exact hown,Nat.le_trans h.own.2.1 hB.size,?_⟩,h.below.trans hB,?_⟩
 ·rcases hown.2 with ⟨e,_⟩|⟨g,cap,c,e,_⟩
  ·exact⟨none,0,0,e⟩
  exact⟨_,_,_,e⟩
 exact((qed V o).trans (qek (h.own.1.alloc o) hg)) N cs _ _ h.row (by decide)
theorem qnm.said {l:List UInt8}(h:qnm base W N cs v cur V)(ho:Own V' base v' (cur++l))(hB:Below base V V')(hk:KpU V V'):qnm base W N cs v' (cur++l) V' :=
 ⟨ho,h.below.trans hB,hk N cs _ _ h.row (by decide)⟩
theorem qlE {bs:List UInt8}(h:Own W base v bs)(hne:0<bs.length):∃g cap,v=.slice (some ⟨g,0,none⟩) bs.length cap:=by
 rcases h.1.2 with ⟨_,h0⟩|⟨g,cap,c,h0,_⟩
 ·omega
 exact⟨g,cap,h0⟩
theorem qkp (l:List UInt8):0<(jsT l).length:=by simp[jsT]
theorem qtV (T:DataW Unit→List UInt8)(W:World)(base:Nat)(v:Value)(q:Option Addr)(cap:Nat)(F:Nat→Prop)(hF:∀k,F k→k<base)(bs:List UInt8)(es:List (Lit×DataW Unit))(xs:List Value)(hl:bs.length+(qc5 (qfn T) es).length+2≤999999999)(hn:es.length≤999999999)(hu:qb1 W 208 2 F (.slice q es.length cap) es.length xs)(hit:∀(i:Nat) (key:Lit) (d:DataW Unit),es[i]? = some (key,d)→∃l t y,key=.string l∧xs[2*i]? = some (.string ⟨l.toArray⟩)∧xs[2*i+1]? = some (.iface t y)∧qef W base (.iface t y) (T d))(h:Own W base v bs):Calls prog 162 #[v,.slice q es.length cap] W fun e W'=>∃v',e=.returned v'∧Own W' base v' (((bs++[123])++qc5 (qfn T) es)++[125])∧Below base W W':=by
 obtain⟨i0,hi,hz0,hz1,hz2⟩:=info_parts Tryz.infoU8;obtain⟨a,n,c,rfl⟩:=h.2.2;have HO:=qaa h;have HU:=qaa hu;have HI:=qaa hit;go_enter func162,ntmps162
 go_wp2_with (first
  |(at_builtin;refine wpList_append_own _ rfl _ _ 28 rfl base 5 i0 (.int .u8 0) 1 1 underlying28 hi hz0 hz1 hz2 rfl (by decide) _ _ _ rfl (HO.out.1.alloc _) ⟨W.heap.size,0,none⟩ 1 1 [.int .u8 123] rfl rfl (qag _ _ _) (fun u hu=>by simp at hu;subst hu;rfl) (by unfold maxLen;omega) (by omega) (by simp;have:=HO.out.2.1;omega) ?_;intro v' w2 hown' hgrow' hnil';obtain⟨gw2,capw2,rfl⟩:=ownsRow_succ hown';have HB2:=qaa (qaz ((Below.refl _ _).alloc HO.out.2.1 _) (HO.out.1.alloc _) hgrow' (by simp;have:=HO.out.2.1;omega));have HO2:Hid (Own w2 base (.slice (some ⟨gw2,0,none⟩) _ capw2) (bs++[123])):=⟨qbG hown' rfl,Nat.le_trans HO.out.2.1 HB2.out.size,_,_,_,rfl⟩))
 go_loopg [0,12] es.length (fun g y z wr=>∃(k:Nat) (a3:Option Addr) (n3 c3:Nat),y=.slice a3 n3 c3∧z=.int .i64 k∧Hid (k+g=es.length)∧Hid (Own wr base (.slice a3 n3 c3) ((bs++[123])++qc5 (qfn T) (es.take k)))∧Hid (Below base W wr))
 case atStart=>exact⟨0,_,_,_,rfl,rfl,by show _=_;omega,by simpa [qc5] using HO2,HB2⟩
 case round =>
  obtain⟨k,a3,n3,c3,rfl,rfl,hk,HO3,HB3⟩:=hrel;have hln:((bs++[123])++qc5 (qfn T) (es.take k)).length≤999999998:=by
   have:=qfx (qfn T) es k;simp only[List.length_append,List.length_cons,List.length_nil];omega
  obtain⟨cur,HC⟩:∃cur,Hid ((bs++[123])++qc5 (qfn T) (es.take k)=cur):=⟨_,show _=_ from rfl⟩
  rw[HC.out] at HO3 hln
  cases gk with
  |zero =>
   have hlt:¬(k:Int)<es.length:=by have:=hk.out;omega
   have HT:Hid (es.take k=es):=by show _=_;exact List.take_of_length_le (by have:=hk.out;omega)
   go_wp2_with (first
    |(at_builtin;refine wpList_append_own _ rfl _ _ 28 rfl base 5 i0 (.int .u8 0) 1 1 underlying28 hi hz0 hz1 hz2 rfl (by decide) _ _ _ rfl (HO3.out.1.alloc _) ⟨wr.heap.size,0,none⟩ 1 1 [.int .u8 125] rfl rfl (qag _ _ _) (fun u hu=>by simp at hu;subst hu;rfl) (by unfold maxLen;omega) (by omega) (by simp;have:=HO3.out.2.1;omega) ?_;intro v' w4 hown' hgrow' hnil';obtain⟨gw4,capw4,rfl⟩:=ownsRow_succ hown';have HB4:=qaa (qaz ((Below.refl _ _).alloc HO3.out.2.1 _) (HO3.out.1.alloc _) hgrow' (by simp;have:=HO3.out.2.1;omega));have HO4:Hid (Own w4 base (.slice (some ⟨gw4,0,none⟩) _ capw4) (cur++[125])):=⟨qbG hown' rfl,Nat.le_trans HO3.out.2.1 HB4.out.size,_,_,_,rfl⟩))
   go_ret;have he:cur++[125]=((bs++[123])++qc5 (qfn T) es)++[125]:=by rw[←HC.out,HT.out]
   have h4:=HO4.out;rw[he] at h4
   first|exact⟨_,rfl,h4,HB3.out.trans HB4.out⟩|exact⟨_,rfl,by simpa using h4,HB3.out.trans HB4.out⟩
  |succ g =>
   have hkn:k<es.length:=by have:=hk.out;omega
   have hlt:(k:Int)<es.length:=by omega
   have HR:=HU.out.same (V':=wr) (G:=F) (fun _ h=>h) (fun j hj=>HB3.out.block j (hF j hj));obtain⟨q0,rfl⟩:∃q0,q=some ⟨q0,0,none⟩:=by
    rcases HR.2 with ⟨_,e⟩|⟨g,cap',cur,e,_⟩
    ·omega
    injection e with e1 e2 e3;exact⟨g,e1⟩
   obtain⟨⟨key,d⟩,hd⟩:∃d,es[k]? = some d:=⟨es[k],List.getElem?_eq_getElem hkn⟩
   obtain⟨l,tx,yx,rfl,hx0,hx1,hI⟩:=HI.out k key d hd;have hc0:wr.cell? ⟨q0,k*2,none⟩=some (.string ⟨l.toArray⟩):=by
    have:=HR.cell (2*k) _ hx0;have e:(⟨q0,0,none⟩:Addr).add (2*k)=⟨q0,k*2,none⟩:=by by_cases h:2*k=0<;>simp only[Addr.add,h,Nat.zero_add,Nat.mul_comm k 2,if_true,if_false]
    rwa [e] at this
   have hc1:wr.cell? ⟨q0,k*2+1,none⟩=some (.iface tx yx):=by
    have:=HR.cell (2*k+1) _ hx1;have e:(⟨q0,0,none⟩:Addr).add (2*k+1)=⟨q0,k*2+1,none⟩:=by simp[Addr.add,Nat.mul_comm]
    rwa [e] at this
   have HV0:Hid (qnm base W wr.heap.size #[.string ⟨l.toArray⟩,.iface tx yx] (.slice a3 n3 c3) cur (wr.alloc (.cells #[.string ⟨l.toArray⟩,.iface tx yx] 208))):=⟨⟨HO3.out.1.alloc _,by have:=HO3.out.2.1;simp;omega,_,_,_,rfl⟩,HB3.out.trans ((Below.refl base wr).alloc HO3.out.2.1 _),qac _ _⟩
   have HJ:=qaa hI;have hTl:=qfx (qfn T) es (k+1);have hej:(qfn T (.string l,d)).length=(jsT l).length+1+(T d).length:=by simp[qfn,qb7];omega
   by_cases hk0:k=0
   ·subst hk0;have HT:=qaa (qhq (qfn T) es (.string l,d) hd);have hL:cur.length+(jsT l).length+1+(T d).length+1≤999999999:=by
     rw[HT.out] at hTl;rw[←HC.out];simp only[List.length_append,List.length_cons,List.length_nil,List.take_zero,qc5];omega
    have HE:Hid (((cur++jsT l)++[58])++T d=(bs++[123])++qc5 (qfn T) (es.take (0+1))):=by
     show _=_;rw[HT.out,←HC.out];simp[qfn,qb7,qc5]
    have cT:=qil _ base _ ⟨l.toArray⟩ cur (by show _+(jsT l).length≤_;omega) HV0.out.own;have e9:jsT (⟨l.toArray⟩:ByteArray).data.toList=jsT l:=rfl;rw[e9] at cT
    go_wp2_with (first
     |(go_at_call 160;refine cT.mono ?_;rintro e w5 ⟨v5,rfl,h5,hB5,hK5⟩;obtain⟨cur2,HC2⟩:∃z,Hid (cur++jsT l=z):=⟨_,show _=_ from rfl⟩;have HL2:Hid (0<cur2.length∧cur2.length+1+(T d).length+1≤999999999):=(by rw[←HC2.out];have:=qkp l;simp only[List.length_append];exact⟨by omega,by omega⟩);have HV5:Hid (qnm base W wr.heap.size #[.string ⟨l.toArray⟩,.iface tx yx] v5 cur2 w5):=(by rw[←HC2.out];exact HV0.out.said h5 hB5 hK5);obtain⟨g5,c5,rfl⟩:=qlE HV5.out.own HL2.out.1)
     |(at_builtin;refine wpList_append_own _ rfl _ _ 28 rfl base 5 i0 (.int .u8 0) 1 1 underlying28 hi hz0 hz1 hz2 rfl (by decide) _ _ _ rfl (HV5.out.own.1.alloc _) ⟨w5.heap.size,0,none⟩ 1 1 [.int .u8 58] rfl rfl (qag _ _ _) (fun u hu=>by simp at hu;subst hu;rfl) (by have:=HL2.out.2;unfold maxLen;omega) (by have:=HL2.out.2;omega) (by have:=HV5.out.own.2.1;simp only[World.size_alloc] at this ⊢;omega) ?_;intro v' w6 hown' hgrow' hnil';obtain⟨gw6,capw6,rfl⟩:=ownsRow_succ hown';have HV6:Hid (qnm base W wr.heap.size #[.string ⟨l.toArray⟩,.iface tx yx] (.slice (some ⟨gw6,0,none⟩) (cur2.length+1) capw6) (cur2++[58]) w6):=HV5.out.app hown' hgrow';have hf1:=qab HV6.out.row 1)
     |(go_at_call 109;refine(HJ.out w6 _ _ HV6.out.below HV6.out.own (by have:=HL2.out.2;simp only[List.length_append,List.length_cons,List.length_nil];omega)).mono ?_;rintro e w7 ⟨v7,rfl,h7,hB7⟩;obtain⟨o7,b7,a7,n7,c7,rfl⟩:=h7;have HO7:Hid (Own w7 base (.slice a7 n7 c7) ((cur2++[58])++T d)):=⟨o7,b7,_,_,_,rfl⟩;have HB7:=qaa (HV6.out.below.trans hB7)))
    go_roundg g
    case measure=>omega
    case rel=>exact⟨1,a7,n7,c7,rfl,by go_num,by show _=_;have:=hk.out;omega,by have h:=HO7.out;rw[←HC2.out,HE.out] at h;exact h,HB7⟩
   have HT:=qaa (qjP (qfn T) es k (by omega) (.string l,d) hd);have hkp:(0:Int)<(k:Int):=by omega
   have hL:cur.length+1+(jsT l).length+1+(T d).length+1≤999999999:=by
    rw[HT.out] at hTl;rw[←HC.out];simp only[List.length_append,List.length_cons,List.length_nil] at hTl ⊢;omega
   have HE:Hid ((((cur++[44])++jsT l)++[58])++T d=(bs++[123])++qc5 (qfn T) (es.take (k+1))):=by
    show _=_;rw[HT.out,←HC.out];simp[qfn,qb7]
   go_wp2_with (first
    |(at_builtin;refine wpList_append_own _ rfl _ _ 28 rfl base 5 i0 (.int .u8 0) 1 1 underlying28 hi hz0 hz1 hz2 rfl (by decide) _ _ _ rfl (HV0.out.own.1.alloc _) ⟨wr.heap.size+1,0,none⟩ 1 1 [.int .u8 44] rfl rfl (by have h:=qag (wr.alloc (.cells #[.string ⟨l.toArray⟩,.iface tx yx] 208)) #[.int .u8 44] 5;rw[World.size_alloc] at h;exact h) (fun u hu=>by simp at hu;subst hu;rfl) (by unfold maxLen;omega) (by omega) (by have:=HV0.out.own.2.1;simp only[World.size_alloc] at this ⊢;omega) ?_;intro v' w4 hown' hgrow' hnil';obtain⟨gw4,capw4,rfl⟩:=ownsRow_succ hown';have HV4:Hid (qnm base W wr.heap.size #[.string ⟨l.toArray⟩,.iface tx yx] (.slice (some ⟨gw4,0,none⟩) (cur.length+1) capw4) (cur++[44]) w4):=HV0.out.app hown' hgrow';have hf0:=qab HV4.out.row 0;have cT:=qil _ base _ ⟨l.toArray⟩ (cur++[44]) (by show _+(jsT l).length≤_;simp only[List.length_append,List.length_cons,List.length_nil];omega) HV4.out.own;have e9:jsT (⟨l.toArray⟩:ByteArray).data.toList=jsT l:=rfl;rw[e9] at cT)
    |(go_at_call 160;refine cT.mono ?_;rintro e w5 ⟨v5,rfl,h5,hB5,hK5⟩;obtain⟨cur2,HC2⟩:∃z,Hid ((cur++[44])++jsT l=z):=⟨_,show _=_ from rfl⟩;have HL2:Hid (0<cur2.length∧cur2.length+1+(T d).length+1≤999999999):=(by rw[←HC2.out];have:=qkp l;simp only[List.length_append,List.length_cons,List.length_nil];exact⟨by omega,by omega⟩);have HV5:Hid (qnm base W wr.heap.size #[.string ⟨l.toArray⟩,.iface tx yx] v5 cur2 w5):=(by rw[←HC2.out];exact HV4.out.said h5 hB5 hK5);obtain⟨g5,c5,rfl⟩:=qlE HV5.out.own HL2.out.1)
    |(at_builtin;refine wpList_append_own _ rfl _ _ 28 rfl base 5 i0 (.int .u8 0) 1 1 underlying28 hi hz0 hz1 hz2 rfl (by decide) _ _ _ rfl (HV5.out.own.1.alloc _) ⟨w5.heap.size,0,none⟩ 1 1 [.int .u8 58] rfl rfl (qag _ _ _) (fun u hu=>by simp at hu;subst hu;rfl) (by have:=HL2.out.2;unfold maxLen;omega) (by have:=HL2.out.2;omega) (by have:=HV5.out.own.2.1;simp only[World.size_alloc] at this ⊢;omega) ?_;intro v' w6 hown' hgrow' hnil';obtain⟨gw6,capw6,rfl⟩:=ownsRow_succ hown';have HV6:Hid (qnm base W wr.heap.size #[.string ⟨l.toArray⟩,.iface tx yx] (.slice (some ⟨gw6,0,none⟩) (cur2.length+1) capw6) (cur2++[58]) w6):=HV5.out.app hown' hgrow';have hf1:=qab HV6.out.row 1)
    |(go_at_call 109;refine(HJ.out w6 _ _ HV6.out.below HV6.out.own (by have:=HL2.out.2;simp only[List.length_append,List.length_cons,List.length_nil];omega)).mono ?_;rintro e w7 ⟨v7,rfl,h7,hB7⟩;obtain⟨o7,b7,a7,n7,c7,rfl⟩:=h7;have HO7:Hid (Own w7 base (.slice a7 n7 c7) ((cur2++[58])++T d)):=⟨o7,b7,_,_,_,rfl⟩;have HB7:=qaa (HV6.out.below.trans hB7)))
   go_roundg g
   case measure=>omega
   case rel=>exact⟨k+1,a7,n7,c7,rfl,by go_num,by show _=_;have:=hk.out;omega,by have h:=HO7.out;rw[←HC2.out,HE.out] at h;exact h,HB7⟩
def qbd:Nat→DataW Unit→List UInt8
 |0,_=>[]
 |k+1,d=>match d with
  |.lit (.bool b)=>bif b then [116,114,117,101] else [102,97,108,115,101]
  |.lit (.int .i64 z)=>Lib.itoa z
  |.lit (.string l)=>jsT l
  |.agg ds=>([91]++qc5 (qbd k) ds)++[93]
  |.map es=>([123]++qc5 (qfn (qbd k)) es)++[125]
  |_=>[110,117,108,108]
theorem qoz (W:World)(base:Nat)(v:Value)(a':Option Addr)(n' c':Nat)(bs:List UInt8)(hl:bs.length≤999999999)(h:Own W base v bs):Calls prog 109 #[v,.iface 202 (.slice a' n' c')] W fun e W'=>∃v',e=.returned v'∧Own W' base v' (bs++[110,117,108,108])∧Below base W W':=by
 obtain⟨i0,hi,hz0,hz1,hz2⟩:=info_parts Tryz.infoU8;obtain⟨a,n,c,rfl⟩:=h.2.2;have HO:=qaa h;have ta0:=qbL a' n' c';have ta1:=qb3 a' n' c';have ta2:=qbX a' n' c';have ta3:∀w:World,(Instr.typeAssert (.iface 202 (.slice a' n' c')) 81 204 true).run prog w=.ok (.tuple #[.slice none 0 0,.bool false]) w:=fun w=>by kernel_rfl
 have ta4:∀w:World,(Instr.typeAssert (.iface 202 (.slice a' n' c')) 81 206 true).run prog w=.ok (.tuple #[.slice none 0 0,.bool false]) w:=fun w=>by kernel_rfl
 have hsz:(⟨([110,117,108,108]:List UInt8).toArray⟩:ByteArray).size=4:=rfl;go_enter func109,ntmps109
 go_wp2_with (first
  |(at_builtin;refine wpList_append_own_string _ rfl _ _ 28 9 rfl base 5 i0 underlying28 underlying9 hi hz0 hz1 hz2 _ _ _ rfl HO.out.1 ⟨[110,117,108,108].toArray⟩ rfl (by rw[hsz];unfold maxLen;omega) (by rw[hsz];omega) HO.out.2.1 ?_;intro v' w5 hown' hgrow5 hnil5;have HN:=qaa (qaL HO.out hown' hgrow5)))
 go_ret;exact⟨_,rfl,HN.out⟩
theorem qtX (W:World)(base:Nat)(v:Value)(bs:List UInt8)(z:Int)(hn1 : -9223372036854775808≤z)(hn2:z≤9223372036854775807)(hl:bs.length≤999999999)(h:Own W base v bs)(ht:qiG base W):Calls prog 109 #[v,.iface 279 (.int .i64 z)] W fun e W'=>∃v',e=.returned v'∧Own W' base v' (bs++Lib.itoa z)∧Below base W W':=by
 have cA:=qhQ W base v bs z hn1 hn2 hl h ht;obtain⟨a,n,c,rfl⟩:=h.2.2;have ta0:=qdt z;have ta1:=qfJ z;go_enter func109,ntmps109
 go_wp2_with (first
  |(go_at_call 159;refine cA.mono ?_;rintro e w6 ⟨v6,rfl,h6,hB6⟩;obtain⟨h61,h62,a6,n6,c6,rfl⟩:=h6))
 go_ret;exact⟨_,rfl,⟨h61,h62,_,_,_,rfl⟩,hB6⟩
theorem qtB (W:World)(base:Nat)(v:Value)(bs l:List UInt8)(hl:bs.length+(jsT l).length≤999999999)(h:Own W base v bs):Calls prog 109 #[v,.iface 281 (.string ⟨l.toArray⟩)] W fun e W'=>∃v',e=.returned v'∧Own W' base v' (bs++jsT l)∧Below base W W':=by
 have cA:=qil W base v ⟨l.toArray⟩ bs hl h;have e9:jsT (⟨l.toArray⟩:ByteArray).data.toList=jsT l:=rfl;rw[e9] at cA;obtain⟨a,n,c,rfl⟩:=h.2.2;have ta0:=qdU ⟨l.toArray⟩;have ta1:=qdi ⟨l.toArray⟩;have ta2:=qeH ⟨l.toArray⟩;go_enter func109,ntmps109
 go_wp2_with (first
  |(go_at_call 160;refine cA.mono ?_;rintro e w6 ⟨v6,rfl,h6,hB6,_⟩;obtain⟨h61,h62,a6,n6,c6,rfl⟩:=h6))
 go_ret;exact⟨_,rfl,⟨h61,h62,_,_,_,rfl⟩,hB6⟩
theorem qsR (W:World)(base:Nat)(v:Value)(q:Option Addr)(m cap:Nat)(ys:List UInt8)(ho:∃a n c,v=.slice a n c)(cA:Calls prog 161 #[v,.slice q m cap] W fun e W'=>∃v',e=.returned v'∧Own W' base v' ys∧Below base W W'):Calls prog 109 #[v,.iface 204 (.slice q m cap)] W fun e W'=>∃v',e=.returned v'∧Own W' base v' ys∧Below base W W':=by
 obtain⟨a,n,c,rfl⟩:=ho;have ta0:=qdI q m cap;have ta1:=qda q m cap;have ta2:=qeI q m cap;have ta4:=qeC q m cap;go_enter func109,ntmps109
 go_wp2_with (first
  |(go_at_call 161;refine cA.mono ?_;rintro e w6 ⟨v6,rfl,h6,hB6⟩;obtain⟨h61,h62,a6,n6,c6,rfl⟩:=h6))
 go_ret;exact⟨_,rfl,⟨h61,h62,_,_,_,rfl⟩,hB6⟩
theorem qvk (W:World)(base:Nat)(v:Value)(q:Option Addr)(m cap:Nat)(ys:List UInt8)(ho:∃a n c,v=.slice a n c)(cA:Calls prog 162 #[v,.slice q m cap] W fun e W'=>∃v',e=.returned v'∧Own W' base v' ys∧Below base W W'):Calls prog 109 #[v,.iface 206 (.slice q m cap)] W fun e W'=>∃v',e=.returned v'∧Own W' base v' ys∧Below base W W':=by
 obtain⟨a,n,c,rfl⟩:=ho;have ta0:=qeD q m cap;have ta1:=qdR q m cap;have ta2:=qf7 q m cap;have ta4:=qfH q m cap;have ta5:=qhO q m cap;go_enter func109,ntmps109
 go_wp2_with (first
  |(go_at_call 162;refine cA.mono ?_;rintro e w6 ⟨v6,rfl,h6,hB6⟩;obtain⟨h61,h62,a6,n6,c6,rfl⟩:=h6))
 go_ret;exact⟨_,rfl,⟨h61,h62,_,_,_,rfl⟩,hB6⟩
theorem qsD {α:Type}(f:α→List UInt8)(l:List α)(h:∀a,a∈l→1≤(f a).length):l.length≤(qc5 f l).length:=by
 cases l with
 |nil=>simp
 |cons a l =>
  have h1:=h a (List.mem_cons_self ..);have h2:=qeE (fun e=>44::f e) l fun b _=>by simp
  unfold qc5;rw[List.length_append,List.length_cons];omega
theorem qv6 (n:Nat):1≤(decDigits n).length:=by
 unfold decDigits;split<;>simp
theorem quI (z:Int):1≤(Lib.itoa z).length:=by
 unfold itoa;split
 ·simp
 exact qv6 _
theorem qph {F:Nat→Prop}:∀{k:Nat} {v:Value} {d:DataW Unit},qai k V F v d→1≤(qbd k d).length
 |0,_,_,h=>h.elim
 |k+1,v,d,h=>by
  unfold qai at h;split at h
  ·simp[qbd]
  ·rename_i b
   cases b<;>simp[qbd]
  ·exact quI _
  ·exact qkp _
  ·simp[qbd]
  ·simp[qbd]
  ·simp[qbd]
  exact h.elim
theorem qiS:∀(k:Nat) (W:World) (base:Nat) (F:Nat→Prop) (x:Value) (d:DataW Unit),(∀j,F j→j<base)→qiG base W→qai k W F x d→qef W base x (qbd k d)
 |0,_,_,_,_,_,_,_,h=>h.elim
 |k+1,W0,base,F,x,d,hF,hT0,h0=>by
  intro W v bs hW hO hl;have h:=h0.same (fun _ h=>h) (fun j hj=>hW.block j (hF j hj));have hT:qiG base W:=Lib.TabBelow.on hT0 hW;have hl1:bs.length≤999999999:=by omega
  have inner:∀y d',qai k W F y d'→qef W base y (qbd k d'):=fun y d' hy=>qiS k W base F y d' hF hT hy;unfold qai at h;split at h
  ·subst h;exact qk9 W base v bs hl1 hO
  ·rename_i b
   subst h;cases b
   ·exact qf9 W base v bs hl1 hO
   exact qgO W base v bs hl1 hO
  ·obtain⟨rfl,h1,h2⟩:=h;exact qtX W base v bs _ h1 h2 hl1 hO hT
  ·rename_i l
   subst h;exact qtB W base v bs l hl hO
  ·rename_i l
   obtain⟨u,rfl,hr⟩:=h;obtain⟨q,n,c,rfl⟩:∃q n c,u=.slice q n c:=by
    rcases hr.2 with ⟨e,e2⟩|⟨g,cap,cur,e,_⟩
    ·exact⟨_,_,_,e⟩
    exact⟨_,_,_,e⟩
   exact qoz W base v q n c bs hl1 hO
  ·rename_i ds
   obtain⟨u,xs,rfl,hr,ha⟩:=h;have hxl:xs.length=ds.length:=by have:=hr.1;omega
   have at_:∀i,i<ds.length→∃x d',xs[i]? = some x∧ds[i]? = some d'∧qai k W F x d':=fun i hi =>
    ⟨_,_,List.getElem?_eq_getElem (by omega),List.getElem?_eq_getElem hi,ha i _ _ (List.getElem?_eq_getElem (by omega)) (List.getElem?_eq_getElem hi)⟩
   have hg:=qsD (qbd k) ds fun d' hd'=>by
    obtain⟨i,hi,rfl⟩:=List.getElem_of_mem hd';obtain⟨x,d2,h1,h2,h3⟩:=at_ i hi;rw[List.getElem?_eq_getElem hi] at h2;injection h2 with h2;rw[h2];exact qph h3
   have e:(qbd (k+1) (.agg ds)).length=1+(qc5 (qbd k) ds).length+1:=by simp[qbd];omega
   obtain⟨q,cap,rfl⟩:∃q cap,u=.slice q ds.length cap:=by
    rcases hr.2 with ⟨e,e2⟩|⟨g,cap,cur,e,_⟩
    ·exact⟨none,0,by rw[e,e2]⟩
    exact⟨_,_,e⟩
   have hc:=qry (qbd k) W base v q cap F hF bs ds xs (by omega) (by omega) hr (fun i x d' h1 h2=>inner x d' (ha i x d' h1 h2)) (fun i x hx=>by
    obtain⟨x2,d',h1,h2,h3⟩:=at_ i (by have:=ltL hx;omega);rw[hx] at h1;injection h1 with h1;rw[h1];exact h3.iface) hO
   have e2:((bs++[91])++qc5 (qbd k) ds)++[93]=bs++qbd (k+1) (.agg ds):=by simp[qbd]
   rw[e2] at hc;exact qsR W base v q ds.length cap _ hO.2.2 hc
  ·rename_i es
   obtain⟨u,xs,rfl,hr,ha⟩:=h;have hg:=qsD (qfn (qbd k)) es fun d' _=>by simp[qfn];omega
   have e:(qbd (k+1) (.map es)).length=1+(qc5 (qfn (qbd k)) es).length+1:=by simp[qbd];omega
   obtain⟨q,cap,rfl⟩:∃q cap,u=.slice q es.length cap:=by
    rcases hr.2 with ⟨e,e2⟩|⟨g,cap,cur,e,_⟩
    ·exact⟨none,0,by rw[e,e2]⟩
    exact⟨_,_,e⟩
   have hc:=qtV (qbd k) W base v q cap F hF bs es xs (by omega) (by omega) hr (fun i key d' h1=>by
    obtain⟨l,x,e1,e2,e3,e4⟩:=ha i key d' h1;obtain⟨t,y,rfl⟩:=e4.iface;exact⟨l,t,y,e1,e2,e3,inner _ d' e4⟩) hO
   have e2:((bs++[123])++qc5 (qfn (qbd k)) es)++[125]=bs++qbd (k+1) (.map es):=by simp[qbd]
   rw[e2] at hc;exact qvk W base v q es.length cap _ hO.2.2 hc
  exact h.elim
theorem qhK (k:Nat)(W:World)(F:Nat→Prop)(x:Value)(d:DataW Unit)(hF:∀j,F j→j<W.heap.size)(ht:qiG W.heap.size W)(h:qai k W F x d)(hl:(qbd k d).length≤999999999):Calls prog 67 #[.int .i64 1,x] W fun e W'=>∃v',e=.returned v'∧Own W' W.heap.size v' (qbd k d)∧Below W.heap.size W W':=by
 have cA:=qiS k W W.heap.size F x d hF ht h W _ [] bwR (qip W) (by simpa using hl);obtain⟨t,y,rfl⟩:=h.iface;go_enter func67,ntmps67
 go_wp2_with (first
  |(go_at_call 109;refine cA.mono ?_;rintro e w6 ⟨v6,rfl,h6,hB6⟩;obtain⟨h61,h62,a6,n6,c6,rfl⟩:=h6))
 go_ret;exact⟨_,rfl,⟨h61,h62,_,_,_,rfl⟩,hB6⟩
end
section
open Go.RowKit Go.Shelf
structure qwJ (w:World)(c:Cfg)(N:Nat)(A:Array Value)(W:World):Prop where
 below:Below w.heap.size w W
 box:W.heap[w.heap.size]? = some (.cells c.arr 45)
 row:W.heap[N]? = some (.cells A 110)
theorem qwJ.step {w:World}{A:Array Value}(h:qwJ w c N A W)(hb:Below W.heap.size W W'):qwJ w c N A W' :=
 ⟨h.below.trans (hb.mono h.below.size),(hb.block _ (ltA h.box)).trans h.box,(hb.block _ (ltA h.row)).trans h.row⟩
theorem qoa (h:qbw c=0):qez c.labels.toNat c.pol.data.toList=0:=by
 rw[←(qk2 c).1] at h;unfold qhk at h;split at h
 ·next hh=>exact absurd h hh
 split at h
 ·cases h
 split at h
 ·cases h
 exact h
end
section
open Go.RowKit
theorem qcW.same {kt:TypeId}{m:Nat}{f:Lit→Option Nat}(h:qcW W kt m n f)(hk:W'.heap[m]? = W.heap[m]?):qcW W' kt m n f:=by
 obtain⟨D,⟨es,clock,h1,h2⟩,h3⟩:=h;exact⟨D,⟨es,clock,hk.trans h1,h2⟩,h3⟩
theorem qcj.rebase {W0 W1:World}{A:Nat}{q:Aut}{sts:List ((Nat→Nat)×Int×Int)}{sv:Value}{nf:Lit→Option Nat}{mn:Nat}{mf:Lit→Option Nat}(h:qcj W0 A q sts sv nf mn mf W)(hs:W1.heap.size=W0.heap.size)(hb:Below W1.heap.size W1 W')(hr:qdW W1 q.ra q.rs)(hk:∀j,j=A∨j=q.lm∨j=q.tb∨j=q.nb∨j=q.mb∨sv.ownBlock=some j→W'.heap[j]? = W.heap[j]?):qcj W1 A q sts sv nf mn mf W':=by
 obtain⟨cur,t1,t2⟩:=h.takes;have hst:=qdn (W':=W') h.states fun g e=>hk g (.inr (.inr (.inr (.inr (.inr e)))));exact {h with
  row:=(hk A (.inl rfl)).trans h.row
  rules:=hr
  below:=hb
  letters:=h.letters.same (hk _ (.inr (.inl rfl)))
  takes:=⟨cur,(hk _ (.inr (.inr (.inl rfl)))).trans t1,t2⟩
  states:=by rw[hs];exact hst
  numbers:=h.numbers.same (hk _ (.inr (.inr (.inr (.inl rfl)))))
  moves:=h.moves.same (hk _ (.inr (.inr (.inr (.inr (.inl rfl))))))
  high:=by rw[hs];exact h.high}
end
section
theorem qpt {dflt:Int}(h0:∃l:Nat,dflt=l∧l<n):∀(rs:List (List (Nat×List UInt8)×Int×Int)),(∀x∈rs,∃l:Nat,x.2.1=l∧l<n)→∀p,∃l:Nat,(lbF dflt rs p).1=l∧l<n
 |[],_,_=>h0
 |x::rs,hr,p=>by
  rw[lbF];split
  ·exact hr x (List.mem_cons_self ..)
  exact qpt h0 rs (fun y hy=>hr y (List.mem_cons_of_mem _ hy)) p
end
end Go.Proofs.YtllcbnfmihfaaaaGreatDoor
