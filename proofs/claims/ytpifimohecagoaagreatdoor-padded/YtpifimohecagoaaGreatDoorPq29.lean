import Derived.Test.YtpifimohecagoaaGreatDoorPq28
import Derived.Test.YtpifimohecagoaaGreatDoorPq24
import Derived.Test.YtpifimohecagoaaGreatDoorPq25
set_option maxRecDepth 100000
set_option maxHeartbeats 8000000
namespace Go.Proofs.YtpifimohecagoaaGreatDoor
open Go.Proofs.Tryz
variable{U V V' W W0:World}{F X:Nat->Prop}{A L b k sc:Nat}{bv v y:Value}{d:DataW Unit}{fm:Int}{B:List Int}{l:List UInt8}{g:Gt}{gr:Array Value}{R:Rep}{r:Except Int (List UInt8)}{c:Cfg}{q:Aut}{sts:List ((Nat->Nat)×Int×Int)}{sa:Option Addr}{mf nf:Lit->Option Nat}
section
open Go.RowKit Go.Lib
theorem qu0{α:Type}(f:α->List UInt8)(l:List α)(h:∀a,a∈l->1<=(f a).length):l.length<=(qci f l).length:=by
 cases l with
 |nil=>simp
 |cons a l =>
  have c:=h a (List.mem_cons_self ..);have d:=qcY (λe=>44::f e) l λb _=>by simp
  unfold qci;rw[List.length_append,List.length_cons];omega
theorem qyt(n:Nat):1<=(decDigits n).length:=by
 unfold decDigits;split<;>simp
theorem qwd(z:Int):1<=(Lib.itoa z).length:=by
 unfold itoa;split
 ·simp
 exact qyt _
theorem qqM:∀{k:Nat} {v:Value} {d:DataW Unit},qai k V F v d->1<=(qaO k d).length
 |0,_,_,h=>h.elim
 |k+1,v,d,h=>by
  unfold qai at h;split at h
  ·simp[qaO]
  ·rename_i b
   cases b<;>simp[qaO]
  ·exact qwd _
  ·exact ql1 _
  ·simp[qaO]
  ·simp[qaO]
  ·simp[qaO]
  exact h.elim
theorem qkD:∀(k:Nat) (W:World) (a:Nat) (F:Nat->Prop) (x:Value) (d:DataW Unit),(∀j,F j->j<a)->qgX a W->qai k W F x d->qe2 W a x (qaO k d)
 |0,_,_,_,_,_,_,_,h=>h.elim
 |k+1,W0,a,F,x,d,hF,hT0,h0=>by
  intro W v m K s S;have h:=h0.same (λ_ h=>h) (λj R=>K.block j (hF j R));have J:qgX a W:=Lib.TabBelow.on hT0 K;have C:m.length<=999999999:=by omega
  have M:∀y f,qai k W F y f->qe2 W a y (qaO k f):=λy f T=>qkD k W a F y f hF J T;unfold qai at h;split at h
  ·subst h;exact qms W a v m C s
  ·rename_i b
   subst h;cases b
   ·exact qgI W a v m C s
   exact qh2 W a v m C s
  ·obtain⟨rfl,p,w⟩:=h;exact qw4 W a v m _ p w C s J
  ·rename_i l
   subst h;exact qwG W a v m l S s
  ·rename_i l
   obtain⟨u,rfl,z⟩:=h;obtain⟨q,n,c,rfl⟩:∃q n c,u=.slice q n c:=by
    rcases z.2 with⟨e,r⟩|⟨g,o,H,e,_⟩
    ·exact⟨_,_,_,e⟩
    exact⟨_,_,_,e⟩
   exact qrb W a v q n c m C s
  ·rename_i ds
   obtain⟨u,D,rfl,z,E⟩:=h;have X:D.length=ds.length:=by have:=z.1;omega
   have at_:∀i,i<ds.length->∃x f,D[i]?=some x/\ds[i]?=some f/\qai k W F x f:=λi B =>
    ⟨_,_,List.getElem?_eq_getElem (by omega),List.getElem?_eq_getElem B,E i _ _ (List.getElem?_eq_getElem (by omega)) (List.getElem?_eq_getElem B)⟩
   have Q:=qu0 (qaO k) ds λf P=>by
    obtain⟨i,B,rfl⟩:=List.getElem_of_mem P;obtain⟨x,V,p,w,G⟩:=at_ i B;rw[List.getElem?_eq_getElem B]at w;injection w with w;rw[w];exact qqM G
   have e:(qaO (k+1) (.agg ds)).length=1+(qci (qaO k) ds).length+1:=by simp[qaO];omega
   obtain⟨q,o,rfl⟩:∃q o,u=.slice q ds.length o:=by
    rcases z.2 with⟨e,r⟩|⟨g,o,H,e,_⟩
    ·exact⟨none,0,by rw[e,r]⟩
    exact⟨_,_,e⟩
   have A:=qtE (qaO k) W a v q o F hF m ds D (by omega) (by omega) z (λi x f p w=>M x f (E i x f p w)) (λi x L=>by
    obtain⟨Y,f,p,w,G⟩:=at_ i (by have:=ltL L;omega);rw[L]at p;injection p with p;rw[p];exact G.iface) s
   have r:((m++[91])++qci (qaO k) ds)++[93]=m++qaO (k+1) (.agg ds):=by simp[qaO]
   rw[r]at A;exact qvl W a v q ds.length o _ s.2.2 A
  ·rename_i es
   obtain⟨u,D,rfl,z,E⟩:=h;have Q:=qu0 (qeU (qaO k)) es λf _=>by simp[qeU];omega
   have e:(qaO (k+1) (.map es)).length=1+(qci (qeU (qaO k)) es).length+1:=by simp[qaO];omega
   obtain⟨q,o,rfl⟩:∃q o,u=.slice q es.length o:=by
    rcases z.2 with⟨e,r⟩|⟨g,o,H,e,_⟩
    ·exact⟨none,0,by rw[e,r]⟩
    exact⟨_,_,e⟩
   have A:=qwB (qaO k) W a v q o F hF m es D (by omega) (by omega) z (λi U f p=>by
    obtain⟨l,x,N,r,O,I⟩:=E i U f p;obtain⟨t,y,rfl⟩:=I.iface;exact⟨l,t,y,N,r,O,M _ f I⟩) s
   have r:((m++[123])++qci (qeU (qaO k)) es)++[125]=m++qaO (k+1) (.map es):=by simp[qaO]
   rw[r]at A;exact qyJ W a v q es.length o _ s.2.2 A
  exact h.elim
theorem qiS(k:Nat)(W:World)(F:Nat->Prop)(x:Value)(d:DataW Unit)(hF:∀j,F j->j<W.heap.size)(n:qgX W.heap.size W)(h:qai k W F x d)(m:(qaO k d).length<=999999999):Calls prog 69 #[.int .i64 1,x] W λe a=>∃b,e=.returned b/\Own a W.heap.size b (qaO k d)/\Below W.heap.size W a:=by
 have c:=qkD k W W.heap.size F x d hF n h W _ [] bwR (qi1 W) (by simpa using m);obtain⟨t,y,rfl⟩:=h.iface;go_enter func69,ntmps69
 go_wp2_with(first
  |(go_at_call 85;refine c.mono ?_;rintro e s ⟨r,rfl,f,l⟩;obtain⟨g,i,o,q,p,rfl⟩:=f))
 go_ret;exact⟨_,rfl,⟨g,i,_,_,_,rfl⟩,l⟩

def wrO(fm:Int)(k:Nat)(d:DataW Unit):List UInt8:=if fm=1 then qaO k d else if fm=2 then qbc k d else qdn k d
theorem qub(a:Int)(b:Nat)(l:List UInt8):(qoH a b l).length=16:=qt9 _ (ql9 _ _ (qhQ _ _))
theorem qiP(x:Nat):∀k,(beF x k).length=k
 |0=>rfl
 |k+1=>by unfold beF;rw[List.length_cons,qiP x k]
theorem qgM(s x:Nat):(qaj s x).length<=9:=by
 unfold qaj
 repeat' split
 all_goals simp[qiP]
theorem qdD(x:Nat):(qbu x).length<=9/\(qbp x).length<=9/\(qbo x).length<=9/\(qa1 x).length<=9/\(qbm x).length<=9:=by
 unfold qbu qbp qbo qa1 qbm;refine⟨?_,?_,?_,?_,?_⟩
 all_goals repeat' split
 all_goals simp[qiP]
theorem qry(z:Int):(qeW z).length<=9:=by
 unfold qeW;split
 ·unfold qbs
  repeat' split
  all_goals simp[qiP]
 exact(qdD _).2.2.2.2
theorem qxS(z:Int):(qfm z).length<=9:=by
 unfold qfm;split<;>exact qgM _ _
theorem qi9{α:Type}(f:α->List UInt8)(m:α->Nat):∀(l:List α),(∀a,a∈l->(f a).length<=m a)->(l.flatMap f).length<=(l.map m).sum
 |[],_=>Nat.le_refl _
 |a::l,h=>by
  have d:=h a (List.mem_cons_self ..);have e:=qi9 f m l λb c=>h b (List.mem_cons_of_mem _ c);rw[List.flatMap_cons,List.length_append,List.map_cons,List.sum_cons];omega
theorem qjt(c f g a:Nat->List UInt8)(j:Bool->List UInt8)(i:List UInt8)(nm:Int->List UInt8)(h:∀x,(c x).length<=9/\(f x).length<=9/\(g x).length<=9/\(a x).length<=9)(m:∀b,(j b).length<=9)(o:i.length<=9)(n:∀z,(nm z).length<=9):∀(k:Nat) (d:DataW Unit),(wrF c f g a j i nm k d).length<=szF k d
 |0,_=>Nat.le_refl _
 |k+1,d=>by
  unfold wrF;split
  ·show _<=200;omega
  ·show _<=200;have:=m ‹Bool›;omega
  ·show _<=200;have:=n ‹Int›;omega
  ·next l=>show _<=200+6*l.length;have:=h l.length;rw[List.length_append];omega
  ·next l=>show _<=200+6*l.length;have:=h l.length;rw[List.length_append];omega
  ·next ds =>
   show _<=200+(ds.map λd=>30+szF k d).sum;have p:=h ds.length;have q:=qi9 (wrF c f g a j i nm k) (λd=>30+szF k d) ds (λd _=>Nat.le_trans (qjt c f g a j i nm h m o n k d) (Nat.le_add_left _ _));rw[List.length_append];omega
  ·next es =>
   show _<=200+(es.map λe=>100+6*(qaG e.1).length+szF k e.2).sum;have p:=h es.length;have q:=qi9 (λe:Lit×DataW Unit=>(a (qaG e.1).length++qaG e.1)++wrF c f g a j i nm k e.2) (λe=>100+6*(qaG e.1).length+szF k e.2) es (λe _=>by
    have r:=qjt c f g a j i nm h m o n k e.2;have s:=h (qaG e.1).length;rw[List.length_append,List.length_append];omega)
   rw[List.length_append];omega
  exact Nat.zero_le _
theorem qjI(k:Nat)(d:DataW Unit):(qbc k d).length<=szF k d :=
 qjt _ _ _ _ _ _ _ (λx=>⟨qgM _ _,qgM _ _,qgM _ _,qgM _ _⟩) (λb=>by unfold qqq;cases b<;>exact qgM _ _) (qgM _ _) qxS k d
theorem qpt(k:Nat)(d:DataW Unit):(qdn k d).length<=szF k d :=
 qjt _ _ _ _ _ _ _ (λx=>⟨(qdD x).1,(qdD x).2.1,(qdD x).2.2.1,(qdD x).2.2.2.1⟩) (λb=>by unfold qr2;cases b<;>decide) (by decide) qry k d
theorem qwv(r:Nat):(qjF r).length<=6:=by
 unfold qjF;split
 ·simp
 split
 ·simp
 exact Nat.le_trans (qcl _).2 (by omega)
theorem qlg:∀(g:Nat) (l:List UInt8),(qd0 g l).length<=6*g
 |0,_=>Nat.le_refl _
 |g+1,[]=>Nat.zero_le _
 |g+1,b::t=>by
  unfold qd0;have a:=qwv (decodeL (b::t)).1;have c:=qlg g ((b::t).drop (decodeL (b::t)).2);rw[List.length_append];omega
theorem qpx(l:List UInt8):(jsT l).length<=2+6*l.length:=by
 unfold jsT;have:=qlg l.length l;simp only[List.length_append,List.length_cons,List.length_nil];omega
theorem qpO{α:Type}(T:α->List UInt8)(m:α->Nat)(l:List α)(h:∀a,a∈l->(T a).length+1<=m a):(qci T l).length<=(l.map m).sum:=by
 cases l with
 |nil=>exact Nat.le_refl _
 |cons a l =>
  unfold qci;have d:=h a (List.mem_cons_self ..);have f:=qi9 (λe=>44::T e) m l (λb c=>by have:=h b (List.mem_cons_of_mem _ c);rw[List.length_cons];exact this);rw[List.length_append,List.map_cons,List.sum_cons];omega
theorem qm1:∀(k:Nat) (d:DataW Unit),30*ndF k d<=szF k d
 |0,_=>Nat.le_refl _
 |k+1,d=>by
  unfold ndF szF;split
  ·next ds =>
   have b:30*(ds.map λd=>1+ndF k d).sum<=(ds.map λd=>30+szF k d).sum:=by
    induction ds with
    |nil=>exact Nat.le_refl _
    |cons a l c =>
     have:=qm1 k a;rw[List.map_cons,List.sum_cons,List.map_cons,List.sum_cons];omega
   simp only[];omega
  ·next es =>
   have b:30*(es.map λe=>2+ndF k e.2).sum<=(es.map λe=>100+6*(qaG e.1).length+szF k e.2).sum:=by
    induction es with
    |nil=>exact Nat.le_refl _
    |cons a l c =>
     have:=qm1 k a.2;rw[List.map_cons,List.sum_cons,List.map_cons,List.sum_cons];omega
   simp only[];omega
  split<;>omega
theorem qvi(k:Nat)(d:DataW Unit):200<=szF (k+1) d:=by
 unfold szF;split<;>omega
theorem qyd(k:Nat)(f:DataW Unit->Rep->Option (DataW Unit)×Rep)(g:∀d R c,(f d R).1=some c->szF k c<=2*szF k d)(b:List (DataW Unit)):∀(a:List (DataW Unit)×Rep),sqL k (b.foldl (λa d=>(a.1++(f d a.2).1.toList,(f d a.2).2)) a).1<=sqL k a.1+2*sqL k b:=by
 induction b with
 |nil=>intro a;exact Nat.le_add_right _ _
 |cons d b i =>
  intro a;rw[List.foldl_cons];refine Nat.le_trans (i _) ?_;have e:sqL k (d::b)=30+szF k d+sqL k b:=by unfold sqL;rw[List.map_cons,List.sum_cons]
  rw[e];dsimp only
  cases h:(f d a.2).1 with
  |none=>rw[Option.toList_none,List.append_nil];omega
  |some c =>
   have:=g d a.2 c h;rw[Option.toList_some,qjh];omega
theorem qxN(k:Nat)(f:List UInt8->DataW Unit->Rep->Option (DataW Unit)×Rep)(j:∀l d R b,(f l d R).1=some b->szF k b<=2*szF k d)(c:List (Lit×DataW Unit)):∀(a:List (Lit×DataW Unit)×Rep),sqE k (c.foldl (λa e=>(a.1++((f (qaG e.1) e.2 a.2).1.map λd=>(e.1,d)).toList,(f (qaG e.1) e.2 a.2).2)) a).1<=sqE k a.1+2*sqE k c:=by
 induction c with
 |nil=>intro a;exact Nat.le_add_right _ _
 |cons d g m =>
  intro a;rw[List.foldl_cons];refine Nat.le_trans (m _) ?_;have e:sqE k (d::g)=100+6*(qaG d.1).length+szF k d.2+sqE k g:=by unfold sqE;rw[List.map_cons,List.sum_cons]
  rw[e];dsimp only
  cases h:(f (qaG d.1) d.2 a.2).1 with
  |none=>rw[Option.map_none,Option.toList_none,List.append_nil];omega
  |some b =>
   have:=j (qaG d.1) d.2 a.2 b h;have i:sqE k (a.1++[(d.1,b)])=sqE k a.1+(100+6*(qaG d.1).length+szF k b):=by unfold sqE;simp
   rw[Option.map_some,Option.toList_some,i];omega
theorem qpI(c:Rv):∀(k:Nat) (p:List (List UInt8×Bool)) (d:DataW Unit) (R:Rep) (a:DataW Unit),(rwF c k p d R).1=some a->szF k a<=2*szF k d
 |0,_,_,_,_,h=>by cases h
 |k+1,p,d,R,a,h=>by
  have g:=qvi k d;unfold rwF at h;split at h
  ·injection h with h;subst h;unfold shF;split
   ·next ds =>
    have b:=qyd k (rwF c k (([],true)::p)) (λd R a=>qpI c k _ d R a) ds ([],(R.1+1,R.2));have e:sqL k ([]:List (DataW Unit))=0:=rfl;show 200+sqL k (rwL _ ds _).1<=2*(200+sqL k ds);unfold rwL;dsimp only at b;omega
   ·next es =>
    have b:=qxN k (λf=>rwF c k ((f,false)::p)) (λl d R a=>qpI c k _ d R a) es ([],(R.1+1,R.2));have e:sqE k ([]:List (Lit×DataW Unit))=0:=rfl;show 200+sqE k (rwE _ es _).1<=2*(200+sqE k es);unfold rwE;dsimp only at b ⊢;omega
   dsimp only;omega
  split at h
  ·injection h with h;subst h;show 200+6*3<=_;omega
  split at h
  ·injection h with h;subst h;have:=qub c.key (lbF c.dflt c.rs p.reverse).1.toNat (qbc (k+1) d);show 200+6*(qoH _ _ _).length<=_;rw[this];omega
  cases h
theorem qyq(c:Rv)(k:Nat)(d:DataW Unit)(R:Rep):szF k ((rwF c k [] d R).1.getD .nil)<=2*szF k d+200:=by
 cases h:(rwF c k [] d R).1 with
 |none=>cases k with
  |zero=>exact Nat.zero_le _
  |succ k=>show 200<=_;omega
 |some a =>
  have:=qpI c k [] d R a h;show szF k a<=_;omega
theorem qhp:∀{k:Nat} {v:Value} {d:DataW Unit},qai k V F v d->(qaO k d).length<=szF k d
 |0,_,_,h=>h.elim
 |k+1,v,d,h=>by
  unfold qai at h;unfold qaO;split at h
  ·show 4<=200;omega
  ·next b=>show(bif b then _ else _:List UInt8).length<=200;cases b<;>decide
  ·next z =>
   have:=itoa_length_le z h.2.1 h.2.2;show(itoa z).length<=200;omega
  ·next l =>
   have:=qpx l;show(jsT l).length<=200+6*l.length;omega
  ·next l =>
   show 4<=200+6*l.length;omega
  ·next ds =>
   obtain⟨u,f,_,j,a⟩:=h;show(([91]++qci (qaO k) ds)++[93]).length<=200+sqL k ds;have g:=qpO (qaO k) (λd=>30+szF k d) ds (λd n=>by
    obtain⟨i,c,rfl⟩:=List.mem_iff_getElem.1 n;have p:i<f.length:=by have:=j.1;omega
    have:=qhp (a i f[i] ds[i] (List.getElem?_eq_getElem p) (List.getElem?_eq_getElem c));omega)
   have e:sqL k ds=(ds.map λd=>30+szF k d).sum:=rfl;simp only[List.length_append,List.length_cons,List.length_nil];omega
  ·next es =>
   obtain⟨u,f,_,j,a⟩:=h;show(([123]++qci (qeU (qaO k)) es)++[125]).length<=200+sqE k es;have g:=qpO (qeU (qaO k)) (λe=>100+6*(qaG e.1).length+szF k e.2) es (λe o=>by
    obtain⟨i,c,rfl⟩:=List.mem_iff_getElem.1 o;obtain⟨l,x,g,_,_,m⟩:=a i es[i].1 es[i].2 (List.getElem?_eq_getElem c);have q:=qhp m;have r:=qpx (qaG es[i].1);unfold qeU;simp only[List.length_append,List.length_cons,List.length_nil];omega)
   have e:sqE k es=(es.map λe=>100+6*(qaG e.1).length+szF k e.2).sum:=rfl;simp only[List.length_append,List.length_cons,List.length_nil];omega
  exact h.elim
theorem qpn(a:Int)(h:qai k V F v d):(wrO a k d).length<=szF k d:=by
 unfold wrO;split
 ·exact qhp h
 split
 ·exact qjI k d
 exact qpt k d

def poF(fm:Int)(k:Nat)(d:DataW Unit)(B:List Int):Except Int (List UInt8) :=
 if fm=1/\qdu k d=true then .error 13 else match qfN fm (wrO fm k d) B with
  |none=>.error 14
  |some l=>.ok l
theorem qiL(h:fm=1/\qdu k d=true):poF fm k d B=.error 13:=if_pos h
theorem qn8(h:¬(fm=1/\qdu k d=true))(a:qfN fm (wrO fm k d) B=none):poF fm k d B=.error 14:=by unfold poF;rw[if_neg h,a]
theorem qga(h:¬(fm=1/\qdu k d=true))(a:qfN fm (wrO fm k d) B=some l):poF fm k d B=.ok l:=by unfold poF;rw[if_neg h,a]
structure Frx(X:Nat->Prop)(W V:World):Prop where
 world:V.os=W.os/\V.tape=W.tape/\V.output=W.output
 rows:KpR W V
 block:∀j,j<W.heap.size->X j->V.heap[j]?=W.heap[j]?
theorem Frx.of_below(h:Below W.heap.size W V):Frx X W V:=⟨⟨h.os,h.tape,h.output⟩,KpR.of_below h,λj a _=>h.block j a⟩
theorem Frx.trans{Z:World}(h:Frx X W V)(g:Frx X V Z):Frx X W Z:=⟨⟨g.world.1.trans h.world.1,g.world.2.1.trans h.world.2.1,g.world.2.2.trans h.world.2.2⟩,h.rows.trans g.rows,λj a b=>(g.block j (Nat.lt_of_lt_of_le a h.rows.size) b).trans (h.block j a b)⟩
theorem Frx.set(h:Frx X W V){g:Nat}(f:W.heap.size<=g)(cs:Array Value):Frx X W (V.setRow g cs):=by
 refine⟨h.world,⟨by have:=h.rows.size;simpa using this,λj cs t e a b c d=>(setRow_other _ _ _ _ (by have:=ltA a;omega)).trans (h.rows.row j cs t e a b c d)⟩,λj a b=>sx (by omega) (h.block j a b)⟩
theorem Frx.alloc(h:Frx X W V)(o:Obj):Frx X W (V.alloc o):=h.trans (Frx.of_below bwA)
theorem Frx.drew(h:Frx X W V):Frx X W {V with drawn:=V.drawn+1}:=⟨h.world,⟨h.rows.size,h.rows.row⟩,h.block⟩
theorem qev{P:Program}{fn:Func}{p u u2:Tmp}{ty:TypeId}(h:fn.results=#[.tmp u,.cell p ty,.tmp u2])(b:Array Value)(w:World)(g:Nat)(t:TypeId)(cs:Array Value)(c:Nat×Nat)(d:TypeDesc)(k:b.getD p undef=.pointer (some ⟨g,0,none⟩))(j:w.heap[g]?=some (.cells cs t c))(l:P.underlying ty=some d)(i:(match d with|.struct _|.array _ _=>true|_=>false)=true)(hi:(P.info? ty).map (·.size)=some cs.size)(v f:Value)(m:b.getD u undef=v)(n:b.getD u2 undef=f):(results fn b).run P w=.ok (.tuple #[v,.agg cs,f]) w:=by
 have e:(results fn b).run P w=((asAddr (b.getD p undef)).run P w).andThen λa o=>((loadVar ty a).run P o).andThen λv q=>.ok (.tuple #[b.getD u undef,v,b.getD u2 undef]) q:=by
  simp only[results,h];simp[Sem.run_bind,Result.andThen]
 subst m;subst n;rw[e,k];simp only[asAddr,Sem.run_pure,Result.andThen_ok,run_loadVar_row w g t ty cs c d j l i hi]
def poR(R:Rep)(r:Except Int (List UInt8)):Rep:=match r with
 |.ok _=>R
 |.error _=>(0,0,0,0)
def poE(r:Except Int (List UInt8)):Int:=match r with
 |.ok _=>0
 |.error en=>en
def PoV(V:World)(base:Nat)(v:Value)(r:Except Int (List UInt8)):Prop:=match r with
 |.ok l=>Own V base v l
 |.error _=>v=.slice none 0 0
def qnG(X:Nat->Prop)(W:World)(R:Rep)(r:Except Int (List UInt8))(e:Ending)(V':World):Prop :=
 ∃va vn vc,e=.returned (.tuple #[.slice va vn vc,.agg (qaH (poR R r)),.int .i64 (poE r)])/\Frx X W V'/\PoV V' W.heap.size (.slice va vn vc) r
def qj8(X:Nat->Prop)(N k:Nat)(U:World)(R:Rep)(d:DataW Unit)(e:Ending)(V':World):Prop :=
 ∃t' y',e=.returned (.tuple #[.iface t' y',.agg (qaH R)])/\Frx X U V'/\qai k V' (λj=>j<N\/(U.heap.size<=j/\j<V'.heap.size)) (.iface t' y') d
structure quu(X:Nat->Prop)(W:World)(L:Nat)(gr:Array Value)(N8 k:Nat)(R:Rep)(t:TypeId)(y:Value)(d:DataW Unit)(V:World):Prop where
 fr:Frx X W V
 gate:V.heap[L]?=some (.cells gr 79)
 res:V.heap[W.heap.size]?=some (.cells (qaH (0,0,0,0)) 28)
 rep:V.heap[N8]?=some (.cells (qaH R) 28)
 lt:W.heap.size<N8
 thg:qai k V (λj=>j<V.heap.size) (.iface t y) d
theorem quu.step{N8:Nat}{t:TypeId}(h:quu X W L gr N8 k R t y d V)(a:Below V.heap.size V V'):quu X W L gr N8 k R t y d V' :=
 ⟨h.fr.trans (Frx.of_below a),(a.block _ (ltA h.gate)).trans h.gate,(a.block _ (ltA h.res)).trans h.res,(a.block _ (ltA h.rep)).trans h.rep,h.lt,h.thg.same (λ_ b=>Nat.lt_of_lt_of_le b a.size) (λj b=>a.block j b)⟩
theorem qzJ{t:TypeId}(b:W.heap[L]?=some (.cells gr 79))(hF:Frx X (W.alloc (.cells #[.int .i64 0,.int .i64 0,.int .i64 0,.int .i64 0] 28)) V')(f:qai k V' (λj=>j<W.heap.size\/((W.alloc (.cells #[.int .i64 0,.int .i64 0,.int .i64 0,.int .i64 0] 28)).heap.size<=j/\j<V'.heap.size)) (.iface t y) d):quu X W L gr V'.heap.size k R t y d (V'.alloc (.cells (qaH R) 28)):=by
 have e:W.heap.size<V'.heap.size:=by have h:=hF.rows.size;rw[World.size_alloc]at h;omega
 have c:=ltA b;refine⟨?_,?_,?_,qac V' _,e,?_⟩
 ·exact((Frx.of_below bwA).trans hF).alloc _
 ·exact(Below.heap_alloc _ _ _ (by omega)).trans (hF.rows.row L _ _ _ ((Below.heap_alloc W _ _ c).trans b) (by decide) (by decide) (by decide))
 ·exact(Below.heap_alloc _ _ _ (by omega)).trans (hF.rows.row W.heap.size _ _ _ (qac W _) (by decide) (by decide) (by decide))
 refine f.same (λj a=>?_) (λj a=>Below.heap_alloc _ _ _ ?_)
 ·rw[World.size_alloc];rcases a with a|a<;>omega
 rcases a with a|a<;>omega

theorem qxs(k:Nat)(d:DataW Unit):wrO 1 k d=qaO k d:=if_pos rfl
theorem qw6(k:Nat)(d:DataW Unit):wrO 2 k d=qbc k d:=by unfold wrO;rw[if_neg (by decide),if_pos rfl]
theorem qwb(k:Nat)(d:DataW Unit):wrO 3 k d=qdn k d:=by unfold wrO;rw[if_neg (by decide),if_neg (by decide)]
theorem qtt(a:Int)(k:Nat)(V:World)(t:TypeId)(y:Value)(d:DataW Unit)(o:a=1\/a=2\/a=3)(c:qai k V (λj=>j<V.heap.size) (.iface t y) d)(q:szF k d<=999999999)(n:∀U,Below V.heap.size V U->qgX U.heap.size U)(p:¬(a=1/\qdu k d=true)):Calls prog 51 #[.int .i64 a,.iface t y] V λe l=>∃m,e=.returned (.tuple #[m,.int .i64 0])/\Own l V.heap.size m (wrO a k d)/\Below V.heap.size V l:=by
 have b:=Nat.le_trans (qpn a c) q;refine qnO k V a t y d _ c p (λU g=>?_);have f:qai k U (λj=>j<U.heap.size) (.iface t y) d:=c.same (λj i=>Nat.lt_of_lt_of_le i g.size) (λj i=>g.block j i);rcases o with rfl|rfl|rfl
 ·rw[qxs]at b ⊢;exact qiS k U _ _ d (λ_ h=>h) (n U g) f b
 ·rw[qw6]at b ⊢;exact qeL k U _ _ d (λ_ h=>h) f b
 rw[qwb]at b ⊢;exact qjv k U _ _ d (λ_ h=>h) f b
structure WrP(fm:Int)(k:Nat)(d:DataW Unit):Prop where
 ok:∀V t y,qai k V (λj=>j<V.heap.size) (.iface t y) d->(∀U,Below V.heap.size V U->qgX U.heap.size U)->¬(fm=1/\qdu k d=true)->Calls prog 51 #[.int .i64 fm,.iface t y] V λe V'=>∃v',e=.returned (.tuple #[v',.int .i64 0])/\Own V' V.heap.size v' (wrO fm k d)/\Below V.heap.size V V'
 kind:qdu k d=true->∀V t y,qai k V (λj=>j<V.heap.size) (.iface t y) d->Calls prog 51 #[.int .i64 1,.iface t y] V λe V'=>e=.returned (.tuple #[.slice none 0 0,.int .i64 13])/\Below V.heap.size V V'
 len:∀V t y,qai k V (λj=>j<V.heap.size) (.iface t y) d->(wrO fm k d).length<=999999999
theorem qtX(e:fm=1\/fm=2\/fm=3)(b:szF k d<=999999999):WrP fm k d :=
 ⟨λV t y a c g=>qtt fm k V t y d e a b c g,λf V t y a=>qgY k V t y d a f,λ_ _ _ a=>Nat.le_trans (qpn fm a) b⟩
theorem qlF:(#[Value.int .i64 0,.int .i64 0,.int .i64 0,.int .i64 0]).all (·.oneCell')=true:=by simp[Value.oneCell']
theorem qeY(R:Rep):(qaH R).all (·.oneCell')=true:=by simp[qaH,Value.oneCell']
theorem qyV(R S:Rep):(qaH R).size=(qaH S).size:=rfl
theorem qzH(d:g.rc.size=40){fed:Value}{cl:Bool}(b:V.heap[L]?=some (.cells (qaz g fed cl) 79)):∀(j:Nat) (u:Value),g.rc[j]?=some u->V.cell? ⟨L,4+j,none⟩=some u:=by
 intro j u a;refine(qaa b (4+j)).trans ?_;have c:j<40:=by have:=ltA a;omega
 unfold qaz;rw[Array.getElem?_append_left (by simp;omega),Array.getElem?_append_right (by simp)];simpa using a
theorem qhT{base N:Nat}{cs cs':Array Value}(h:Own W base v l)(j:W.heap[N]?=some (.cells cs 28)):Own (W.setRow N cs') base v l:=by
 refine⟨⟨h.1.1,?_⟩,by have:=h.2.1;simpa using this,h.2.2⟩;rcases h.1.2 with b|⟨g,c,d,b,f,a,i⟩
 ·exact .inl b
 refine .inr ⟨g,c,d,b,f,(setRow_other _ _ _ _ (λe=>?_)).trans a,i⟩;subst e;rw[j]at a;injection a with a;injection a with _ a _;exact absurd a (by decide)
theorem qyk(a:g.rc.size=40):(prog.info? 76).map (·.size)=some g.rc.size:=by rw[a];kernel_rfl
theorem qo5(X:Nat->Prop)(k:Nat)(W:World)(L:Nat)(g:Gt)(av:g.rc.size=40)(u:Value)(s:Bool)(M:W.heap[L]?=some (.cells (qaz g u s) 79))(t:TypeId)(y:Value)(R:Rep)(d:DataW Unit)(ba:Option Addr)(A:Nat)(B:List Int)(au:g.bk=.slice ba B.length A)(aq:B.length<=8)(ap:∀i (a1:i<B.length),B[i]<=65536)(wp:WrP g.out k d)(hI:∀V,Frx X W V->qcR V ba B)(hT:∀V,Frx X W V->qgX V.heap.size V)(cR:∀U,Below W.heap.size W U->Calls prog 50 #[.agg g.rc,.iface t y] U (qj8 X W.heap.size k U R d)):Calls prog 30 #[.pointer (some ⟨L,0,none⟩),.iface t y] W (qnG X W R (poF g.out k d B)):=by
 have hL:L<W.heap.size:=ltA M;have HG:Hid (W.heap[L]?=some (.cells (qaz g u s) 79)):=M;have Q:Hid (g.rc.size=40):=av;have an:Calls prog 50 #[.agg g.rc,.iface t y] (W.alloc (.cells #[.int .i64 0,.int .i64 0,.int .i64 0,.int .i64 0] 28)) λe V'=>∃p q,e=.returned (.tuple #[.iface p q,.agg (qaH R)])/\Hid (quu X W L (qaz g u s) V'.heap.size k R p q d (V'.alloc (.cells (qaH R) 28))):=(cR _ bwA).mono (by
  rintro e V' ⟨p,q,rfl,h1,h2⟩;exact⟨p,q,rfl,qzJ M h1 h2⟩)
 have HI:Hid (∀V,Frx X W V->qcR V ba B):=hI;have HT:Hid (∀V,Frx X W V->qgX V.heap.size V):=hT;have aw:Hid (∀i (a1:i<B.length),B[i]<=65536):=ap;have ax:Hid (B.length<=8):=aq;have G:=qab wp;have ah:Hid (g.bk=.slice ba B.length A):=au;have ak:Hid ((W.alloc (.cells #[.int .i64 0,.int .i64 0,.int .i64 0,.int .i64 0] 28)).heap[L]?=some (.cells (qaz g u s) 79)):=(Below.heap_alloc W _ _ hL).trans M;clear cR hI hT ap aq wp au M av;go_enter func30,ntmps30
 go_wp2_with(first
  |(refine qaK 76 (.tmp 16) rfl rfl L 4 rfl g.rc _ (qzH Q.out ak.out) underlying76 rfl (qyk Q.out) ?_)
  |fail)
 refine an.mono ?_;clear an ak;rintro e N ⟨p,q,rfl,c⟩;obtain⟨a,al⟩:∃a,Hid (N.alloc (.cells (qaH R) 28)=a):=⟨_,rfl⟩
 obtain⟨b,x⟩:∃b,Hid (N.heap.size=b):=⟨_,rfl⟩
 rw[al.out,x.out]at c;have O:Hid ((N.alloc (.cells #[.int .i64 0,.int .i64 0,.int .i64 0,.int .i64 0] 28)).heap[b]?=some (.cells (qaH (0,0,0,0)) 28)):=by show _=_;rw[<-x.out];exact qac N _
 have T:Hid ((N.alloc (.cells #[.int .i64 0,.int .i64 0,.int .i64 0,.int .i64 0] 28)).setRow b (qaH R)=a):=by show _=_;rw[<-x.out,<-al.out];exact World.setRow_alloc_new _ _ _ _
 have c1:a.cell? ⟨L,1,none⟩=some (.int .i64 g.out):=(qaa c.out.gate 1).trans (qfa _ _ 1 (by omega));by_cases w:g.out=1/\qdu k d=true
 ·have F:Hid (poF g.out k d B=.error 13):=qiL w;have C:=G.out.kind w.2 a p q c.out.thg;rw[w.1]at c1;clear w G
  go_wp2_with(first
   |(refine wpList_store_row rfl 28 _ _ rfl b (qaH R) (congrArg (λn=>Value.pointer (some ⟨n,0,none⟩)) x.out) rfl 28 _ O.out (qaM R) rfl (qeY R) ?_;rw[T.out];clear O T)
   |(go_at_call 51;refine C.mono ?_;clear C c1;rintro e f ⟨rfl,H⟩;have r:Hid (quu X W L (qaz g u s) b k R p q d f):=c.out.step H;clear H c)
   |(refine wpList_store_row rfl 28 _ _ rfl W.heap.size #[.int .i64 0,.int .i64 0,.int .i64 0,.int .i64 0] rfl rfl 28 _ r.out.res qfr rfl qlF ?_))
  refine bodyPost_ret (qev results30 _ _ W.heap.size 28 #[.int .i64 0,.int .i64 0,.int .i64 0,.int .i64 0] (0,0) _ rfl (setRow_heap _ _ _ _ _ _ r.out.res) underlying28 rfl qfr _ _ rfl rfl) rfl ?_;rw[F.out];exact⟨none,0,0,rfl,r.out.fr.set (Nat.le_refl _) _,rfl⟩
 have P:Hid (¬(g.out=1/\qdu k d=true)):=w;have ai:Hid ((wrO g.out k d).length<=999999999):=G.out.len _ _ _ c.out.thg;have C:=G.out.ok a p q c.out.thg (λU hU=>HT.out U (c.out.fr.trans (Frx.of_below hU))) w;clear w G HT;obtain⟨E,HY⟩:∃E,Hid (wrO g.out k d=E):=⟨_,rfl⟩
 rw[HY.out]at ai C;obtain⟨D,ab⟩:∃D,Hid (qfN g.out E B=D):=⟨_,rfl⟩
 go_wp2_with(first
  |(refine wpList_store_row rfl 28 _ _ rfl b (qaH R) (congrArg (λn=>Value.pointer (some ⟨n,0,none⟩)) x.out) rfl 28 _ O.out (qaM R) rfl (qeY R) ?_;rw[T.out];clear O T)
  |(go_at_call 51;refine C.mono ?_;clear C;rintro e f ⟨v3,rfl,af,H⟩;obtain⟨Y,n3,k3,rfl⟩:=af.2.2;have ag:Hid (Below a.heap.size a f):=H;have aj:Hid (Own f a.heap.size (.slice Y n3 k3) E):=af;clear H af c1))
 have aa:Hid (Below a.heap.size a ({f with drawn:=f.drawn+1}:World)):=ag.out.drew;have z:Hid (Own ({f with drawn:=f.drawn+1}:World) a.heap.size (.slice Y n3 k3) E):=aj.out;have r:Hid (quu X W L (qaz g u s) b k R p q d ({f with drawn:=f.drawn+1}:World)):=c.out.step aa.out;refine rgn (S:=λZ=>Z.cell? ⟨L,1,none⟩=some (.int .i64 g.out)/\Z.cell? ⟨L,44,none⟩=some (.slice ba B.length A)) (⟨(qaa r.out.gate 1).trans (qfa _ _ 1 (by omega)),((qaa r.out.gate 44).trans (qc8 Q.out _ _ 0)).trans (congrArg some ah.out)⟩) (by kernel_rfl) ?_;intro o;clear ag aj;generalize({f with drawn:=f.drawn+1}:World)=w5 at *;have cF:=qtK w5 a.heap.size g.out (.slice Y n3 k3) E ba A B z.out (HI.out w5 r.out.fr) ax.out aw.out ai.out;rw[ab.out]at cF;refine tkp 0 36 (.pointer (some ⟨L,0,none⟩)) o ?_;refine tkp 1 37 (.pointer (some ⟨L,0,none⟩)) o ?_;refine tkp 2 38 (.pointer (some ⟨L,1,none⟩)) o ?_;refine tkq 3 39 (.int .i64 g.out) rfl (λZ J=>?y3) o ?_
 case y3=>(have z1:=J.1;go_simp)
 refine tkp 4 40 (.slice Y n3 k3) o ?_;refine tkp 5 41 (.pointer (some ⟨L,0,none⟩)) o ?_;refine tkp 6 42 (.pointer (some ⟨L,0,none⟩)) o ?_;refine tkp 7 43 (.pointer (some ⟨L,44,none⟩)) o ?_;refine tkq 8 44 (.slice ba B.length A) rfl (λZ J=>?y8) o ?_
 case y8=>(have z1:=J.2;go_simp)
 refine rdq 9 (λa0 I=>?_);go_simp;refine cF.mono ?_;clear cF;rintro e j ⟨⟨v4,rfl,ad,ae⟩,ao⟩;have m:Hid (quu X W L (qaz g u s) b k R p q d j):=c.out.step (aa.out.trans ao);have am:Hid (W.heap.size<=a.heap.size):=c.out.fr.rows.size;have v:(λZ:World=>Z.cell? ⟨L,1,none⟩=some (.int .i64 g.out)/\Z.cell? ⟨L,44,none⟩=some (.slice ba B.length A)) j:=⟨(qaa m.out.gate 1).trans (qfa _ _ 1 (by omega)),((qaa m.out.gate 44).trans (qc8 Q.out _ _ 0)).trans (congrArg some ah.out)⟩
 simp only[];refine I.out _ _ v (λ_=>?_);clear I ao c r aa z o;refine tkp 10 35 (.tuple #[v4,.bool D.isSome]) v ?_;refine tkp 11 46 v4 v ?_;refine tkp 12 47 (.bool D.isSome) v ?_;refine tkp 13 11 v4 v ?_;refine tkp 14 12 (.bool D.isSome) v ?_;refine wdn ?_;go_simp;clear v
 cases D with
 |none =>
  have F:Hid (poF g.out k d B=.error 14):=qn8 P.out (by rw[HY.out];exact ab.out);obtain rfl:=ad rfl;clear P ad ae;simp only[Option.isSome_none]
  go_wp2_with(first
   |(refine wpList_store_row rfl 28 _ _ rfl W.heap.size #[.int .i64 0,.int .i64 0,.int .i64 0,.int .i64 0] rfl rfl 28 _ m.out.res qfr rfl qlF ?_))
  refine bodyPost_ret (qev results30 _ _ W.heap.size 28 #[.int .i64 0,.int .i64 0,.int .i64 0,.int .i64 0] (0,0) _ rfl (setRow_heap _ _ _ _ _ _ m.out.res) underlying28 rfl qfr _ _ rfl rfl) rfl ?_;rw[F.out];exact⟨none,0,0,rfl,m.out.fr.set (Nat.le_refl _) _,rfl⟩
 |some l =>
  have F:Hid (poF g.out k d B=.ok l):=qga P.out (by rw[HY.out];exact ab.out);have z:Hid (Own j a.heap.size v4 l):=ae l rfl;obtain⟨h,n4,k4,rfl⟩:=z.out.2.2;clear P ad ae;simp only[Option.isSome_some]
  go_wp2_with fail
  refine rgn (S:=λZ=>Z.heap[b]?=some (.cells (qaH R) 28)) (m.out.rep) (by kernel_rfl) ?_;intro K;have az:Hid (Frx X W {j with drawn:=j.drawn+1}):=m.out.fr.drew;have ac:Hid (({j with drawn:=j.drawn+1}:World).heap[W.heap.size]?=some (.cells (qaH (0,0,0,0)) 28)):=m.out.res;have ay:Hid (Own {j with drawn:=j.drawn+1} W.heap.size (.slice h n4 k4) l):=(z.out).mono am.out;have a2:W.heap.size<b:=m.out.lt;clear m z am;generalize({j with drawn:=j.drawn+1}:World)=w6 at *;refine tkp 0 51 (.slice h n4 k4) K ?_;refine tkq 1 52 (.agg (qaH R)) rfl (λZ J=>?y1) K ?_
  case y1=>exact qja 28 (.tmp 8) (by kernel_rfl) b (congrArg (λn=>Value.pointer (some ⟨n,0,none⟩)) x.out) _ _ _ _ J underlying28 (by kernel_rfl) (qaM R)
  refine tkp 2 4 (.slice h n4 k4) K ?_;refine rdq 3 (λa0 I=>?_);refine ifw (by kernel_rfl) ?_;refine wp_store_row 28 (.tmp 5) (.tmp 52) rfl W.heap.size (qaH R) (by kernel_rfl) (by kernel_rfl) 28 (qaH (0,0,0,0)) ac.out (qaM R) (qyV _ _) (qeY R) ?_;have ar:(λZ:World=>Z.heap[b]?=some (.cells (qaH R) 28)) (w6.setRow W.heap.size (qaH R)):=sx (by omega) K;refine I.out _ _ ar (λ_=>?_);clear I;refine tkp 4 6 (.int .i64 0) ar ?_;refine wdn ?_;go_simp
  go_wp2_with fail
  refine bodyPost_ret (qev results30 _ _ W.heap.size 28 (qaH R) (0,0) _ rfl (setRow_heap _ _ _ _ _ _ ac.out) underlying28 rfl (qaM R) _ _ rfl rfl) rfl ?_;rw[F.out];exact⟨h,n4,k4,rfl,az.out.set (Nat.le_refl _) _,qhT ay.out ac.out⟩

def gtZ:Gt:=⟨0,0,0,0,qaq 0 (λ_ _=>false)++#[.int .i64 0,.int .i64 0,.pointer none],.slice none 0 0⟩
theorem qqn:gtZ.rc.size=40:=by kernel_rfl
theorem qcM(c:g.rc.size=40)(b:Value)(a:Bool):(qaz g b a).size=47:=by unfold qaz;simp[c]
theorem qlv(ρ:Operand->Value)(o:Oper)(a:o.op=.alloc 79)(w:World):(execOp ρ o).run prog w=.ok (.value (.pointer (some ⟨w.heap.size,0,none⟩))) (w.alloc (.cells (qaz gtZ (.slice none 0 0) false) 79)):=by
 unfold execOp;rw[a];kernel_rfl
theorem qeb{ops:Array Oper}{rest:List Oper}{o:Oper}{a:Act}{w:World}{Q:Exit->Act->World->Prop}(e:o.guard=none)(f:o.op=.alloc 79)(d:Option Tmp)(c:o.dst=d)(N:Nat)(b:w.heap.size=N)(h:wpList prog ops Q rest (a.put d (.pointer (some ⟨N,0,none⟩))) (w.alloc (.cells (qaz gtZ (.slice none 0 0) false) 79))):wpList prog ops Q (o::rest) a w:=by
 subst b;exact Great.wpList_allocTo e d c _ _ (qlv _ _ f _) h
theorem qpZ:prog.built 79 [(6,.bool true)]=some (qaz gtZ (.slice none 0 0) true):=by kernel_rfl
theorem qil{A:Array Value}(h:A.size=47):(prog.info? 79).map (·.size)=some A.size:=by rw[h];kernel_rfl
abbrev Cz:=Except (Int×Int) (Rep×Except Int (List UInt8))
def czR(z:Cz):Rep:=match z with
 |.ok (R,r)=>poR R r
 |.error _=>(0,0,0,0)
def czE(z:Cz):Int:=match z with
 |.ok (_,r)=>poE r
 |.error (en,_)=>en
def czP(z:Cz):Int:=match z with
 |.ok _=>0
 |.error (_,pl)=>pl
def CzV(V:World)(base:Nat)(v:Value)(z:Cz):Prop:=match z with
 |.ok (_,r)=>PoV V base v r
 |.error _=>v=.slice none 0 0
def clW(W:World)(L:Nat)(g:Gt)(fv:Value):World:=((W.alloc (.cells #[.int .i64 0,.int .i64 0,.int .i64 0,.int .i64 0] 28)).alloc (.cells (qaz g fv false) 79)).setRow L (qaz gtZ (.slice none 0 0) true)
structure Fry(X:Nat->Prop)(L:Nat)(W V:World):Prop where
 world:V.os=W.os/\V.tape=W.tape/\V.output=W.output
 size:W.heap.size<=V.heap.size
 rows:∀(k:Nat) (cs:Array Value) (t:TypeId) (fr:Nat×Nat),k≠L->W.heap[k]?=some (.cells cs t fr)->t≠116->t≠157->t≠160->V.heap[k]?=some (.cells cs t fr)
 block:∀j,j<W.heap.size->j≠L->X j->V.heap[j]?=W.heap[j]?
theorem Fry.set(h:Fry X L W V){g:Nat}(i:W.heap.size<=g)(cs:Array Value):Fry X L W (V.setRow g cs) :=
 ⟨h.world,by have:=h.size;simpa using this,λk cs t f a b c d e=>(setRow_other _ _ _ _ (by have:=ltA b;omega)).trans (h.rows k cs t f a b c d e),λj a b c=>sx (by omega) (h.block j a b c)⟩
def qyf(X:Nat->Prop)(W:World)(L:Nat)(z:Cz)(e:Ending)(V':World):Prop :=
 ∃va vn vc,e=.returned (.tuple #[.slice va vn vc,.agg (qaH (czR z)),.int .i64 (czE z),.int .i64 (czP z)])/\Fry X L W V'/\V'.heap[L]?=some (.cells (qaz gtZ (.slice none 0 0) true) 79)/\CzV V' W.heap.size (.slice va vn vc) z
theorem qgb(W:World)(L:Nat)(g:Gt)(a:Value):(clW W L g a).heap.size=W.heap.size+2:=by simp[clW]
theorem quP(W:World)(L:Nat)(g:Gt)(a:Value)(b:L<W.heap.size):(clW W L g a).heap[W.heap.size]?=some (.cells (qaH (0,0,0,0)) 28):=sx (by omega) ((Below.heap_alloc _ _ _ (by simp)).trans (qac W _))
theorem qnw(W:World)(L:Nat)(g:Gt)(a:Value)(b:L<W.heap.size):(clW W L g a).heap[W.heap.size+1]?=some (.cells (qaz g a false) 79):=by
 have h:=qac (W.alloc (.cells #[.int .i64 0,.int .i64 0,.int .i64 0,.int .i64 0] 28)) (.cells (qaz g a false) 79);rw[World.size_alloc]at h;exact sx (by omega) h
theorem qtN(W:World)(L:Nat)(g:Gt)(a:Value)(b:W.heap[L]?=some (.cells (qaz g a false) 79)):(clW W L g a).heap[L]?=some (.cells (qaz gtZ (.slice none 0 0) true) 79):=by
 have c:=ltA b;exact setRow_heap _ _ _ _ _ _ ((Below.heap_alloc _ _ _ (by rw[World.size_alloc];omega)).trans ((Below.heap_alloc _ _ _ c).trans b))
theorem qhy(W:World)(L:Nat)(g:Gt)(a:Value)(j:Nat)(b:j<W.heap.size)(c:j≠L):(clW W L g a).heap[j]?=W.heap[j]?:=(setRow_other _ _ _ _ c).trans ((Below.heap_alloc _ _ _ (by rw[World.size_alloc];omega)).trans (Below.heap_alloc _ _ _ b))
theorem qps(W:World)(L:Nat)(g:Gt)(a:Value):(clW W L g a).os=W.os/\(clW W L g a).tape=W.tape/\(clW W L g a).output=W.output:=⟨rfl,rfl,rfl⟩
theorem Fry.of{fv:Value}(h:Frx X (clW W L g fv) V):Fry X L W V:=by
 have l:=h.rows.size;rw[qgb]at l;refine⟨h.world,by omega,λk cs t f a b c d e=>?_,λj a b c=>?_⟩
 ·have i:=ltA b;exact h.rows.row k cs t f ((qhy W L g fv k i a).trans b) c d e
 exact(h.block j (by rw[qgb];omega) c).trans (qhy W L g fv j a b)
structure q0l(X:Nat->Prop)(W W3:World)(L N11:Nat)(R:Rep)(v:Value)(r:Except Int (List UInt8))(V:World):Prop where
 fr:Frx X W3 V
 res:V.heap[W.heap.size]?=some (.cells (qaH (0,0,0,0)) 28)
 rep:V.heap[N11]?=some (.cells (qaH R) 28)
 lt:W.heap.size<N11
 gate:V.heap[L]?=some (.cells (qaz gtZ (.slice none 0 0) true) 79)
 val:PoV V W.heap.size v r
theorem PoV.same{b':Nat}(h:PoV V b v r)(a:∀l,Own V b v l->Own V' b' v l):PoV V' b' v r:=by
 cases r with
 |ok l=>exact a l h
 |error e=>exact h
theorem qzB{W3:World}(e:W.heap.size<U.heap.size)(b:Frx X W3 U)(hF:Frx X U V')(c:U.heap[W.heap.size]?=some (.cells (qaH (0,0,0,0)) 28))(a:U.heap[L]?=some (.cells (qaz gtZ (.slice none 0 0) true) 79))(d:PoV V' U.heap.size v r):q0l X W W3 L V'.heap.size R v r (V'.alloc (.cells (qaH R) 28)):=by
 have f:=hF.rows.size;exact⟨(b.trans hF).alloc _,(Below.heap_alloc _ _ _ (by omega)).trans (hF.rows.row _ _ _ _ c (by decide) (by decide) (by decide)),qac V' _,by omega,(Below.heap_alloc _ _ _ (by have:=ltA a;omega)).trans (hF.rows.row _ _ _ _ a (by decide) (by decide) (by decide)),d.same λl h=>qgx (h.mono (by omega)) bwA⟩

structure qoI(c:Cfg):Prop where
 lab:1<=c.labels/\c.labels<=6
 dfl:0<=c.dflt/\c.dflt<(c.labels.toNat:Int)
 clr:0<=c.clr/\c.clr<(c.labels.toNat:Int)
 inn:c.inn=1\/c.inn=2\/c.inn=3
 out:c.out=1\/c.out=2\/c.out=3
 dep:1<=c.depth/\c.depth<=16
 byt:1<=c.bytes/\c.bytes<=4096
 b8:c.B.length<=8
 b6:∀i (h:i<c.B.length),c.B[i]<=65536
 pol:qft c.labels.toNat c.pol.data.toList=0
theorem qu7{f:Int}(h:qeN f=true):f=1\/f=2\/f=3:=by
 unfold qeN at h;simp only[Bool.or_eq_true,beq_iff_eq]at h;omega
theorem qk4(h:qb3 c=0):qoI c:=by
 have k:=qqd h;rw[<-(qlE c).1]at h;unfold qir at h;split at h
 ·next hh=>exact absurd h hh
 next hh =>
 have g:roE c.labels c.L c.dflt c.clr=0:=Classical.byContradiction hh;split at h
 ·cases h
 next a =>
 split at h
 ·cases h
 next d =>
 have a:qeZ c.inn c.out c.depth c.bytes=true:=by simpa using a
 have d:qaN c.B=true:=by simpa using d
 unfold roE at g;split at g
 ·next hn =>
  simp only[Bool.and_eq_true]at hn;obtain⟨⟨b,e⟩,f⟩:=hn;unfold qbD at b;rw[Bool.and_eq_true]at b;have b:=of_decide_eq_true b.1;have e:=of_decide_eq_true e;have f:=of_decide_eq_true f;unfold qeZ at a;simp only[Bool.and_eq_true,decide_eq_true_eq]at a;unfold qaN at d;rw[Bool.and_eq_true]at d;refine⟨⟨b.1,b.2.1⟩,e,f,qu7 a.1.1.1.1.1,qu7 a.1.1.1.1.2,⟨a.1.1.1.2,a.1.1.2⟩,⟨a.1.2,a.2⟩,of_decide_eq_true d.1,λi j=>?_,k⟩;have:=of_decide_eq_true (List.all_eq_true.1 d.2 i (List.mem_range.2 j));rw[List.getD_eq_getElem?_getD,List.getElem?_eq_getElem j]at this;exact this.2
 cases g
theorem qvk{n:Nat}(h:qft n l=0):∀x∈(qcI l).map enS,∃m:Nat,x.2.1=(m:Int)/\m<n:=by
 have g:qa5 n l<0:=by
  unfold qft at h;split at h
  ·cases h
  omega
 intro x k;obtain⟨r,f,rfl⟩:=List.mem_map.1 k;unfold qa5 at g;unfold qcI at f;split at g
 ·omega
 split at g
 ·next h0 =>
  rw[if_pos h0]at f;cases f
 next h0 =>
 rw[if_neg h0]at f;obtain⟨i,_⟩:=qpU (qam 10 l) 0 g (by omega);obtain⟨y,o,rfl⟩:=List.mem_map.1 f;have e:=i y o;unfold qaD at e;show∃m:Nat,(qec y).2.1=(m:Int)/\m<n;unfold qec
 match hs:qam 32 y,e with
 |[a,b,c],e =>
  unfold qkl at e;simp only[Bool.and_eq_true]at e;have e:=e.2.1
  match b,e with
  |[d],e =>
   unfold qiK at e;rw[Bool.and_eq_true]at e;have j:=of_decide_eq_true e.1;have p:=of_decide_eq_true e.2;refine⟨d.toNat-48,?_,by omega⟩;show(if 48<=d.toNat/\d.toNat<=57 then(d.toNat:Int)-48 else 0)=_;rw[if_pos j];omega
structure qhR(b:Nat)(W:World):Prop where
 rd:qcS W
 st:qgX b W
 db:W.cell? ⟨8,15,none⟩=some (.int .u8 4)
 gl:qmF W
 big:9<=b/\b<=W.heap.size
theorem qbz(a:∀q,q<9->V.heap[q]?=W.heap[q]?){q off:Nat}(b:q<9)(h:W.cell? ⟨q,off,none⟩=some v):V.cell? ⟨q,off,none⟩=some v:=(World.cell?_of_block (w:=W) (a q b)).trans h
theorem U8.low(a:∀q,q<9->V.heap[q]?=W.heap[q]?)(h:U8 W):U8 V :=
 ⟨λc d=>qbz a (by decide) (h.1 c d),λi b=>⟨qbz a (by decide) (h.2 i b).1,qbz a (by decide) (h.2 i b).2⟩⟩
theorem qhR.below(h:qhR b W)(d:Below b W V):qhR b V:=by
 have a:∀q,q<9->V.heap[q]?=W.heap[q]?:=λq i=>d.block q (by have:=h.big.1;omega);have j:=d.size;refine⟨⟨h.rd.u8.low a,⟨λu c=>qbz a (by decide) (h.rd.hd.cb u c),λu c=>⟨qbz a (by decide) (h.rd.hd.pk u c).1,qbz a (by decide) (h.rd.hd.pk u c).2.1,qbz a (by decide) (h.rd.hd.pk u c).2.2⟩⟩,?_⟩,h.st.on d,qbz a (by decide) h.db,?_,h.big.1,?_⟩
 ·have:=h.rd.big;omega
 ·obtain⟨t,e,f⟩:=h.gl.signs;obtain⟨m,g⟩:=h.gl.mlen;exact⟨⟨t,e,(a _ (by decide)).trans f⟩,U8.low a h.gl.tabs,m,qbz a (by decide) g⟩
 have:=h.big.2;omega
theorem qhR.up(h:qhR b W)(a:Below b W V):qgX V.heap.size V:=λd c=>h.st d (a.trans (c.mono (by have:=h.big.2;have:=a.size;omega)))

def rvC(c:Cfg):Rv:=⟨qlG c,c.dflt,qcL c.labels.toNat c.L,c.clr.toNat,c.key⟩
def kC(c:Cfg):Nat:=c.depth.toNat+1
def rcC(c:Cfg)(A:Nat):Array Value:=qaq c.labels.toNat (qcL c.labels.toNat c.L)++#[.int .i64 c.clr,.int .i64 c.key,.pointer (some ⟨A,0,none⟩)]
def gtC(c:Cfg)(A:Nat)(bv:Value):Gt:=⟨c.inn,c.out,c.depth,c.bytes.toNat,rcC c A,bv⟩
theorem qji(c:Cfg)(A:Nat):(rcC c A).size=40:=by unfold rcC;rw[Array.size_append,qae];rfl
theorem qwg(ck:qoI c)(A:Nat)(a:Value):qxv c A a=qaz (gtC c A a) (.slice none 0 0) false:=by
 have h:((c.bytes.toNat:Nat):Int)=c.bytes:=Int.toNat_of_nonneg (by have:=ck.byt;omega);unfold qxv qaz gtC rcC;dsimp only;rw[h]
def Xc(A:Nat)(q:Aut)(own0:Option Nat)(j:Nat):Prop:=j≠A/\j≠q.nb/\j≠q.mb/\some j≠own0
theorem qwL(ck:qoI c)(h:GOp c W0 L A q sts sa sc nf mf bv V)(g:qhR b W0)(f:W0.heap.size<=U.heap.size)(i:Option Nat):qi2 ⟨rvC c,W0,A,q,U.heap.size+2,qaq c.labels.toNat (qcL c.labels.toNat c.L),c.labels.toNat,U,i⟩:=by
 obtain⟨a,d,e⟩:=qqU ck.pol;refine⟨h.cp.ers,h.cp.edf,h.cp.elf,h.cp.eL,h.cp.ly,a,d,e,qay _ _,?_,?_,?_,Nat.le_trans f (Nat.le_add_right _ _),Nat.le_add_right _ _,g.db⟩
 ·show c.labels.toNat<=6;have:=ck.lab;omega
 ·show c.clr.toNat<c.labels.toNat;have:=ck.clr;omega
 refine qqL ⟨c.dflt.toNat,?_,?_⟩ (qlG c) (qvk ck.pol)
 ·show c.dflt=_;have:=ck.dfl;omega
 show c.dflt.toNat<c.labels.toNat;have:=ck.dfl;omega
theorem qs9(ck:qoI c)(w:∀r:Rc,qi2 r->r.v=rvC c->qwk r (kC c) [])(h:GOp c W0 L A q sts sa sc nf mf bv V)(C:qhR b W0)(k:Below V.heap.size V U){t:TypeId}(s:qai (kC c) V (λj=>j<V.heap.size) (.iface t y) d)(J:szF (kC c) d<=2000000):Calls prog 50 #[.agg (rcC c A),.iface t y] U (qj8 (Xc A q (Value.slice sa sts.length sc).ownBlock) V.heap.size (kC c) U (rwF (rvC c) (kC c) [] d (0,0,0,0)).2 ((rwF (rvC c) (kC c) [] d (0,0,0,0)).1.getD .nil)):=by
 have f:qcx W0 A q sts (.slice sa sts.length sc) nf 0 mf U:=h.cp.au.next k
 have z:W0.heap.size<=U.heap.size:=f.below.size;have ok:=qwL (U:=U) ck h C z (Value.slice sa sts.length sc).ownBlock;have u:=(qqU ck.pol).1;have B:StF ⟨rvC c,W0,A,q,U.heap.size+2,qaq c.labels.toNat (qcL c.labels.toNat c.L),c.labels.toNat,U,(Value.slice sa sts.length sc).ownBlock⟩ sts 0 []:=by
  obtain⟨x,Y,l,i,m⟩:=h.cp.first
  exact⟨x,l,qur (qpJ h.cp.ly i) u m⟩
 have I:=qm1 (kC c) d;have H:=qjI (kC c) d;have n:=qqc ⟨rvC c,W0,A,q,U.heap.size+2,qaq c.labels.toNat (qcL c.labels.toNat c.L),c.labels.toNat,U,(Value.slice sa sts.length sc).ownBlock⟩ ok rfl U rfl rfl (kC c) (w _ ok rfl) (λj=>j<V.heap.size) (.iface t y) d 0 sts sa sc nf 0 mf f h.cp.mv (Nat.le_refl _) h.cp.few rfl B (λj g=>Nat.lt_of_lt_of_le g k.size) (s.same (λ_ g=>g) (λj g=>k.block j g)) (by omega) (by omega);have o:qig ⟨rvC c,W0,A,q,U.heap.size+2,qaq c.labels.toNat (qcL c.labels.toNat c.L),c.labels.toNat,U,(Value.slice sa sts.length sc).ownBlock⟩=rcC c A:=by
  have p:((c.clr.toNat:Nat):Int)=c.clr:=Int.toNat_of_nonneg ck.clr.1;unfold qig rcC rvC;dsimp only;rw[p]
 rw[o]at n;refine n.mono ?_;rintro e G ⟨E,F,rfl,l,i,m,D⟩;refine⟨E,F,rfl,⟨⟨i.os.trans f.below.os.symm,i.tape.trans f.below.tape.symm,i.output.trans f.below.output.symm⟩,l,λj a b=>m j a b.1 b.2.1 b.2.2.1 b.2.2.2⟩,D⟩
theorem qv2(ck:qoI c)(h:GOp c W0 L A q sts sa sc nf mf bv V)(i:qhR b W0)(a:Below V.heap.size V U){t:TypeId}(e:qai (kC c) V (λj=>j<V.heap.size) (.iface t y) d)(g:szF (kC c) d<=2000000):Calls prog 50 #[.agg (rcC c A),.iface t y] U (qj8 (Xc A q (Value.slice sa sts.length sc).ownBlock) V.heap.size (kC c) U (rwF (rvC c) (kC c) [] d (0,0,0,0)).2 ((rwF (rvC c) (kC c) [] d (0,0,0,0)).1.getD .nil)):=qs9 ck (λr ok _ V F x d f R N sts=>quF r ok (kC c) V F x d [] f R N sts) h i a e g
theorem qtf{ba:Option Addr}{bc:Nat}(h:qb7 W 3 1 F (.slice ba B.length bc) B.length (B.map (Value.int .i64))):qcR W ba B:=by
 refine⟨λi p=>?_⟩;rcases h.2 with⟨_,l⟩|⟨g,k,c,e,_,a,m,n,o,d⟩
 ·omega
 injection e with e1 _ _;refine⟨g,0,e1,(ltA a),λj f=>?_⟩;rw[Nat.zero_add];refine(qaa a j).trans ?_;have b:(c.toList.take (B.length*1))[j]?=(B.map (Value.int .i64))[j]?:=by rw[d]
 rw[List.getElem?_take_of_lt (by omega),List.getElem?_map,List.getElem?_eq_getElem f]at b;simpa using b
def clO(c:Cfg)(l:List UInt8):Cz:=match qgn c.inn l c.depth c.bytes with
 |.error e=>.error e
 |.ok d=>.ok ((rwF (rvC c) (kC c) [] d (0,0,0,0)).2,poF c.out (kC c) ((rwF (rvC c) (kC c) [] d (0,0,0,0)).1.getD .nil) c.B)

theorem qo0(X:Nat->Prop)(k:Nat)(W:World)(L:Nat)(g:Gt)(B:g.rc.size=40)(a:Option Addr)(c b:Nat)(ay:(qaz g (.slice a c b) false).all (·.oneCell')=true)(N:W.heap[L]?=some (.cells (qaz g (.slice a c b) false) 79))(r:Except (Int×Int) (DataW Unit))(aj:∀A pl,r=.error (A,pl)->A≠0)(ab:Cz)(cD:∀U,Below (clW W L g (.slice a c b)).heap.size (clW W L g (.slice a c b)) U->Calls prog 49 #[.int .i64 g.inF,.agg #[.int .i64 g.depth,.int .i64 g.bytes],.slice a c b] U (qgW k U r))(hz:∀e,r=.error e->ab=.error e)(I:∀d,r=.ok d->∃R m,ab=.ok (R,m)/\∀V t y,Below (clW W L g (.slice a c b)).heap.size (clW W L g (.slice a c b)) V->qai k V (λj=>(clW W L g (.slice a c b)).heap.size<=j/\j<V.heap.size) (.iface t y) d->∀U,Below V.heap.size V U->Calls prog 30 #[.pointer (some ⟨W.heap.size+1,0,none⟩),.iface t y] U (qnG X U R m)):Calls prog 11 #[.pointer (some ⟨L,0,none⟩)] W (qyf X W L ab):=by
 have hL:=ltA N;have aq:(W.alloc (.cells #[.int .i64 0,.int .i64 0,.int .i64 0,.int .i64 0] 28)).cell? ⟨L,46,none⟩=some (.bool false):=(qaa ((Below.heap_alloc _ _ _ hL).trans N) 46).trans (qc8 B _ _ 2);have w:Hid ((W.alloc (.cells #[.int .i64 0,.int .i64 0,.int .i64 0,.int .i64 0] 28)).heap[L]?=some (.cells (qaz g (.slice a c b) false) 79)):=(Below.heap_alloc _ _ _ hL).trans N;have C:Hid (((W.alloc (.cells #[.int .i64 0,.int .i64 0,.int .i64 0,.int .i64 0] 28)).alloc (.cells (qaz g (.slice a c b) false) 79)).heap[L]?=some (.cells (qaz g (.slice a c b) false) 79)):=(Below.heap_alloc _ _ _ (by rw[World.size_alloc];omega)).trans w.out;have aa:Hid (((W.alloc (.cells #[.int .i64 0,.int .i64 0,.int .i64 0,.int .i64 0] 28)).alloc (.cells (qaz gtZ (.slice none 0 0) false) 79)).heap[W.heap.size+1]?=some (.cells (qaz gtZ (.slice none 0 0) false) 79)):=by
  have h:=qac (W.alloc (.cells #[.int .i64 0,.int .i64 0,.int .i64 0,.int .i64 0] 28)) (.cells (qaz gtZ (.slice none 0 0) false) 79);rw[World.size_alloc]at h;exact h
 have H:Hid (((W.alloc (.cells #[.int .i64 0,.int .i64 0,.int .i64 0,.int .i64 0] 28)).alloc (.cells (qaz gtZ (.slice none 0 0) false) 79)).setRow (W.heap.size+1) (qaz g (.slice a c b) false)=(W.alloc (.cells #[.int .i64 0,.int .i64 0,.int .i64 0,.int .i64 0] 28)).alloc (.cells (qaz g (.slice a c b) false) 79)):=by
  have h:=World.setRow_alloc_new (W.alloc (.cells #[.int .i64 0,.int .i64 0,.int .i64 0,.int .i64 0] 28)) (qaz gtZ (.slice none 0 0) false) (qaz g (.slice a c b) false) 79;rw[World.size_alloc]at h;exact h
 have F:Hid ((qaz g (.slice a c b) false).size=47):=qcM B _ _;have ah:Hid ((qaz gtZ (.slice none 0 0) true).size=47):=qcM qqn _ _;have G:Hid ((qaz gtZ (.slice none 0 0) false).size=(qaz g (.slice a c b) false).size):=by show _=_;rw[qcM B,qcM qqn]
 have x:Hid ((qaz g (.slice a c b) false).size=(qaz gtZ (.slice none 0 0) true).size):=by show _=_;rw[qcM B,qcM qqn]
 have ae:Hid ((qaz g (.slice a c b) false).all (·.oneCell')=true):=ay;have af:Hid ((qaz gtZ (.slice none 0 0) true).all (·.oneCell')=true):=by show _=_;kernel_rfl
 have v:Hid (clW W L g (.slice a c b)=((W.alloc (.cells #[.int .i64 0,.int .i64 0,.int .i64 0,.int .i64 0] 28)).alloc (.cells (qaz g (.slice a c b) false) 79)).setRow L (qaz gtZ (.slice none 0 0) true)):=rfl;have u:Hid ((clW W L g (.slice a c b)).heap[W.heap.size]?=some (.cells (qaH (0,0,0,0)) 28)):=quP W L g _ hL;have p:Hid ((clW W L g (.slice a c b)).heap[L]?=some (.cells (qaz gtZ (.slice none 0 0) true) 79)):=qtN W L g _ N;have am:Hid ((clW W L g (.slice a c b)).heap.size=W.heap.size+2):=qgb W L g _;have J:=qmZ k (clW W L g (.slice a c b)) (W.heap.size+1) g B a c b false r (qnw W L g _ hL) cD;have HP:Hid (∀d,r=.ok d->∃R m,ab=.ok (R,m)/\∀V t y,Below (clW W L g (.slice a c b)).heap.size (clW W L g (.slice a c b)) V->qai k V (λj=>(clW W L g (.slice a c b)).heap.size<=j/\j<V.heap.size) (.iface t y) d->∀U,Below V.heap.size V U->Calls prog 30 #[.pointer (some ⟨W.heap.size+1,0,none⟩),.iface t y] U (qnG X U R m)):=I;clear N B cD I ay;have ac:Hid (prog.built 79 [(6,.bool true)]=some (qaz gtZ (.slice none 0 0) true)):=qpZ;obtain⟨o,ap⟩:∃o,Hid (clW W L g (.slice a c b)=o):=⟨_,rfl⟩
 have ad:Hid (∀V,Frx X (clW W L g (.slice a c b)) V->Fry X L W V):=λV h=>Fry.of h;rw[ap.out]at v u p am J HP ad;clear ap;have au:L≠W.heap.size:=by omega
 obtain⟨Y,a0⟩:∃Y,Hid (qaz g (.slice a c b) false=Y):=⟨_,rfl⟩
 obtain⟨q,D⟩:∃q,Hid (qaz gtZ (.slice none 0 0) true=q):=⟨_,rfl⟩
 rw[a0.out]at w C H F G x ae v;rw[D.out]at v p ah x af ac;rcases r with⟨A,pl⟩|d
 ·obtain rfl:=hz _ rfl;have ax:=aj A pl rfl;have e1:(A==0)=false:=by simpa using ax
  have e2:(A != 0)=true:=by simpa using ax
  clear hz aj HP;go_enter func11,ntmps11
  go_wp2_with(first
   |(refine wpList_load_row rfl 79 _ rfl L rfl _ _ _ _ w.out underlying79 rfl (qil F.out) ?_)
   |(refine qeb rfl rfl _ rfl (W.heap.size+1) ?hN ?_;case hN=>(simp only[World.size_alloc];done))
   |(refine wpList_store_row rfl 79 _ _ rfl (W.heap.size+1) Y rfl rfl 79 _ aa.out (qil F.out) G.out ae.out ?_;rw[H.out];clear aa H)
   |(refine qal rfl 79 _ rfl _ rfl _ [(6,.bool true)] ?hl ac.out ?_;case hl=>simp[go_sem])
   |(refine wpList_store_row rfl 79 _ _ rfl L q rfl rfl 79 _ C.out (qil ah.out) x.out af.out ?_;rw[<-v.out];clear aq w C G x v)
   |(go_at_call 29;refine J.mono ?_;clear J;rintro e n ⟨l,hF⟩;obtain rfl:=hF;have K:Hid (Frx X o n):=Frx.of_below l;have E:Hid (n.heap[W.heap.size]?=some (.cells (qaH (0,0,0,0)) 28)):=(l.block _ (ltA u.out)).trans u.out;have z:Hid (n.heap[L]?=some (.cells q 79)):=(l.block _ (ltA p.out)).trans p.out;clear l u p)
   |(refine wpList_store_row rfl 28 _ _ rfl W.heap.size #[.int .i64 0,.int .i64 0,.int .i64 0,.int .i64 0] rfl rfl 28 _ E.out qfr rfl qlF ?_))
  refine bodyPost_ret (qfD results11 _ _ W.heap.size 28 #[.int .i64 0,.int .i64 0,.int .i64 0,.int .i64 0] (0,0) _ rfl (setRow_heap _ _ _ _ _ _ E.out) underlying28 rfl qfr _ _ _ rfl rfl rfl) rfl ?_;exact⟨none,0,0,rfl,(ad.out _ K.out).set (Nat.le_refl _) _,by rw[D.out];exact(setRow_other _ _ _ _ au).trans z.out,rfl⟩
 obtain⟨R,m,rfl,av⟩:=HP.out d rfl;have al:Hid (∀V t y,Below o.heap.size o V->qai k V (λj=>o.heap.size<=j/\j<V.heap.size) (.iface t y) d->∀U,Below V.heap.size V U->Calls prog 30 #[.pointer (some ⟨W.heap.size+1,0,none⟩),.iface t y] U (qnG X U R m)):=av;clear hz aj HP av;obtain⟨f,an⟩:∃f,Hid (poR R m=f):=⟨_,rfl⟩
 obtain⟨T,ak⟩:∃T,Hid (poE m=T):=⟨_,rfl⟩
 go_enter func11,ntmps11
 go_wp2_with(first
  |(refine wpList_load_row rfl 79 _ rfl L rfl _ _ _ _ w.out underlying79 rfl (qil F.out) ?_)
  |(refine qeb rfl rfl _ rfl (W.heap.size+1) ?hN ?_;case hN=>(simp only[World.size_alloc];done))
  |(refine wpList_store_row rfl 79 _ _ rfl (W.heap.size+1) Y rfl rfl 79 _ aa.out (qil F.out) G.out ae.out ?_;rw[H.out];clear aa H)
  |(refine qal rfl 79 _ rfl _ rfl _ [(6,.bool true)] ?hl ac.out ?_;case hl=>simp[go_sem])
  |(refine wpList_store_row rfl 79 _ _ rfl L q rfl rfl 79 _ C.out (qil ah.out) x.out af.out ?_;rw[<-v.out];clear aq w C G x v)
  |(go_at_call 29;refine J.mono ?_;clear J;rintro e n ⟨l,hF⟩;obtain⟨t,y,rfl,hT⟩:=hF;have I:=al.out n t y l hT n bwR;have K:Hid (Frx X o n):=Frx.of_below l;have E:Hid (n.heap[W.heap.size]?=some (.cells (qaH (0,0,0,0)) 28)):=(l.block _ (ltA u.out)).trans u.out;have z:Hid (n.heap[L]?=some (.cells q 79)):=(l.block _ (ltA p.out)).trans p.out;have ao:Hid (W.heap.size<n.heap.size):=by{have h:=l.size;have h2:=am.out;show _<_;omega};clear l u p al hT)
  |(go_at_call 30;refine I.mono ?_;clear I;rintro e i ⟨O,Q,P,rfl,ar,aw⟩;have s:Hid (q0l X W o L i.heap.size f (.slice O Q P) m (i.alloc (.cells (qaH f) 28))):=qzB ao.out K.out ar E.out (by rw[D.out];exact z.out) aw;clear ar aw K E z ao;rw[an.out,ak.out])
  |(refine wpList_store_row rfl 28 _ _ rfl i.heap.size (qaH f) rfl rfl 28 _ (qac i _) (qaM f) rfl (qeY f) ?_;rw[World.setRow_alloc_new]))
 have M:(λZ:World=>Z.heap[i.heap.size]?=some (.cells (qaH f) 28)) { (i.alloc (.cells (qaH f) 28))with drawn:=(i.alloc (.cells (qaH f) 28)).drawn+1}:=s.out.rep;refine wp_region_held (S:=λZ=>Z.heap[i.heap.size]?=some (.cells (qaH f) 28)) (by kernel_rfl) ?_;have a1:Hid (Frx X o { (i.alloc (.cells (qaH f) 28))with drawn:=(i.alloc (.cells (qaH f) 28)).drawn+1}):=s.out.fr.drew;have ag:Hid (({ (i.alloc (.cells (qaH f) 28))with drawn:=(i.alloc (.cells (qaH f) 28)).drawn+1}:World).heap[W.heap.size]?=some (.cells (qaH (0,0,0,0)) 28)):=s.out.res;have az:Hid (({ (i.alloc (.cells (qaH f) 28))with drawn:=(i.alloc (.cells (qaH f) 28)).drawn+1}:World).heap[L]?=some (.cells q 79)):=by show _=_;rw[<-D.out];exact s.out.gate
 have a2:Hid (PoV { (i.alloc (.cells (qaH f) 28))with drawn:=(i.alloc (.cells (qaH f) 28)).drawn+1} W.heap.size (.slice O Q P) m):=s.out.val.same λ_ h=>h;have a6:W.heap.size<i.heap.size:=s.out.lt;clear s;generalize({ (i.alloc (.cells (qaH f) 28))with drawn:=(i.alloc (.cells (qaH f) 28)).drawn+1}:World)=w6 at *;generalize i.heap.size=N8 at *;refine tkp 0 39 (.slice O Q P) M ?_;refine tkq 1 40 (.agg (qaH f)) rfl (λZ hZ=>?y1) M ?_
 case y1=>exact qja 28 (.tmp 11) (by kernel_rfl) N8 (by kernel_rfl) _ _ _ _ hZ underlying28 (by kernel_rfl) (qaM f)
 refine tkp 2 41 (.int .i64 T) M ?_;refine tkp 3 2 (.slice O Q P) M ?_;refine rdq 4 (λa5 hK=>?_);refine ifw (by kernel_rfl) ?_;refine wp_store_row 28 (.tmp 3) (.tmp 40) rfl W.heap.size (qaH f) (by kernel_rfl) (by kernel_rfl) 28 (qaH (0,0,0,0)) ag.out (qaM f) (qyV _ _) (qeY f) ?_;have ai:(λZ:World=>Z.heap[N8]?=some (.cells (qaH f) 28)) (w6.setRow W.heap.size (qaH f)):=sx (by omega) M;refine hK.out _ _ ai (λ_=>?_);clear hK;refine tkp 5 4 (.int .i64 T) ai ?_;refine tkp 6 5 (.int .i64 0) ai ?_;refine wdn ?_;go_simp
 go_wp2_with fail
 refine bodyPost_ret (qfD results11 _ _ W.heap.size 28 (qaH f) (0,0) _ rfl (setRow_heap _ _ _ _ _ _ ag.out) underlying28 rfl (qaM f) _ _ _ rfl rfl rfl) rfl ?_;have a4:=an.out;have a3:=ak.out;subst a4;subst a3;exact⟨O,Q,P,rfl,(ad.out _ a1.out).set (Nat.le_refl _) _,by rw[D.out];exact(setRow_other _ _ _ _ au).trans az.out,a2.out.same λ_ h=>qhT h ag.out⟩

end
end Go.Proofs.YtpifimohecagoaaGreatDoor
