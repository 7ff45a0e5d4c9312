import Derived.Lib.AppendIntMem
import Derived.Lib.ItoaLen
import Derived.Test.YtoegnhgofkhbnaaGreatDoorHq11
import Derived.Test.YtoegnhgofkhbnaaGreatDoorHq12
import Derived.Test.YtoegnhgofkhbnaaGreatDoorHq13
set_option maxRecDepth 100000
set_option maxHeartbeats 8000000
set_option linter.all false
namespace Go.Proofs.YtoegnhgofkhbnaaGreatDoor
open Go.Proofs.Tryz
open Go.Value renaming int->A7,slice->A8,pointer->A9,string->Aa,tuple->Ab,bool->Ad,iface->Ae
open Go.Obj renaming cells->Af
open Go.Ending renaming returned->Ag
open Go.IntKind renaming i64->Ah,u8->Ai
open Option renaming some->Aj,none->Ak
open Go renaming World->Al,Value->Am,Calls->An
open Go.Proofs.Tryz renaming prog->Ao
variable{P:Program}{ops:Array Oper}{o:Oper}{a:Act}{Q:Exit->Act->Al->Prop}{V W W' w2:Al}{A L j k n r tb x:Nat}{sv:Am}{b l:A2}{q:Bi}{Y st:Nat->Nat}{ks:List A2}{ss:List (Nat×A2)}{rs:List (List (Nat×A2)×Int×Int)}{s:Nat×A2}{p:List (A2×Bool)}
section
open Go.RowKit Go.Lib
theorem Vh(w:Al)(t a b e:TypeId)(c:P.underlying t=Aj (.slice e))(d:P.underlying a=Aj (.slice e))(s:Am)(x:Am):(Builtin.append_ #[t,a] b #[s,x]).run P w=(Builtin.append_ #[t,t] b #[s,x]).run P w:=by
 cases s<;>simp[Builtin.append_,LG c,LG d]
theorem Vi(w:Al){rest:List Oper}(H:o.guard=Ak)(s x:Operand)(t p:TypeId)(L:o.op=.call {callee:=.builtin .append,args:=#[s,x],argTypes:=#[t,p]})(f:Nat)(e:TypeId)(i:TypeInfo)(z:Am)(size l:Nat)(r:P.underlying t=Aj (.slice e))(S:P.underlying p=Aj (.slice e))(hi:P.info? e=Aj i)(U:i.zero=Aj z)(O:i.size=size)(F:i.bytes=l)(V:z.cells.size=size)(R:0<size)(v:Am)(n:Nat)(xs:List Am)(N:a.eval s=v)(M:w.ownsRow f e size v n xs)(k:Addr)(m c:Nat)(b:List Am)(T:a.eval x=A8 (Aj k) m c)(I:b.length=m*size)(J:∀j u,b[j]?=Aj u->w.cell? (k.add j)=Aj u)(y:∀u∈b,u.oneCell'=true)(C:n+m<=maxLen)(G:(n+m)*l<=140737488355328)(E:f<=w.heap.size)(h:∀g d,d.ownsRow f e size g (n+m) (xs++b)->w.grownBy d v.ownBlock->wpList P ops Q rest (a.put o.dst g) d):wpList P ops Q (o::rest) a w:=by
 refine LK H λK D=>?_;obtain⟨g,d,q,A,B,_⟩:=N2 (P:=P) w f t o.type e i z size l r hi U O F V R v n xs M k m c b I J y C G E;rw[<-Vh w t p o.type e r S]at q;unfold Oper.wp execOp;simp only[L,resolve,invoke,builtin,D8,E4,Dl,LC,CT,GJ,N,T,q];exact D _ _ (h g d A B)
theorem Vj{w:Al}{rest:List Oper}(j:o.guard=Ak)(s x:Operand)(t b:TypeId)(k:o.op=.call {callee:=.builtin .append,args:=#[s,x],argTypes:=#[t,b]})(c:Nat)(e:TypeId)(i:TypeInfo)(size:Nat)(f:P.underlying t=Aj (.slice e))(p:P.underlying b=Aj (.slice e))(hi:P.info? e=Aj i)(v:Am)(n:Nat)(xs:List Am)(m:a.eval s=v)(l:w.ownsRow c e size v n xs)(q:a.eval x=A8 Ak 0 0)(h:wpList P ops Q rest (a.put o.dst v) w):wpList P ops Q (o::rest) a w:=by
 refine LK j λK g=>?_;have d:=Uc (P:=P) (w:=w) c t o.type e i size f hi v n xs l;rw[<-Vh w t b o.type e f p]at d;unfold Oper.wp execOp;simp only[k,resolve,invoke,builtin,D8,E4,Dl,LC,CT,GJ,m,q,d];exact g _ _ h
theorem C7.cell{t:TypeId}{size:Nat}{F:Nat->Prop}{g cap:Nat}{xs:List Am}(h:C7 V t size F (A8 (Aj ⟨g,0,Ak⟩) n cap) n xs):∀j u,xs[j]?=Aj u->V.cell? ((⟨g,0,Ak⟩:Addr).add j)=Aj u:=by
 obtain⟨p,b⟩:=h;rcases b with⟨e,_⟩|⟨k,f,i,e,hF,d,l,m,o,c⟩
 ·simp at e
 injection e with e1 e2 e3;injection e1 with e1;injection e1 with e1;subst e1;intro j u a;have e:(⟨g,0,Ak⟩:Addr).add j=⟨g,j,Ak⟩:=by by_cases h:j=0<;>simp[Addr.add,h]
 rw[e,DL _ _ _ _ _ _ d];rw[<-c,MS]at a;split at a
 ·simpa using a
 simp at a
theorem Vk{base:Nat}{v v':Am}{bs:A2}(h:Av W base v bs)(c:W'.ownsRow base 5 1 v' (bs.length+l.length) (bs.map B0++l.map B0))(d:W.grownBy W' v.ownBlock):Av W' base v' (bs++l)/\Below base W W':=by
 obtain⟨f,b,_⟩:=h;have a:=G3 (AT base W) f d b;refine⟨⟨by rw[AC,Eg];exact c,AW b a.size,?_⟩,a⟩;rcases c.2 with⟨e,_⟩|⟨g,i,j,e,_⟩
 ·exact⟨Ak,0,0,e⟩
 exact⟨_,_,_,e⟩
theorem Vl(x k:Nat):(AX x k).length=k:=by induction k with|zero=>rfl|succ k a=>rw[AX,Bq,a]
theorem dg(s x:Nat):(AO s x).length<=9:=by
 unfold AO
 repeat' split
 all_goals simp[Vl]
theorem dh(x:Nat):(Fe x).length<=9:=by
 unfold Fe
 repeat' split
 all_goals simp[Vl]
theorem di(W:Al)(d:Nat)(v u:Am)(F:Nat->Prop)(hF:∀k,F k->k<d)(bs l:A2)(M:bs.length<=999999999)(ad:l.length<=999999999)(r:C7 W 5 1 F u l.length (l.map B0))(h:Av W d v bs):An Ao 112 #[v,Ae 216 u] W λe j=>∃i,e=Ag i/\Av j d i (bs++(AO 2 l.length++l))/\Below d W j:=by
 obtain⟨E,C,Q,R,S⟩:=BH Tryz.infoU8;obtain⟨O,J,a,n,c,rfl⟩:=h;have H:Hid (Av W d (A8 a n c) bs):=⟨O,J,a,n,c,rfl⟩
 have w:An Ao 141 #[A8 a n c,A7 Ai 2,A7 .u64 l.length] W λe j=>∃i,e=Ag i/\Av j d i (bs++AO 2 l.length)/\Below d W j:=Jk W d (A8 a n c) bs 2 l.length (by decide) (by omega) M H;have K:(AO 2 l.length).length<=9:=dg _ _;rcases r.2 with⟨rfl,D⟩|⟨g,o,Z,rfl,aa,ab,ac⟩
 ·have N:=JU D;rw[D]at w K;rw[N];have T:=Nq Ak 0 0;have U:=Nr Ak 0 0;have V:=Ns Ak 0 0;have X:=OZ Ak 0 0;go_enter func112,ntmps112
  go_wp2_with(first
   |(go_at_call 141;refine w.mono ?_;rintro e B ⟨Y,rfl,x,y⟩;obtain⟨A,t,m,p,c2,rfl⟩:=x;have f:Hid (Av B d (A8 m p c2) (bs++AO 2 0)):=⟨A,t,_,_,_,rfl⟩;have q:=Ap y)
   |(at_builtin;refine Vj rfl _ _ 49 216 rfl d 5 E 1 underlying49 underlying216 C (A8 m p c2) _ _ rfl f.1 rfl ?_))
  go_ret;rw[IA];exact⟨_,rfl,f,q⟩
 have I:=Ap r;have T:=Nq (Aj ⟨g,0,Ak⟩) l.length o;have U:=Nr (Aj ⟨g,0,Ak⟩) l.length o;have V:=Ns (Aj ⟨g,0,Ak⟩) l.length o;have X:=OZ (Aj ⟨g,0,Ak⟩) l.length o;go_enter func112,ntmps112
 go_wp2_with(first
  |(go_at_call 141;refine w.mono ?_;rintro e B ⟨Y,rfl,x,y⟩;obtain⟨A,t,m,p,c2,rfl⟩:=x;have f:Hid (Av B d (A8 m p c2) (bs++AO 2 l.length)):=⟨A,t,_,_,_,rfl⟩;have q:=Ap y)
  |(at_builtin;refine Vi _ rfl _ _ 49 216 rfl d 5 E (A7 Ai 0) 1 1 underlying49 underlying216 C Q R S rfl (by decide) (A8 m p c2) _ _ rfl f.1 ⟨g,0,Ak⟩ l.length o (l.map B0) rfl (by simp) (I.same (G:=F) (λk z=>z) (λk z=>q.block k (hF k z))).cell (λu r=>by obtain⟨b,_,rfl⟩:=List.mem_map.mp r;rfl) (by rw[AC];unfold maxLen;omega) (by rw[AC];omega) f.2.1 ?_;intro i w5 P L;have s:=Ap (Vk f P L)))
 go_ret;rw[CE]at s;exact⟨_,rfl,s.1,q.trans s.2⟩
theorem dj(W:Al)(d:Nat)(v u:Am)(F:Nat->Prop)(hF:∀k,F k->k<d)(bs l:A2)(M:bs.length<=999999999)(ad:l.length<=999999999)(p:C7 W 5 1 F u l.length (l.map B0))(h:Av W d v bs):An Ao 113 #[v,Ae 216 u] W λe B=>∃z,e=Ag z/\Av B d z (bs++(Fe l.length++l))/\Below d W B:=by
 obtain⟨E,C,Q,R,S⟩:=BH Tryz.infoU8;obtain⟨O,J,a,n,c,rfl⟩:=h;have H:Hid (Av W d (A8 a n c) bs):=⟨O,J,a,n,c,rfl⟩
 have s:=co W d (A8 a n c) bs l.length (by omega) M H;have K:(Fe l.length).length<=9:=dh _;rcases p.2 with⟨rfl,D⟩|⟨g,j,Z,rfl,aa,ab,ac⟩
 ·have N:=JU D;rw[D]at s K;rw[N];have T:=Nq Ak 0 0;have U:=Nr Ak 0 0;have V:=Ns Ak 0 0;have X:=OZ Ak 0 0;go_enter func113,ntmps113
  go_wp2_with(first
   |(go_at_call 146;refine s.mono ?_;rintro e A ⟨Y,rfl,t,w⟩;obtain⟨y,r,i,m,c2,rfl⟩:=t;have f:Hid (Av A d (A8 i m c2) (bs++Fe 0)):=⟨y,r,_,_,_,rfl⟩;have o:=Ap w)
   |(at_builtin;refine Vj rfl _ _ 49 216 rfl d 5 E 1 underlying49 underlying216 C (A8 i m c2) _ _ rfl f.1 rfl ?_))
  go_ret;rw[IA];exact⟨_,rfl,f,o⟩
 have I:=Ap p;have T:=Nq (Aj ⟨g,0,Ak⟩) l.length j;have U:=Nr (Aj ⟨g,0,Ak⟩) l.length j;have V:=Ns (Aj ⟨g,0,Ak⟩) l.length j;have X:=OZ (Aj ⟨g,0,Ak⟩) l.length j;go_enter func113,ntmps113
 go_wp2_with(first
  |(go_at_call 146;refine s.mono ?_;rintro e A ⟨Y,rfl,t,w⟩;obtain⟨y,r,i,m,c2,rfl⟩:=t;have f:Hid (Av A d (A8 i m c2) (bs++Fe l.length)):=⟨y,r,_,_,_,rfl⟩;have o:=Ap w)
  |(at_builtin;refine Vi _ rfl _ _ 49 216 rfl d 5 E (A7 Ai 0) 1 1 underlying49 underlying216 C Q R S rfl (by decide) (A8 i m c2) _ _ rfl f.1 ⟨g,0,Ak⟩ l.length j (l.map B0) rfl (by simp) (I.same (G:=F) (λk x=>x) (λk x=>o.block k (hF k x))).cell (λu p=>by obtain⟨b,_,rfl⟩:=List.mem_map.mp p;rfl) (by rw[AC];unfold maxLen;omega) (by rw[AC];omega) f.2.1 ?_;intro z w5 P L;have q:=Ap (Vk f P L)))
 go_ret;rw[CE]at q;exact⟨_,rfl,q.1,o.trans q.2⟩
def P0(W:Al)(base:Nat)(x:Am)(ys:A2):Prop:=∀(V:Al) (v:Am) (bs:A2),Below base W V->Av V base v bs->bs.length+ys.length<=999999999->An Ao 112 #[v,x] V λe W'=>∃v',e=Ag v'/\Av W' base v' (bs++ys)/\Below base V W'
theorem dk(T:A3->A2)(W:Al)(b:Nat)(v u:Am)(F:Nat->Prop)(hF:∀k,F k->k<b)(bs:A2)(ds:List (DataW Unit))(xs:List Am)(hl:bs.length+((AO 4 ds.length)++ds.flatMap T).length<=999999999)(hn:ds.length<=999999999)(N:C7 W 89 1 F u ds.length xs)(ad:∀(i:Nat) (x:Am) (d:A3),xs[i]?=Aj x->ds[i]?=Aj d->P0 W b x (T d))(ac:∀(i:Nat) (x:Am),xs[i]?=Aj x->∃ah y,x=Ae ah y)(h:Av W b v bs):An Ao 112 #[v,Ae 218 u] W λe l=>∃m,e=Ag m/\Av l b m (bs++(AO 4 ds.length++ds.flatMap T))/\Below b W l:=by
 have af:bs.length<=999999999:=by omega
 obtain⟨ho,hb,a,n,c,rfl⟩:=h;have t:Hid (Av W b (A8 a n c) bs):=⟨ho,hb,a,n,c,rfl⟩
 have cH:An Ao 141 #[A8 a n c,A7 Ai 4,A7 .u64 ds.length] W λe l=>∃m,e=Ag m/\Av l b m (bs++AO 4 ds.length)/\Below b W l:=Jk W b (A8 a n c) bs 4 ds.length (by decide) (by omega) af t;obtain⟨q,f,rfl⟩:∃q f,u=A8 q ds.length f:=by
  rcases N.2 with⟨e,K⟩|⟨g,f,z,e,_⟩
  ·exact⟨Ak,0,by rw[e,K]⟩
  exact⟨_,_,e⟩
 have HU:=Ap N;have V:=Ap ad;have X:=Ap hl;have U:=Ap ac;have al:=Rx q ds.length f;have am:=Ry q ds.length f;have an:=Rz q ds.length f;have ao:=Vf q ds.length f;have ap:=RA q ds.length f;go_enter func112,ntmps112
 go_wp2_with(first
  |(go_at_call 141;refine cH.mono ?_;rintro e w2 ⟨v2,rfl,r,aa⟩;obtain⟨o2,b2,H,O,c2,rfl⟩:=r;have Y:Hid (Av w2 b (A8 H O c2) (bs++AO 4 ds.length)):=⟨o2,b2,_,_,_,rfl⟩;have R:=Ap aa))
 go_loopg[0,64,11] ds.length (λg y ai x wr=>∃(k:Nat) (A:A5) (D B:Nat),y=A8 A D B/\ai=A7 Ah k/\Hid (k+g=ds.length)/\Hid (Av wr b (A8 A D B) ((bs++AO 4 ds.length)++(ds.take k).flatMap T))/\Hid (Below b W wr))
 case atStart=>exact⟨0,H,O,c2,rfl,rfl,by show _=_;omega,by simpa using Y,R⟩
 case round =>
  obtain⟨k,A,D,B,rfl,rfl,s,E,o⟩:=hrel
  cases gk with
  |zero =>
   have ag:¬(k:Int)<ds.length:=by have:=s.out;omega
   have p:Hid (ds.take k=ds):=by show _=_;exact FJ (by have:=s.out;omega)
   go_wp2;go_ret;have L:=E.out;rw[p.out,CE]at L;exact⟨_,rfl,L,o⟩
  |succ g =>
   have ae:k<ds.length:=by have:=s.out;omega
   have ag:(k:Int)<ds.length:=by omega
   have w:=HU.same (V':=wr) (G:=F) (λ_ h=>h) (λj hj=>o.block j (hF j hj));obtain⟨q0,rfl⟩:∃q0,q=Aj ⟨q0,0,Ak⟩:=by
    rcases w.2 with⟨_,e⟩|⟨g,aj,z,e,_⟩
    ·omega
    injection e with e1 K e3;exact⟨g,e1⟩
   have ak:xs.length=ds.length:=by have:=w.1;omega
   obtain⟨x,C⟩:∃x,xs[k]?=Aj x:=⟨xs[k],AY (by omega)⟩
   obtain⟨d,M⟩:∃d,ds[k]?=Aj d:=⟨ds[k],AY ae⟩
   obtain⟨tx,yx,rfl⟩:=U.out k x C;have hc:wr.cell? ⟨q0,k,Ak⟩=Aj (Ae tx yx):=by
    have:=w.cell k _ C;have e:(⟨q0,0,Ak⟩:Addr).add k=⟨q0,k,Ak⟩:=by by_cases h:k=0<;>simp[Addr.add,h]
    rwa[e]at this
   have p:Hid ((ds.take (k+1)).flatMap T=(ds.take k).flatMap T++T d):=by
    show _=_;rw[Hi,M];simp
   have Q:Hid (((bs++AO 4 ds.length)++(ds.take k).flatMap T).length+(T d).length<=999999999):=by
    show _<=_;have h1:=X.out;have r:(ds.flatMap T).length=((ds.take (k+1)).flatMap T).length+((ds.drop (k+1)).flatMap T).length:=by
     rw[<-AC,<-JW,Jb]
    rw[p.out]at r;simp only[AC]at h1 r ⊢;omega
   have cI:=V.out k _ d C M wr _ _ o E Q
   go_wp2_with(first
    |(go_at_call 112;refine cI.mono ?_;rintro e w4 ⟨v4,rfl,h4,ab⟩;obtain⟨o4,b4,I,P,J,rfl⟩:=h4;have Z:Hid (Av w4 b (A8 I P J) (((bs++AO 4 ds.length)++(ds.take k).flatMap T)++T d)):=⟨o4,b4,_,_,_,rfl⟩;have S:=Ap (o.trans ab)))
   go_roundg g
   case measure=>omega
   case rel=>exact⟨k+1,I,P,J,rfl,by go_num,by show _=_;have:=s.out;omega,by show Av _ _ _ _;rw[p.out,<-CE];exact Z,S⟩
def P2(W:Al)(base:Nat)(x:Am)(ys:A2):Prop:=∀(V:Al) (v:Am) (bs:A2),Below base W V->Av V base v bs->bs.length+ys.length<=999999999->An Ao 113 #[v,x] V λe W'=>∃v',e=Ag v'/\Av W' base v' (bs++ys)/\Below base V W'
theorem dl(T:A3->A2)(W:Al)(b:Nat)(v u:Am)(F:Nat->Prop)(hF:∀k,F k->k<b)(bs:A2)(ds:List (DataW Unit))(xs:List Am)(hl:bs.length+((Ff ds.length)++ds.flatMap T).length<=999999999)(hn:ds.length<=999999999)(M:C7 W 89 1 F u ds.length xs)(ad:∀(i:Nat) (x:Am) (d:A3),xs[i]?=Aj x->ds[i]?=Aj d->P2 W b x (T d))(ac:∀(i:Nat) (x:Am),xs[i]?=Aj x->∃ah y,x=Ae ah y)(h:Av W b v bs):An Ao 113 #[v,Ae 218 u] W λe D=>∃P,e=Ag P/\Av D b P (bs++(Ff ds.length++ds.flatMap T))/\Below b W D:=by
 have af:bs.length<=999999999:=by omega
 obtain⟨ho,hb,a,n,c,rfl⟩:=h;have t:Hid (Av W b (A8 a n c) bs):=⟨ho,hb,a,n,c,rfl⟩
 have cH:=cq W b (A8 a n c) bs ds.length (by omega) af t;obtain⟨q,f,rfl⟩:∃q f,u=A8 q ds.length f:=by
  rcases M.2 with⟨e,J⟩|⟨g,f,z,e,_⟩
  ·exact⟨Ak,0,by rw[e,J]⟩
  exact⟨_,_,e⟩
 have HU:=Ap M;have V:=Ap ad;have X:=Ap hl;have U:=Ap ac;have al:=Rx q ds.length f;have am:=Ry q ds.length f;have an:=Rz q ds.length f;have ao:=Vf q ds.length f;have ap:=RA q ds.length f;go_enter func113,ntmps113
 go_wp2_with(first
  |(go_at_call 147;refine cH.mono ?_;rintro e w2 ⟨v2,rfl,o,aa⟩;obtain⟨o2,b2,E,N,c2,rfl⟩:=o;have Y:Hid (Av w2 b (A8 E N c2) (bs++Ff ds.length)):=⟨o2,b2,_,_,_,rfl⟩;have R:=Ap aa))
 go_loopg[0,64,11] ds.length (λg y ai x wr=>∃(k:Nat) (s:A5) (B w:Nat),y=A8 s B w/\ai=A7 Ah k/\Hid (k+g=ds.length)/\Hid (Av wr b (A8 s B w) ((bs++Ff ds.length)++(ds.take k).flatMap T))/\Hid (Below b W wr))
 case atStart=>exact⟨0,E,N,c2,rfl,rfl,by show _=_;omega,by simpa using Y,R⟩
 case round =>
  obtain⟨k,s,B,w,rfl,rfl,p,C,l⟩:=hrel
  cases gk with
  |zero =>
   have ag:¬(k:Int)<ds.length:=by have:=p.out;omega
   have m:Hid (ds.take k=ds):=by show _=_;exact FJ (by have:=p.out;omega)
   go_wp2;go_ret;have K:=C.out;rw[m.out,CE]at K;exact⟨_,rfl,K,l⟩
  |succ g =>
   have ae:k<ds.length:=by have:=p.out;omega
   have ag:(k:Int)<ds.length:=by omega
   have r:=HU.same (V':=wr) (G:=F) (λ_ h=>h) (λj hj=>l.block j (hF j hj));obtain⟨q0,rfl⟩:∃q0,q=Aj ⟨q0,0,Ak⟩:=by
    rcases r.2 with⟨_,e⟩|⟨g,aj,z,e,_⟩
    ·omega
    injection e with e1 J e3;exact⟨g,e1⟩
   have ak:xs.length=ds.length:=by have:=r.1;omega
   obtain⟨x,A⟩:∃x,xs[k]?=Aj x:=⟨xs[k],AY (by omega)⟩
   obtain⟨d,L⟩:∃d,ds[k]?=Aj d:=⟨ds[k],AY ae⟩
   obtain⟨tx,yx,rfl⟩:=U.out k x A;have hc:wr.cell? ⟨q0,k,Ak⟩=Aj (Ae tx yx):=by
    have:=r.cell k _ A;have e:(⟨q0,0,Ak⟩:Addr).add k=⟨q0,k,Ak⟩:=by by_cases h:k=0<;>simp[Addr.add,h]
    rwa[e]at this
   have m:Hid ((ds.take (k+1)).flatMap T=(ds.take k).flatMap T++T d):=by
    show _=_;rw[Hi,L];simp
   have Q:Hid (((bs++Ff ds.length)++(ds.take k).flatMap T).length+(T d).length<=999999999):=by
    show _<=_;have h1:=X.out;have o:(ds.flatMap T).length=((ds.take (k+1)).flatMap T).length+((ds.drop (k+1)).flatMap T).length:=by
     rw[<-AC,<-JW,Jb]
    rw[m.out]at o;simp only[AC]at h1 o ⊢;omega
   have cI:=V.out k _ d A L wr _ _ l C Q
   go_wp2_with(first
    |(go_at_call 113;refine cI.mono ?_;rintro e w4 ⟨v4,rfl,h4,ab⟩;obtain⟨o4,b4,H,O,I,rfl⟩:=h4;have Z:Hid (Av w4 b (A8 H O I) (((bs++Ff ds.length)++(ds.take k).flatMap T)++T d)):=⟨o4,b4,_,_,_,rfl⟩;have S:=Ap (l.trans ab)))
   go_roundg g
   case measure=>omega
   case rel=>exact⟨k+1,H,O,I,rfl,by go_num,by show _=_;have:=p.out;omega,by show Av _ _ _ _;rw[m.out,<-CE];exact Z,S⟩
def Dw:Nat->A3->Bool
 |0,_=>false
 |k+1,d=>match d with
  |.ptr (.lit (.string _))=>true
  |.agg ds=>ds.any (Dw k)
  |.map es=>es.any λe=>Dw k e.2
  |_=>false
theorem dm  : ∀w:Al,(Instr.typeAssert (Ae 176 (.agg #[])) 89 216 true).run Ao w=.ok (Ab #[A8 Ak 0 0,Ad false]) w:=λw=>by kernel_rfl
theorem Vm  : ∀w:Al,(Instr.typeAssert (Ae 176 (.agg #[])) 89 218 true).run Ao w=.ok (Ab #[A8 Ak 0 0,Ad false]) w:=λw=>by kernel_rfl
theorem Vn  : ∀w:Al,(Instr.typeAssert (Ae 176 (.agg #[])) 89 220 true).run Ao w=.ok (Ab #[A8 Ak 0 0,Ad false]) w:=λw=>by kernel_rfl
theorem dr(b:Bool):∀w:Al,(Instr.typeAssert (Ae 252 (Ad b)) 89 216 true).run Ao w=.ok (Ab #[A8 Ak 0 0,Ad false]) w:=λw=>by kernel_rfl
theorem Vo(b:Bool):∀w:Al,(Instr.typeAssert (Ae 252 (Ad b)) 89 218 true).run Ao w=.ok (Ab #[A8 Ak 0 0,Ad false]) w:=λw=>by kernel_rfl
theorem Vp(b:Bool):∀w:Al,(Instr.typeAssert (Ae 252 (Ad b)) 89 220 true).run Ao w=.ok (Ab #[A8 Ak 0 0,Ad false]) w:=λw=>by kernel_rfl
theorem dt(z:Int):∀w:Al,(Instr.typeAssert (Ae 254 (A7 Ah z)) 89 216 true).run Ao w=.ok (Ab #[A8 Ak 0 0,Ad false]) w:=λw=>by kernel_rfl
theorem Vq(z:Int):∀w:Al,(Instr.typeAssert (Ae 254 (A7 Ah z)) 89 218 true).run Ao w=.ok (Ab #[A8 Ak 0 0,Ad false]) w:=λw=>by kernel_rfl
theorem Vr(z:Int):∀w:Al,(Instr.typeAssert (Ae 254 (A7 Ah z)) 89 220 true).run Ao w=.ok (Ab #[A8 Ak 0 0,Ad false]) w:=λw=>by kernel_rfl
theorem du(s:ByteArray):∀w:Al,(Instr.typeAssert (Ae 214 (.string s)) 89 216 true).run Ao w=.ok (Ab #[A8 Ak 0 0,Ad false]) w:=λw=>by kernel_rfl
theorem Vs(s:ByteArray):∀w:Al,(Instr.typeAssert (Ae 214 (.string s)) 89 218 true).run Ao w=.ok (Ab #[A8 Ak 0 0,Ad false]) w:=λw=>by kernel_rfl
theorem Vt(s:ByteArray):∀w:Al,(Instr.typeAssert (Ae 214 (.string s)) 89 220 true).run Ao w=.ok (Ab #[A8 Ak 0 0,Ad false]) w:=λw=>by kernel_rfl
theorem dv(a:A5)(n c:Nat):∀w:Al,(Instr.typeAssert (Ae 216 (A8 a n c)) 89 216 true).run Ao w=.ok (Ab #[A8 a n c,Ad true]) w:=λw=>by kernel_rfl
theorem dw(a:A5)(n c:Nat):∀w:Al,(Instr.typeAssert (Ae 218 (A8 a n c)) 89 216 true).run Ao w=.ok (Ab #[A8 Ak 0 0,Ad false]) w:=λw=>by kernel_rfl
theorem Vu(a:A5)(n c:Nat):∀w:Al,(Instr.typeAssert (Ae 218 (A8 a n c)) 89 218 true).run Ao w=.ok (Ab #[A8 a n c,Ad true]) w:=λw=>by kernel_rfl
theorem dx(a:A5)(n c:Nat):∀w:Al,(Instr.typeAssert (Ae 220 (A8 a n c)) 89 216 true).run Ao w=.ok (Ab #[A8 Ak 0 0,Ad false]) w:=λw=>by kernel_rfl
theorem Vv(a:A5)(n c:Nat):∀w:Al,(Instr.typeAssert (Ae 220 (A8 a n c)) 89 218 true).run Ao w=.ok (Ab #[A8 Ak 0 0,Ad false]) w:=λw=>by kernel_rfl
theorem Vw(a:A5)(n c:Nat):∀w:Al,(Instr.typeAssert (Ae 220 (A8 a n c)) 89 220 true).run Ao w=.ok (Ab #[A8 a n c,Ad true]) w:=λw=>by kernel_rfl
theorem dz(W:Al):An Ao 83 #[Ae 176 (.agg #[])] W λe a=>e=Ag (Ad false)/\A1 W a:=by
 have b:=dm;have c:=Vm;have d:=Vn;go_enter func83,ntmps83;go_wp2;go_ret;exact⟨rfl,AT _ _⟩
theorem dA(W:Al)(b:Bool):An Ao 83 #[Ae 252 (Ad b)] W λe a=>e=Ag (Ad false)/\A1 W a:=by
 have c:=dr b;have d:=Vo b;have f:=Vp b;go_enter func83,ntmps83;go_wp2;go_ret;exact⟨rfl,AT _ _⟩
theorem dB(W:Al)(z:Int):An Ao 83 #[Ae 254 (A7 Ah z)] W λe a=>e=Ag (Ad false)/\A1 W a:=by
 have b:=dt z;have c:=Vq z;have d:=Vr z;go_enter func83,ntmps83;go_wp2;go_ret;exact⟨rfl,AT _ _⟩
theorem dC(W:Al)(s:ByteArray):An Ao 83 #[Ae 214 (.string s)] W λe a=>e=Ag (Ad false)/\A1 W a:=by
 have b:=du s;have c:=Vs s;have d:=Vt s;go_enter func83,ntmps83;go_wp2;go_ret;exact⟨rfl,AT _ _⟩
theorem Vx(W:Al)(a:A5)(n c:Nat):An Ao 83 #[Ae 216 (A8 a n c)] W λe b=>e=Ag (Ad true)/\A1 W b:=by
 have d:=dv a n c;go_enter func83,ntmps83;go_wp2;go_ret;exact⟨rfl,AT _ _⟩
theorem Vy{α:Type}(T:α->Bool)(l:List α)(k:Nat)(d:α)(a:l[k]?=Aj d):(l.take (k+1)).any T=((l.take k).any T||T d):=by
 rw[Hi,a];simp
theorem Vz{α:Type}(T:α->Bool)(l:List α)(k:Nat)(d:α)(a:l[k]?=Aj d)(h:T d=true):l.any T=true:=I6.2 ⟨d,Uf a,h⟩
def RG(W:Al)(x:Am)(r:Bool):Prop:=∀V,A1 W V->An Ao 83 #[x] V λe W'=>e=Ag (Ad r)/\A1 V W'
theorem P3{A:Al}(a:A1 A V)(b:A1 V W'):A1 A W':=a.trans (b.mono a.size)
theorem dD(T:A3->Bool)(W:Al)(u:Am)(F:Nat->Prop)(hF:∀k,F k->k<W.heap.size)(ds:List (DataW Unit))(xs:List Am)(C:C7 W 89 1 F u ds.length xs)(Q:∀(i:Nat) (x:Am) (d:A3),xs[i]?=Aj x->ds[i]?=Aj d->RG W x (T d))(P:∀(i:Nat) (x:Am),xs[i]?=Aj x->∃t y,x=Ae t y):An Ao 83 #[Ae 218 u] W λe L=>e=Ag (Ad (ds.any T))/\A1 W L:=by
 obtain⟨q,b,rfl,V⟩:∃q b,u=A8 q ds.length b/\ds.length<=maxLen:=by
  rcases C.2 with⟨e,s⟩|⟨g,b,M,e,_,_,N,O,_⟩
  ·exact⟨Ak,0,by rw[e,s],by rw[s];decide⟩
  exact⟨_,_,e,AW N O⟩
 unfold maxLen at V;have J:=Ap C;have E:=Ap Q;have D:=Ap P;obtain⟨r,p⟩:∃r,Hid (ds.any T=r):=⟨_,show _=_ from rfl⟩
 rw[p.out];have ac:=dw q ds.length b;have ad:=Vu q ds.length b;go_enter func83,ntmps83;go_wp2
 go_loopg[19,6] ds.length (λg z x wr=>∃(k:Nat),z=A7 Ah k/\Hid (k+g=ds.length)/\Hid ((ds.take k).any T=false)/\Hid (A1 W wr))
 case atStart=>exact⟨0,rfl,by show _=_;omega,by show _=_;simp,AT _ _⟩
 case round =>
  obtain⟨k,rfl,l,B,a⟩:=hrel
  cases gk with
  |zero =>
   have U:¬(k:Int)<ds.length:=by have:=l.out;omega
   have I:Hid (r=false):=by
    show _=_;rw[<-p.out];have h:=B.out;rwa[FJ (by have:=l.out;omega)]at h
   go_wp2;go_ret;rw[I.out];exact⟨rfl,a⟩
  |succ g =>
   have S:k<ds.length:=by have:=l.out;omega
   have U:(k:Int)<ds.length:=by omega
   have o:=J.same (V':=wr) (G:=F) (λ_ h=>h) (λj R=>a.block j (hF j R));obtain⟨q0,rfl⟩:∃q0,q=Aj ⟨q0,0,Ak⟩:=by
    rcases o.2 with⟨_,e⟩|⟨g,aa,M,e,_⟩
    ·omega
    injection e with e1 s e3;exact⟨g,e1⟩
   have ab:xs.length=ds.length:=by have:=o.1;omega
   obtain⟨x,A⟩:∃x,xs[k]?=Aj x:=⟨xs[k],AY (by omega)⟩
   obtain⟨d,w⟩:∃d,ds[k]?=Aj d:=⟨ds[k],AY S⟩
   obtain⟨X,Z,rfl⟩:=D.out k x A;have hc:wr.cell? ⟨q0,k,Ak⟩=Aj (Ae X Z):=by
    have:=o.cell k _ A;have e:(⟨q0,0,Ak⟩:Addr).add k=⟨q0,k,Ak⟩:=by by_cases h:k=0<;>simp[Addr.add,h]
    rwa[e]at this
   have c:=E.out k _ d A w wr a;have H:=Ap (Vy T ds k d w);have K:=Ap (Vz T ds k d w);cases f:T d
   ·rw[f]at c;have n:=Ap f
    go_wp2_with(first
     |(go_at_call 83;refine c.mono ?_;rintro e Y ⟨rfl,v⟩;have m:=Ap (P3 a v)))
    go_roundg g
    case measure=>omega
    case rel=>exact⟨k+1,by go_num,by show _=_;have:=l.out;omega,by show _=_;rw[H.out,B.out,n.out];rfl,m⟩
   rw[f]at c;have n:Hid (r=true):=by show _=_;rw[<-p.out];exact K f
   go_wp2_with(first
    |(go_at_call 83;refine c.mono ?_;rintro e Y ⟨rfl,v⟩;have m:=Ap (P3 a v)))
   go_ret;rw[n.out];exact⟨rfl,m⟩
end
section
open Go.RowKit
def Wv: String := "internal" ++ (String.singleton (Char.ofNat 47) ++ "strconv.uint64pow10")
def Hu(B:Nat)(w:Al):Prop:=Lib.TabBelow Ao B w Wv .u64 Lib.pow10Tab
theorem gO(bs:A2):Lib.byteCells bs=bs.map B0:=by
 unfold Lib.byteCells B0;rfl
theorem gP(W:Al)(a:Nat)(v:Am)(bs:A2)(z:Int)(j : -9223372036854775808<=z)(k:z<=9223372036854775807)(p:bs.length<=999999999)(h:Av W a v bs)(m:Hu a W):An Ao 137 #[v,A7 Ah z,A7 Ah 10] W λe c=>∃b,e=Ag b/\Av c a b (bs++Lib.itoa z)/\Below a W c:=by
 obtain⟨l,i,q⟩:=h;refine(Any.strconv_AppendInt_10 Tryz.laysM176 a bs.length z j k v (bs.map B0) W l i (by omega) (Eq.mp (congrArg (λs=>Lib.TabBelow Ao a W s .u64 Lib.pow10Tab) (by kernel_rfl)) m)).mono ?_;rintro e w ⟨b,rfl,f,d,_⟩;refine⟨b,rfl,⟨?_,?_,?_⟩,d⟩
 ·rw[AC,Eg,<-gO (Lib.itoa z)];exact f
 ·have:=d.size;omega
 rcases f.2 with⟨e,_⟩|⟨g,n,o,e,_⟩
 ·exact⟨_,_,_,e⟩
 exact⟨_,_,_,e⟩
def EW(q:Bi)(st:Nat->Nat)(tv sv:Am):A4:=#[A8 q.ra q.rs.length q.rc,A7 Ah q.dflt,.map (Aj q.lm)]++AG st++#[tv,sv,.map (Aj q.nb),.map (Aj q.mb)]
theorem lE(q:Bi)(a:Am):NI q a=EW q q.st (A8 (Aj ⟨q.tb,0,Ak⟩) q.L q.tc) a:=by kernel_rfl
theorem lF(q:Bi)(st:Nat->Nat)(c a b:Am):(EW q st c a).setIfInBounds 19 b=EW q st b a:=by kernel_rfl
theorem lG(q:Bi)(st:Nat->Nat)(b a:Am)(r v:Nat)(c:r<16):(EW q st b a).setIfInBounds (3+r) (A7 .u16 v)=EW q (λi=>if i=r then v else st i) b a:=by
 have h:=congrArg Array.toList (Pk st r v);rw[MM]at h;apply KL;unfold EW;rw[MM];simp only[QD];rw[List.set_append_left _ _ (by have:=Ju st;simp;omega),Ou _ _ (by simp),<-h];have e:3+r-[Value.slice q.ra q.rs.length q.rc,Value.int IntKind.i64 q.dflt,Value.map (Aj q.lm)].length=r:=by simp
 rw[e]
theorem lH(q:Bi)(st:Nat->Nat)(c b:Am)(r:Nat)(a:r<16):(EW q st c b)[3+r]?=Aj (A7 .u16 (st r)):=by
 have d:=Ju st;unfold EW;rw[MN (by simp;omega),Ls (by simp)];have e:3+r-#[Value.slice q.ra q.rs.length q.rc,Value.int IntKind.i64 q.dflt,Value.map (Aj q.lm)].size=r:=by simp
 rw[e];exact Hv st r a
structure NT(cur:A4)(L:Nat)(tk:Nat->Nat->Nat):Prop where
 size:cur.size=L*16
 at_:∀x r,x<L->r<16->cur[x*16+r]?=some (.int .u16 (tk x r))
theorem NT.set{cur:A4}{tk:Nat->Nat->Nat}(h:NT cur L tk)(x r v:Nat)(d:x<L)(c:r<16):NT (cur.setIfInBounds (x*16+r) (A7 .u16 v)) L (λy i=>if y=x/\i=r then v else tk y i):=by
 refine⟨by rw[Array.size_setIfInBounds,h.size],λy i b a=>?_⟩;rw[Qv];by_cases e:y=x/\i=r
 ·rw[As (by rw[e.1,e.2]),As (by rw[h.size];omega),As e]
 rw[Aq (by omega),Aq e];exact h.at_ y i b a
structure BS(W:World)(A tb L:Nat)(q:Bi)(sv:Value)(st:Nat->Nat)(tk:Nat->Nat->Nat)(V:World):Prop where
 row:V.heap[A]?=some (.cells (EW q st (.slice (some ⟨tb,0,none⟩) L L) sv) 123)
 tks:∃cur,V.heap[tb]?=some (.cells cur 119)/\NT cur L tk
 os:V.os=W.os
 tape:V.tape=W.tape
 output:V.output=W.output
 size:W.heap.size<=V.heap.size
 block:∀k,k<W.heap.size->k≠A->V.heap[k]?=W.heap[k]?
theorem BS.next{V':Al}{tk:Nat->Nat->Nat}(h:BS W A tb L q sv st tk V)(a:A1 V V'):BS W A tb L q sv st tk V':=by
 obtain⟨d,c,f⟩:=h.tks;exact⟨(a.block _ (At h.row)).trans h.row,⟨d,(a.block _ (At c)).trans c,f⟩,a.os.trans h.os,a.tape.trans h.tape,a.output.trans h.output,AW h.size a.size,λk b e=>(a.block k (Br b h.size)).trans (h.block k b e)⟩
theorem XM(V:Al)(p:Addr)(v:Am):(V.drew.setCell p v).heap.size=V.heap.size:=by
 have e:(V.drew.setCell p v).heap.size=V.drew.heap.size:=by simp[World.setCell]
 exact e
theorem BS.stays{tk:Nat->Nat->Nat}(h:BS W A tb L q sv st tk V)(e:A≠tb)(r v:Nat)(f:r<16):BS W A tb L q sv (λi=>if i=r then v else st i) tk (V.drew.setCell ⟨A,3+r,Ak⟩ (A7 .u16 v)):=by
 obtain⟨c,g,j⟩:=h.tks;have a:=DJ V.drew A (3+r) _ _ (A7 .u16 v) h.row;rw[lG q st _ sv r v f]at a;refine⟨a,⟨c,(Ef V.drew _ _ _ (by simpa using e.symm)).trans g,j⟩,h.os,h.tape,h.output,by rw[XM];exact h.size,λk d b=>(Ef V.drew _ _ _ (by simpa using b)).trans (h.block k d b)⟩
theorem BS.took{tk:Nat->Nat->Nat}(h:BS W A tb L q sv st tk V)(c:A≠tb)(l:W.heap.size<=tb)(x r v:Nat)(e:x<L)(d:r<16):BS W A tb L q sv st (λy i=>if y=x/\i=r then v else tk y i) (V.drew.setCell ⟨tb,x*16+r,Ak⟩ (A7 .u16 v)):=by
 obtain⟨j,f,g⟩:=h.tks;exact⟨(Ef V.drew _ _ _ (by simpa using c)).trans h.row,⟨_,DJ V.drew tb (x*16+r) _ _ (A7 .u16 v) f,g.set x r v e d⟩,h.os,h.tape,h.output,by rw[XM];exact h.size,λk a b=>(Ef V.drew _ _ _ (by simp;omega)).trans (h.block k a b)⟩
theorem SE(q:Bi)(st:Nat->Nat)(b a:Am):(EW q st b a)[2]?=Aj (.map (Aj q.lm)):=by kernel_rfl
theorem XN(q:Bi)(st:Nat->Nat)(a b:Am):(EW q st a b)[19]?=Aj a:=by kernel_rfl
theorem Tryz.infoPlc:(prog.info? 119).map (λi=>(i.zero,i.size,i.bytes))=Aj (Aj (.agg (AG C1)),16,32):=by kernel_rfl
theorem lI(n:Nat)(h:n<=128)(w:Al):(Instr.makeSlice 120 (A7 Ah (wrap64 (2+(n:Int)))) (A7 Ah (wrap64 (2+(n:Int))))).run Ao w=.ok (A8 (Aj ⟨w.heap.size,0,Ak⟩) (2+n) (2+n)) (w.alloc (Af (madeCells (AG C1) ((2+n)*16)) 119)):=by
 obtain⟨i,f,c,a,d⟩:=BH Tryz.infoPlc;have e:((2+n:Nat):Int).toNat=2+n:=Gh _;have b:=run_makeSlice (P:=Ao) (w:=w) 120 119 i (.agg (AG C1)) underlying120 f c Ah Ah ((2+n:Nat):Int) ((2+n:Nat):Int) (by omega) (Int.le_refl _) (by rw[e,a];omega) (by rw[d];omega) (by omega);rw[e,a]at b;rw[XH n h];exact b
theorem lJ(L:Nat):NT (madeCells (AG C1) (L*16)) L (λ_ _=>0):=by
 refine⟨size_madeCells _ _,λx r d c=>?_⟩;have a:x*16+r<L*16:=by omega
 have b:(x*16+r)%16<16:=R7 _ (by omega);have h:=Hv C1 ((x*16+r)%16) b;have e:(AG C1)[(x*16+r)%(AG C1).size]! = A7 .u16 0:=by
  rw[Ju,getElem!_def,h];rfl
 unfold madeCells;rw[Array.getElem?_map,Array.getElem?_range,As a,MX,e];rfl
theorem lK(b:W.heap[A]?=Aj (Af (EW q (λ_=>0) (A8 Ak 0 0) sv) 123)):BS W A W.heap.size L q sv (λ_=>0) (λ_ _=>0) ((W.alloc (Af (madeCells (AG C1) (L*16)) 119)).setCell ⟨A,19,Ak⟩ (A8 (Aj ⟨W.heap.size,0,Ak⟩) L L)):=by
 have f:=At b;have a:=DJ (W.alloc (Af (madeCells (AG C1) (L*16)) 119)) A 19 _ _ (A8 (Aj ⟨W.heap.size,0,Ak⟩) L L) ((AL W _ A f).trans b);rw[lF]at a;refine⟨a,⟨_,(Ef _ _ _ _ (by simp;omega)).trans (Ay W _),lJ L⟩,rfl,rfl,rfl,?_,λk c d=>(Ef _ _ _ _ (by simpa using d)).trans (AL W _ k c)⟩;have e:((W.alloc (Af (madeCells (AG C1) (L*16)) 119)).setCell ⟨A,19,Ak⟩ (A8 (Aj ⟨W.heap.size,0,Ak⟩) L L)).heap.size=(W.alloc (Af (madeCells (AG C1) (L*16)) 119)).heap.size:=by simp[World.setCell]
 rw[e,AM];omega
theorem SF(q:Bi)(st:Nat->Nat)(b a:Am):(EW q st b a)[0]?=Aj (A8 q.ra q.rs.length q.rc):=by kernel_rfl
theorem BS.low{W0:Al}{tk:Nat->Nat->Nat}(h:BS W A tb L q sv st tk V)(a:A1 W0 W)(c:W0.heap.size<=A):A1 W0 V :=
 ⟨h.os.trans a.os,h.tape.trans a.tape,h.output.trans a.output,AW a.size h.size,λi b=>(h.block i (Br b a.size) (by omega)).trans (a.block i b)⟩
theorem BS.names{tk:Nat->Nat->Nat}{lm:Nat}(h:BS W A tb L q sv st tk V)(b:EV W lm ks)(d:A≠lm):EV V lm ks :=
 b.kept (row:=Aj A) ⟨h.os,h.tape,h.output,h.size,λi a c=>h.block i a (by simpa using c)⟩ (by simpa using d.symm)
theorem BS.c2{tk:Nat->Nat->Nat}(h:BS W A tb L q sv st tk V):V.cell? ⟨A,2,Ak⟩=Aj (.map (Aj q.lm)):=(DL V A 2 _ _ _ h.row).trans (SE _ _ _ _)
theorem BS.c19{tk:Nat->Nat->Nat}(h:BS W A tb L q sv st tk V):V.cell? ⟨A,19,Ak⟩=Aj (A8 (Aj ⟨tb,0,Ak⟩) L L):=(DL V A 19 _ _ _ h.row).trans (XN _ _ _ _)
theorem BS.cs{tk:Nat->Nat->Nat}(h:BS W A tb L q sv st tk V)(r:Nat)(a:r<16):V.cell? ⟨A,3+r,Ak⟩=Aj (A7 .u16 (st r))/\V.frozen? ⟨A,3+r,Ak⟩=false :=
 ⟨(DL V A (3+r) _ _ _ h.row).trans (lH _ _ _ _ r a),Cx V A (3+r) _ _ h.row⟩
theorem BS.ct{tk:Nat->Nat->Nat}(h:BS W A tb L q sv st tk V)(x r:Nat)(d:x<L)(c:r<16):V.cell? ⟨tb,x*16+r,Ak⟩=Aj (A7 .u16 (tk x r))/\V.frozen? ⟨tb,x*16+r,Ak⟩=false:=by
 obtain⟨e,a,b⟩:=h.tks;exact⟨(DL V tb (x*16+r) _ _ _ a).trans (b.at_ x r d c),Cx V tb (x*16+r) _ _ a⟩
theorem lL(st:Nat->Nat)(k j:Nat):(λi=>if i=k then st k|||2^j else st i)=DW st k j true:=by
 funext i;unfold DW;by_cases h:i=k
 ·subst h;rw[As rfl,As ⟨rfl,rfl⟩]
 rw[Aq h,Aq (λe=>h e.1)]
theorem PK(st:Nat->Nat)(k j:Nat):DW st k j false=st:=by
 funext i;unfold DW;rw[Aq (by simp)]
theorem BS.alike{tk tk':Nat->Nat->Nat}(h:BS W A tb L q sv st tk V)(f:∀x r,x<L->tk' x r=tk x r):BS W A tb L q sv st tk' V:=by
 obtain⟨b,c,d,e⟩:=h.tks;exact⟨h.row,⟨b,c,d,λx r a g=>by rw[f x r a];exact e x r a g⟩,h.os,h.tape,h.output,h.size,h.block⟩
def Il(tk:Nat->Nat->Nat)(x k j:Nat):Nat->Nat->Nat:=λy i=>if y=x/\i=k then tk x k|||2^j else tk y i
theorem BS.one{tk:Nat->Nat->Nat}(h:BS W A tb L q sv st tk V)(b:A≠tb)(c:W.heap.size<=tb)(x k j:Nat)(d:x<L)(a:k<16):BS W A tb L q sv st (Il tk x k j) (V.drew.setCell ⟨tb,x*16+k,Ak⟩ (A7 .u16 ((tk x k|||2^j:Nat):Int))):=h.took b c x k (tk x k|||2^j) d a
def IX(tk:Nat->Nat->Nat)(m k j:Nat):Nat->Nat->Nat:=λy=>if y<m then DW (tk y) k j true else tk y
theorem lM(tk:Nat->Nat->Nat)(k j:Nat):IX tk 0 k j=tk:=by
 funext y;unfold IX;rw[Aq (by omega)]
theorem lN(tk:Nat->Nat->Nat)(m k j:Nat):Il (IX tk m k j) m k j=IX tk (m+1) k j:=by
 funext y i;unfold Il IX;by_cases h:y=m
 ·subst h;rw[As (by omega:y<y+1)];by_cases a:i=k
  ·subst a;rw[As ⟨rfl,rfl⟩,Aq (by omega:¬y<y)];unfold DW;rw[As ⟨rfl,rfl⟩]
  rw[Aq (λe=>a e.2),Aq (by omega:¬y<y)];unfold DW;rw[Aq (λe=>a e.1)]
 rw[Aq (λe=>h e.1)];by_cases b:y<m
 ·rw[As b,As (by omega:y<m+1)]
 rw[Aq b,Aq (by omega:¬y<m+1)]
theorem XO(tk:Nat->Nat->Nat)(x k j:Nat)(y:Nat):Il tk x k j y=DW (tk y) k j (y==x):=by
 funext i;unfold Il DW;by_cases h:y=x
 ·subst h;by_cases a:i=k
  ·subst a;rw[As ⟨rfl,rfl⟩,As ⟨rfl,by simp⟩]
  rw[Aq (λe=>a e.2),Aq (λe=>a e.1)]
 rw[Aq (λe=>h e.1),Aq (λe=>h (by simpa using e.2))]
theorem lO{tk:Nat->Nat->Nat}(h:BS W A tb L q sv st tk V)(b:A≠tb)(a:k<16)(c:w2=V.drew.setCell ⟨A,3+k,Ak⟩ (A7 .u16 ((st k|||2^j:Nat):Int))):BS W A tb L q sv (DW st k j true) tk w2:=by
 rw[c,<-lL];exact h.stays b k (st k|||2^j) a
theorem SG{tk:Nat->Nat->Nat}(h:BS W A tb L q sv st tk V)(b:A≠tb)(d:W.heap.size<=tb){o:Nat}(f:x<L)(a:k<16)(c:o=x*16)(e:w2=V.drew.setCell ⟨tb,o+k,Ak⟩ (A7 .u16 ((tk x k|||2^j:Nat):Int))):BS W A tb L q sv st (Il tk x k j) w2:=by
 rw[e,c];exact h.one b d x k j f a
def lP(W:Al)(A:Nat)(q:Bi)(sv:Am)(ks:List A2)(e:Ending)(W':Al):Prop :=
 e=Ag (Ab #[])/\∃tb st tk,W.heap.size<=tb/\BS W A tb (2+ks.length) q sv st tk W'/\IW q.rs ks st tk
theorem lQ(P W:Al)(A:Nat)(q:Bi)(d:Am)(ks:List A2)(a3:A1 P W)(Y:W.heap[A]?=Aj (Af (EW q (λ_=>0) (A8 Ak 0 0) d) 123))(aj:P.heap.size<=A)(hn:q.rs.length<=16)(h8:∀i (h:i<q.rs.length),q.rs[i].1.length<=8)(a5:∀i (h:i<q.rs.length) j (U:j<q.rs[i].1.length),q.rs[i].1[j].1<=3/\q.rs[i].1[j].2.length<=1000000000)(hr:G5 P q.ra q.rs)(hm:EV W q.lm ks)(am:ks.length<=128)(a4:∀i (h:i<q.rs.length) j (U:j<q.rs[i].1.length),q.rs[i].1[j].1=3->q.rs[i].1[j].2∈ks)(bl:A≠q.lm):An Ao 46 #[A9 (Aj ⟨A,0,Ak⟩)] W (lP W A q d ks):=by
 have c2:=(DL W A 2 _ _ _ Y).trans (SE _ _ _ _);have bo:=hm.len underlying114;have ae:=Ap Y;have bk:=Cx W A 19 _ _ Y;have c19:=(DL W A 19 _ _ _ Y).trans (XN _ _ _ _);have HR:=Ap hr;have ag:=Ap a3;have HM:=Ap hm;have bd:=Ap a5;have bc:=Ap a4;have H8:=Ap h8;have ax:=Ap (lI ks.length am);have be:=Ap am;clear Y hr a3 hm a5 a4 h8 am;go_enter func46,ntmps46;have bs:=ax.out;have lA:=At ae;have bx:A≠W.heap.size:=by omega
 have ao:Hid ((W.alloc (Af (madeCells (AG C1) ((2+ks.length)*16)) 119)).setCell ⟨A,19,Ak⟩ (A8 (Aj ⟨W.heap.size,0,Ak⟩) (2+ks.length) (2+ks.length))=(W.setCell ⟨A,19,Ak⟩ (A8 (Aj ⟨W.heap.size,0,Ak⟩) (2+ks.length) (2+ks.length))).alloc (Af (madeCells (AG C1) ((2+ks.length)*16)) 119)):=by show _=_;go_simp
 have au:Hid (BS W A W.heap.size (2+ks.length) q d (λ_=>0) (λ_ _=>0) ((W.setCell ⟨A,19,Ak⟩ (A8 (Aj ⟨W.heap.size,0,Ak⟩) (2+ks.length) (2+ks.length))).alloc (Af (madeCells (AG C1) ((2+ks.length)*16)) 119))):=by
  have h:=lK (L:=2+ks.length) ae;rw[ao.out]at h;exact h
 have c0:=(DL _ A 0 _ _ _ ae).trans (SF _ _ _ _);obtain⟨ra,ad⟩:∃ra,Hid (q.ra=ra):=⟨_,rfl⟩
 rw[ad.out]at c0;have a0:Hid (G5 P ra q.rs):=by rw[<-ad.out];exact HR
 clear HR ad;go_wp2;clear c2 bo bk c19 c0 bs ax ao;obtain⟨L,J⟩:∃L,Hid (L=2+ks.length):=⟨_,rfl⟩
 obtain⟨a,E⟩:∃a,Hid (W.heap.size<=a/\a=W.heap.size):=⟨_,AB _,rfl⟩
 have g:A≠a:=by have:=E.2;omega
 have av:Hid (BS W A a L q d (λ_=>0) (λ_ _=>0) ((W.setCell ⟨A,19,Ak⟩ (A8 (Aj ⟨W.heap.size,0,Ak⟩) (2+ks.length) (2+ks.length))).alloc (Af (madeCells (AG C1) ((2+ks.length)*16)) 119))):=by
  rw[J.out,E.2];exact au
 clear au;generalize(W.setCell ⟨A,19,Ak⟩ (A8 (Aj ⟨W.heap.size,0,Ak⟩) (2+ks.length) (2+ks.length))).alloc (Af (madeCells (AG C1) ((2+ks.length)*16)) 119)=V00 at *
 go_loopg[22] q.rs.length (λai z wr=>∃(k:Nat) (st:Nat->Nat) (tk:Nat->Nat->Nat),z=A7 Ah k/\Hid (k+ai=q.rs.length)/\Hid (BS W A a L q d st tk wr)/\Hid (FE q.rs ks k 0 st tk))
 case atStart=>exact⟨0,_,_,rfl,by show _=_;omega,av,lC _ _⟩
 case round =>
  clear av;obtain⟨k,st,tk,rfl,y,N,HK⟩:=hrel
  cases gk with
  |zero =>
   have bp:¬(k:Int)<(q.rs.length:Int):=by have:=y.out;omega
   go_wp2;go_end0;refine⟨rfl,a,st,tk,E.1,?_,HK.done (by have:=y.out;omega)⟩;rw[<-J.out];exact N
  |succ ai =>
   have H:k<q.rs.length:=by have:=y.out;omega
   have bp:(k:Int)<(q.rs.length:Int):=by omega
   obtain⟨bj,off,pa,pc,rfl,hb,e0,e1,T,bu⟩:=(a0.below (N.low ag aj)).at_ k H;have a1:Hid (L1 P pa q.rs[k].1):=by
    obtain⟨b',b5,b7,b8,ak,bm,f0,f1,f2,bt⟩:=a0.at_ k H;injection ak with ak;injection ak with hab1 hab2;subst hab1;subst hab2;have F:=((N.low ag aj).cell (p:=⟨bj,off+k*3,Ak⟩) bm).trans f0;rw[e0]at F;injection F with F;injection F with F _ _;subst F;exact bt
   have bn:=H8.out k H;have l:k<16:=by omega
   have aq:Hid (∀j (U:j<q.rs[k].1.length),(q.rs[k].1[j].1<=3/\q.rs[k].1[j].2.length<=1000000000)/\(q.rs[k].1[j].1=3->q.rs[k].1[j].2∈ks)):=λj U=>⟨bd k H j U,bc k H j U⟩
   have az:=Ap (AY H);have ay:Hid (BS W A a L q d st tk (wr.alloc (Af #[A8 pa q.rs[k].1.length pc,A7 Ah q.rs[k].2.1,A7 Ah q.rs[k].2.2] 153))):=N.next AH
   clear bu;go_wp2;clear e0 e1 T N;generalize wr.alloc (Af #[A8 pa q.rs[k].1.length pc,A7 Ah q.rs[k].2.1,A7 Ah q.rs[k].2.2] 153)=V0 at *;generalize q.rs[k]=R at *;obtain⟨D,lb,ac⟩:=R;dsimp only at a1 bn aq
   go_loopg[30] D.length (λG z ah=>∃(j:Nat) (st:Nat->Nat) (tk:Nat->Nat->Nat),z=A7 Ah j/\Hid (j+G=D.length)/\Hid (BS W A a L q d st tk ah)/\Hid (FE q.rs ks k j st tk))
   case atStart=>exact⟨0,st,tk,rfl,by show _=_;omega,ay,HK⟩
   case round =>
    clear ay HK;obtain⟨j,st,tk,rfl,C,w,b⟩:=hrel
    cases gk with
    |zero =>
     have bq:¬(j:Int)<(D.length:Int):=by have:=C.out;omega
     go_wp2;go_roundg ai
     case measure=>omega
     case rel=>exact⟨k+1,st,tk,by go_num,by show _=_;have:=y.out;omega,w,b.rule az (by have:=C.out;show D.length<=j;omega)⟩
    |succ G =>
     have al:j<D.length:=by have:=C.out;omega
     have bq:(j:Int)<(D.length:Int):=by omega
     obtain⟨b2,b6,rfl,b3,s0,s1⟩:=(a1.below (w.low ag aj)).at_ j al;obtain⟨⟨a6,a7⟩,ba⟩:=aq.out j al;have bf:=Ap (AY al);have ar:=Ap a7;have aw:=Ap ba;have ap:=Ap a6;have aa:j<16:=by omega
     clear a7 ba a6;generalize D[j]=sg at *;have f:Hid (BS W A a L q d st tk (wr.alloc (Af #[A7 Ah sg.1,Aa ⟨sg.2.toArray⟩] 158))):=w.next AH
     have ab:=b.lt H8;have bg:=Ap ab.1;have af:=Ap ab.2;clear ab;have u:=Ap (b.place az bf);have bh:Hid (a<wr.heap.size):=by
      obtain⟨bw,h1,_⟩:=w.tks;exact At h1
     obtain⟨I,key⟩:=sg;have K:Hid ((wr.alloc (Af #[A7 Ah I,Aa ⟨key.toArray⟩] 158)).heap[wr.heap.size]?=Aj (Af #[A7 Ah I,Aa ⟨key.toArray⟩] 158)):=Ay _ _;dsimp only at ar aw ap;have Q:=w.c19;have bz:=At w.row;have b0:(1:Int)<(L:Int):=by have:=J.out;omega
     have b1:L<=130:=by have:=J.out;have:=be.out;omega
     clear w b;rcases(by have:=ap.out;omega:I=0\/I=1\/I=2\/I=3)with rfl|rfl|rfl|rfl
     ·have B:Hid (FE q.rs ks k (j+1) st (λx=>DW (tk x) k j true)):=by
       have h:=u.out;have e:DW st k j (((0,key):Nat×A2).1==1)=st:=PK st k j;rw[e]at h;exact h
      clear u;go_wp2;generalize wr.alloc (Af #[A7 Ah ((0:Nat):Int),Aa ⟨key.toArray⟩] 158)=V1 at *
      go_loopg[44] L (λg3 z ah=>∃m:Nat,z=A7 Ah m/\Hid (m+g3=L)/\Hid (BS W A a L q d st (IX tk m k j) ah))
      case atStart=>exact⟨0,rfl,by show _=_;omega,by rw[lM];exact f⟩
      case round =>
       clear f K Q;obtain⟨m,rfl,V,O⟩:=hrel
       cases gk with
       |zero =>
        have br:¬(m:Int)<(L:Int):=by have:=V.out;omega
        have t:Hid (BS W A a L q d st (λx=>DW (tk x) k j true) wr):=O.alike λx b9 hx=>by
         unfold IX;rw[As (by have:=V.out;omega)]
        clear O;go_wp2;go_roundg G
        case measure=>omega
        case rel=>exact⟨j+1,st,_,by go_num,by show _=_;have:=C.out;omega,t,B⟩
       |succ g3 =>
        have a9:m<L:=by have:=V.out;omega
        have br:(m:Int)<(L:Int):=by omega
        have Q:=O.c19;obtain⟨ct,s⟩:=O.ct m k a9 l;have a8:IX tk m k j m k<65536:=by
         unfold IX;rw[Aq (by omega)];have:=af.out m k;omega
        have o:=NB wr a (m*16) (IX tk m k j m k) k j l aa a8 ct s;clear ct s a8
        go_wp2_with(first
         |(go_at_call 77;refine o.mono ?_;clear o;rintro e r ⟨rfl,n⟩;have t:=Ap (SG O g E.1 a9 l rfl n);clear n Q))
        go_roundg g3
        case measure=>omega
        case rel=>exact⟨m+1,by go_num,by show _=_;have:=V.out;omega,by rw[<-lN];exact t⟩
     ·have B:Hid (FE q.rs ks k (j+1) (DW st k j true) tk):=by
       have h:=u.out;have e:(λx=>DW (tk x) k j (Ik ks (1,key) x))=tk:=by
        funext x;exact PK (tk x) k j
       rw[e]at h;exact h
      obtain⟨ct,s⟩:=f.cs k l;have o:=NB _ A 3 (st k) k j l aa (by have:=bg.out k;omega) ct s;clear u ct s
      go_wp2_with(first
       |(go_at_call 77;refine o.mono ?_;clear o;rintro e r ⟨rfl,n⟩;have t:=Ap (lO f g l n);clear n Q f))
      go_roundg G
      case measure=>omega
      case rel=>exact⟨j+1,_,tk,by go_num,by show _=_;have:=C.out;omega,t,B⟩
     ·have B:Hid (FE q.rs ks k (j+1) st (Il tk 1 k j)):=by
       have h:=u.out;have e:(λx=>DW (tk x) k j (Ik ks (2,key) x))=Il tk 1 k j:=by
        funext x;exact(XO tk 1 k j x).symm
       have T:DW st k j (((2,key):Nat×A2).1==1)=st:=PK st k j;rw[e,T]at h;exact h
      obtain⟨ct,s⟩:=f.ct 1 k (by omega) l;have o:=NB _ a 16 (tk 1 k) k j l aa (by have:=af.out 1 k;omega) ct s;clear u ct s
      go_wp2_with(first
       |(go_at_call 77;refine o.mono ?_;clear o;rintro e r ⟨rfl,n⟩;have t:Hid (BS W A a L q d st (Il tk 1 k j) r):=SG f g E.1 (by omega) l rfl n;clear n Q f))
      go_roundg G
      case measure=>omega
      case rel=>exact⟨j+1,st,_,by go_num,by show _=_;have:=C.out;omega,t,B⟩
     obtain⟨x,HX⟩:∃x,Hid (x=(Dp ks (.string key)).getD 0):=⟨_,rfl⟩
     have bi:Hid (x<L):=by
      have h:=aw.out rfl;show x<L;rw[HX.out,JH h,J.out];have:=Oo.2 h;show 2+ks.idxOf key<_;omega
     have B:Hid (FE q.rs ks k (j+1) st (Il tk x k j)):=by
      have h:=u.out;have e:(λan=>DW (tk an) k j (Ik ks (3,key) an))=Il tk x k j:=by
       funext an;rw[XO,HX.out];rfl
      have T:DW st k j (((3,key):Nat×A2).1==1)=st:=PK st k j;rw[e,T]at h;exact h
     have Dn:=bi.out;have b4:(x:Int)<(L:Int):=by omega
     clear u;go_wp2;generalize wr.alloc (Af #[A7 Ah ((3:Nat):Int),Aa ⟨key.toArray⟩] 158)=V1 at *;generalize wr.heap.size=M at *;refine Cp (S:=λZ=>(∃tk,BS W A a L q d st tk Z)/\Z.heap[M]?=Aj (Af #[A7 Ah ((3:Nat):Int),Aa ⟨key.toArray⟩] 158)) (⟨⟨tk,f.next (AT _ _).drew⟩,K⟩) (by kernel_rfl) ?_;intro c;refine Au 0 77 (A9 (Aj ⟨A,0,Ak⟩)) c ?_;refine Au 1 78 (A9 (Aj ⟨A,0,Ak⟩)) c ?_;refine Au 2 79 (A9 (Aj ⟨A,19,Ak⟩)) c ?_;refine AD 3 80 (A8 (Aj ⟨a,0,Ak⟩) L L) rfl (λZ v=>?y3) c ?_
     case y3=>(obtain⟨bb,X⟩:=v.1;have z1:=X.c19;go_simp)
     refine Au 4 81 (A9 (Aj ⟨A,0,Ak⟩)) c ?_;refine Au 5 82 (A9 (Aj ⟨A,0,Ak⟩)) c ?_;refine Au 6 83 (A9 (Aj ⟨A,2,Ak⟩)) c ?_;refine AD 7 84 (.map (Aj q.lm)) rfl (λZ v=>?y7) c ?_
     case y7=>(obtain⟨bb,X⟩:=v.1;have z1:=X.c2;go_simp)
     refine Au 8 85 (A9 (Aj ⟨M,1,Ak⟩)) c ?_;refine AD 9 86 (Aa ⟨key.toArray⟩) rfl (λZ v=>?y9) c ?_
     case y9=>(have z1:=Ar v.2 1;go_simp)
     refine AD 10 87 (A7 Ah x) rfl (λZ v=>?y10) c ?_
     case y10=>(obtain⟨bb,X⟩:=v.1;have z3:=NH (X.names HM bl).im JE underlying114 (Pw key ar);rw[<-HX.out]at z3;go_simp)
     refine AD 11 88 (A9 (Aj ⟨a,x*16,Ak⟩)) rfl (λZ v=>?y11) c ?_
     case y11=>(go_simp)
     refine Au 12 89 (A7 Ah k) c ?_;refine Au 13 90 (A7 Ah j) c ?_;obtain⟨ct,s⟩:=(f.next (AT _ _).drew).ct x k Dn l;have o:=NB _ a (x*16) (tk x k) k j l aa (by have:=af.out x k;omega) ct s;clear ct s;refine Bc 14 (λbv hK=>?_);go_simp;refine o.mono ?_;clear o;rintro e r ⟨rfl,n⟩;have t:=Ap (SG (f.next (AT _ _).drew) g E.1 Dn l rfl n);have a2:(λZ:Al=>(∃tk,BS W A a L q d st tk Z)/\Z.heap[M]?=Aj (Af #[A7 Ah ((3:Nat):Int),Aa ⟨key.toArray⟩] 158)) r:=⟨⟨_,t⟩,by rw[n];exact(Ef _ _ _ _ (by have:=bh.out;simp;omega)).trans K⟩
     clear n f K;refine hK.out _ _ a2 (λ_=>?_);clear hK c a2;refine Bw ?_;go_simp;go_wp2;go_roundg G
     case measure=>omega
     case rel=>exact⟨j+1,st,_,by go_num,by show _=_;have:=C.out;omega,t,B⟩
def CC(dflt:Int):List (List (Nat×A2)×Int×Int)->List (A2×Bool)->Int×Int
 |[],_=>(dflt,1)
 |x::rs,p=>if KZ x.1 p then x.2 else CC dflt rs p
def Ld(rs:List (List (Nat×A2)×Int×Int))(p:List (A2×Bool))(Y:Nat->Nat):Prop:=∀r (h:r<rs.length),∀k,(Y r).testBit k=Jt rs[r].1 p k
theorem SH{st:Nat}{P:Nat->Bool}(b:∀k,st.testBit k=DT ss k)(a:∀k,x.testBit k=P k):∀k,GV st x k=Js ss P k
 |0=>a 0
 |k+1=>by rw[GV,Js,a,b,SH b a k]
theorem lR{st tk:Nat}{t:A2×Bool}{P:Nat->Bool}(b:∀k,st.testBit k=DT ss k)(c:∀k,tk.testBit k=Kg ss t k)(a:∀k,x.testBit k=P k)(k:Nat):(IS st tk x).testBit k=L0 ss t P k:=by
 unfold IS;rw[QS,QP,Ue,QP,a,b]
 cases k with
 |zero=>rw[L0];simp
 |succ k =>
  rw[L0,Ly,a,c];simp
theorem XP(h:r<rs.length)(k:Nat):gB rs r k (λs=>s.1==1)=DT rs[r].1 k:=by
 unfold gB DT;rw[AY h];show(match rs[r].1[k]? with|some s=>s.1==1|none=>false)=_;cases rs[r].1[k]? <;> rfl
theorem lS{a:A2}(h:a∈ks)(i:b∈ks)(e:ks.idxOf a=ks.idxOf b):a=b:=by
 have f:=Oo.2 h;have g:=Oo.2 i;have c:=Ur f;have d:=Ur g;rw[<-c,<-d];simp[e]
theorem lT(h:s.1=3->s.2∈ks)(i:s.1<=3)(key:A2)(b:Bool):Ik ks s (Gx (Dp ks) key b)=KY s (key,b):=by
 unfold Ik KY;split
 ·rfl
 split
 ·rfl
 split
 ·cases b with
  |true=>rfl
  |false =>
   show(((Dp ks (.string key)).getD 0)==1)=false;by_cases a:key∈ks
   ·rw[JH a];simp;omega
   rw[Lc a];rfl
 have g:=h (by omega);rw[JH g]
 cases b with
 |true =>
  show((1:Nat)==2+ks.idxOf s.2)=false;simp;omega
 |false =>
  show(((Dp ks (.string key)).getD 0)==2+ks.idxOf s.2)=(!false&&key==s.2)
  by_cases a:key∈ks
  ·rw[JH a];show(2+ks.idxOf key==2+ks.idxOf s.2)=_;by_cases d:key=s.2
   ·rw[d];simp
   have f:ks.idxOf key≠ks.idxOf s.2:=λe=>d (lS a g e);have c:(2+ks.idxOf key==2+ks.idxOf s.2)=false:=by simpa using f
   rw[c];simp[d]
  rw[Lc a];have f:key≠s.2:=λe=>a (e▸g);have c:((Ak:Option Nat).getD 0==2+ks.idxOf s.2)=false:=by simp;omega
  rw[c];simp[f]
theorem lU(key:A2)(b:Bool):Gx (Dp ks) key b<2+ks.length:=by
 unfold Gx;split
 ·omega
 by_cases a:key∈ks
 ·rw[JH a];have:=Oo.2 a;show 2+ks.idxOf key<_;omega
 rw[Lc a];show 0<_;omega
theorem lV(h:r<rs.length)(c:∀s∈rs[r].1,s.1<=3/\(s.1=3->s.2∈ks))(key:A2)(a:Bool)(k:Nat):gB rs r k (λs=>Ik ks s (Gx (Dp ks) key a))=Kg rs[r].1 (key,a) k:=by
 unfold gB Kg;rw[AY h];show(match rs[r].1[k]? with|some s=>Ik ks s (Gx (Dp ks) key a)|none=>false)=_
 cases d:rs[r].1[k]? with
 |none=>rfl
 |some s =>
  have b:=c s (Uf d);exact lT b.2 b.1 key a
theorem lW{tk:Nat->Nat->Nat}(b:IW rs ks st tk)(a:Mi rs.length st (one rs.length) Y):Ld rs [] Y:=by
 intro r h k;rw[a.1 r h k];have c:∀k,(st r).testBit k=DT rs[r].1 k:=λk=>(b.s r k).trans (XP h k);have d:∀k,(one rs.length r).testBit k=(k==0):=by
  intro k;unfold one;rw[As h]
  cases k with
  |zero=>rfl
  |succ k=>rw[Nat.testBit_succ];simp
 rw[SH c d k];rfl
theorem lX{tk:Nat->Nat->Nat}(b:IW rs ks st tk)(d:∀r (h:r<rs.length),∀s∈rs[r].1,s.1<=3/\(s.1=3->s.2∈ks)){P:Nat->Nat}(e:Ld rs p P)(key:A2)(a:Bool)(f:Mi rs.length st (ER st (tk (Gx (Dp ks) key a)) P rs.length) Y):Ld rs ((key,a)::p) Y:=by
 intro r h k;rw[f.1 r h k];have c:∀k,(st r).testBit k=DT rs[r].1 k:=λk=>(b.s r k).trans (XP h k);have g:∀k,(tk (Gx (Dp ks) key a) r).testBit k=Kg rs[r].1 (key,a) k:=λk=>(b.t _ r k).trans (lV h (d r h) key a k);have i:∀k,(ER st (tk (Gx (Dp ks) key a)) P rs.length r).testBit k=L0 rs[r].1 (key,a) (Jt rs[r].1 p) k:=by
  intro k;unfold ER;rw[As h];exact lR c g (e r h) k
 rw[SH c i k];rfl
theorem XQ{X:Nat->Nat}(h:Ld rs p Y)(c:rs.length<=16)(a:∀r,r<16->X r=Y r):Ld rs p X:=by
 intro r b k;rw[a r (by omega)];exact h r b k
theorem XR(a:Int)(p:List (A2×Bool))(Y:Nat->Nat):∀(rs:List (List (Nat×A2)×Int×Int)) (o:Nat),(∀r (h:r<rs.length),∀k,(Y (o+r)).testBit k=Jt rs[r].1 p.reverse k)->Cw a rs Y o=CC a rs p
 |[],_,_=>rfl
 |x::rs,o,h=>by
  have b:=h 0 (by simp) x.1.length;rw[Cw,CC];have e:(Y o).testBit x.1.length=KZ x.1 p:=b.trans (gW x.1 p);rw[e,XR a p Y rs (o+1) (λr c k=>by
   have:=h (r+1) (by simpa using c) k;rw[show o+1+r=o+(r+1) by omega,this];rfl)]
theorem lY(h:Ld rs p.reverse Y)(a:Int):Cw a rs Y 0=CC a rs p :=
 XR a p Y rs 0 (λr b k=>by rw[Df];exact h r b k)
theorem lZ(h:b∈ks):b∈EC ks s:=by
 unfold EC;split
 ·exact List.mem_append_left _ h
 exact h
theorem SI:∀(ss:List (Nat×A2)) (ks:List A2),b∈ks->b∈ss.foldl EC ks
 |[],_,h=>h
 |_::ss,_,h=>SI ss _ (lZ h)
theorem XS:∀(ss:List (Nat×A2)) (ks:List A2) (s:Nat×A2),s∈ss->s.1=3->s.2∈ss.foldl EC ks
 |x::ss,ks,s,b,h3=>by
  rcases Gi.1 b with rfl|b
  ·refine SI ss _ ?_;unfold EC;by_cases a:s.2∈ks
   ·rw[Aq (λh=>h.2 a)];exact a
   rw[As ⟨h3,a⟩];simp
  exact XS ss _ s b h3
theorem XT:∀(rs:List (List (Nat×A2)×Int×Int)) (ks:List A2),b∈ks->b∈rs.foldl Kj ks
 |[],_,h=>h
 |r::rs,_,h=>XT rs _ (SI r.1 _ h)
theorem XU:∀(rs:List (List (Nat×A2)×Int×Int)) (ks:List A2) (r:List (Nat×A2)×Int×Int),r∈rs->∀s∈r.1,s.1=3->s.2∈rs.foldl Kj ks
 |x::rs,ks,r,a,s,hs,h3=>by
  rcases Gi.1 a with rfl|a
  ·exact XT rs _ (XS r.1 ks s hs h3)
  exact XU rs _ r a s hs h3
theorem XV{i:Nat}(h:i<rs.length)(a:j<rs[i].1.length)(b:rs[i].1[j].1=3):rs[i].1[j].2∈Ec rs :=
 XU rs [] rs[i] (Iz h) _ (Iz a) b
theorem XW:∀(rs:List (List (Nat×A2)×Int×Int)) (ks:List A2),(∀r∈rs,r.1.length<=8)->(rs.foldl Kj ks).length<=ks.length+8*rs.length
 |[],_,_=>by simp
 |r::rs,ks,h=>by
  have b:=XW rs (Kj ks r) (λx a=>h x (GG _ a));have c:(Kj ks r).length<=ks.length+r.1.length:=XG r.1 ks;have d:=h r (by simp);rw[K2,Bq];omega
theorem XX(d:rs.length<=16)(a:∀i (h:i<rs.length),rs[i].1.length<=8):(Ec rs).length<=128:=by
 have h:=XW rs [] (λr c=>by
  obtain⟨i,b,rfl⟩:=Iy c;exact a i b)
 unfold Ec;simp at h;omega
theorem SK:∀(q:List A2) (i:Nat),G6 n q i<0->i<=16->(∀x∈q,BA n x=true)/\i+q.length<=16
 |[],i,_,hi=>⟨λx c=>absurd c (by simp),by simpa using hi⟩
 |x::q,i,h,_=>by
  unfold G6 at h;split at h
  ·next hc =>
   obtain⟨b,d⟩:=SK q (i+1) h (by omega);refine⟨λy a=>?_,by rw[Bq];omega⟩;rcases Gi.1 a with rfl|a
   ·exact hc.1
   exact b y a
  omega
theorem mg(h:Dh l=true):(Fk l).length<=8:=by
 unfold Dh at h;unfold Fk
 cases a:(l==[46])with
 |true=>simp
 |false =>
  rw[a,QV,Ch]at h;have:=By h.2;simpa using this
theorem mh{s:A2}(h:s∈Fk l):s.length<=l.length:=by
 unfold Fk at h;split at h
 ·cases h
 exact L6 47 l s h
theorem mi(h:BA n l=true):(Cf l).1.length<=8/\∀s∈(Cf l).1,s.length<=l.length:=by
 have b:=XA h;have c:=XB b;have a:Ki n [(Lib.cut l [32]).1,(Lib.cut (Lib.cut l [32]).2.1 [32]).1,(Lib.cut (Lib.cut l [32]).2.1 [32]).2.1]=true:=by
  rw[<-b];exact h
 unfold Ki at a;rw[Ch]at a;rw[c];have e:(Lib.cut l [32]).1.length<=l.length:=L6 32 l _ (by rw[b];simp);exact⟨mg a.1,λs d=>AW (mh d) e⟩
theorem mj(h:Di n l=0):(BR l).length<=16/\∀r∈BR l,r.1.length<=8/\∀s∈r.1,s.length<=2000:=by
 have a:BY n l<0:=by
  unfold Di at h;split at h
  ·cases h
  omega
 unfold BY at a;unfold BR;split at a
 ·omega
 next hb =>
 split at a
 ·next h0 =>
  rw[As h0];exact⟨by simp,λr b=>by cases b⟩
 next h0 =>
 rw[Aq h0];obtain⟨d,i⟩:=SK (B8 10 l) 0 a (by omega);refine⟨by rw[De];omega,λr b=>?_⟩;obtain⟨x,c,rfl⟩:=KJ.1 b;obtain⟨f,g⟩:=mi (d x c);refine⟨f,λs e=>?_⟩;have:=g s e;have:=L6 10 l x c;omega
theorem SL(h:Di n l=0):((BR l).map BZ).length<=16/\(∀i (h:i<((BR l).map BZ).length),((BR l).map BZ)[i].1.length<=8)/\∀i (h:i<((BR l).map BZ).length) j (a:j<((BR l).map BZ)[i].1.length),((BR l).map BZ)[i].1[j].1<=3/\((BR l).map BZ)[i].1[j].2.length<=1000000000:=by
 obtain⟨m,a⟩:=mj h;refine⟨by rw[De];exact m,λi b=>?_,λi b j c=>?_⟩
 ·rw[OE];have d:i<(BR l).length:=by rwa[De]at b
  show((BR l)[i].1.map Dj).length<=8;rw[De];exact(a _ (Iz _)).1
 have d:i<(BR l).length:=by rwa[De]at b
 have e:((BR l).map BZ)[i]=BZ (BR l)[i]:=OE _;have f:j<(BR l)[i].1.length:=by
  rw[OE]at c;have:((BR l)[i].1.map Dj).length=(BR l)[i].1.length:=De _;exact this▸c
 have g:((BR l).map BZ)[i].1[j]=Dj ((BR l)[i].1[j]):=by
  have:(((BR l).map BZ)[i].1)[j]?=((BZ (BR l)[i]).1)[j]?:=by rw[e]
  rw[AY c]at this;have k:((BZ (BR l)[i]).1)[j]?=Aj (Dj ((BR l)[i].1[j])):=by
   show((BR l)[i].1.map Dj)[j]?=_;rw[GH,AY f];rfl
  rw[k]at this;injection this
 rw[g];have:=(a _ (Iz d)).2 _ (Iz f);have:=kP (BR l)[i].1[j];exact⟨kO _,by omega⟩
end
section
open Go.RowKit Go.Lib
theorem qe(W:Al)(bs:A2)(cs:List Am)(n:Nat)(b:n=bs.length)(c:n<=9)(a:bs.map B0=cs):Av (W.alloc (Af cs.toArray 5)) W.heap.size (A8 (Aj ⟨W.heap.size,0,Ak⟩) n n) bs/\A1 W (W.alloc (Af cs.toArray 5)):=by
 subst a;subst b;refine⟨⟨⟨by simp,.inr ⟨W.heap.size,bs.length,(bs.map B0).toArray,rfl,AB _,Ay _ _,AB _,by unfold maxLen;omega,by simp,by simp[FJ]⟩⟩,by simp,_,_,_,rfl⟩,AH⟩
theorem Oa(W:Al)(r:Int)(cs:List Am)(n:Nat)(d:n=cs.length)(a:runeCells r=cs):Av (W.alloc (Af cs.toArray 5)) W.heap.size (A8 (Aj ⟨W.heap.size,0,Ak⟩) n n) (Cu r)/\A1 W (W.alloc (Af cs.toArray 5)):=by
 have b:=(encodeRuneZ_length r).2;have c:cs.length=(encodeRuneZ r).length:=by rw[<-a];unfold runeCells;rw[De]
 exact qe W (Cu r) cs n (by unfold Cu;rw[De];omega) (by omega) (by rw[<-RM,a])
theorem Z6(W:Al)(n:Int)(h:0<=n)(i:n<=1114111)(j:¬(55296<=n/\n<=57343)):An Ao 169 #[A7 Ah n] W λe g=>∃v,e=Ag v/\Av g W.heap.size v (Cu n)/\A1 W g:=by
 by_cases a:n<128
 ·have f:runeCells n=[A7 Ai n]:=by unfold runeCells;rw[encodeRuneZ_one h (by omega)];rfl
  have d:=Ap (Oa W n _ 1 rfl f);go_enter func169,ntmps169;go_wp2;go_ret;exact⟨_,rfl,d.1,d.2⟩
 by_cases b:n<2048
 ·have f:runeCells n=[A7 Ai (192+n/64),A7 Ai (128+n%64)]:=by unfold runeCells;rw[encodeRuneZ_two (by omega) (by omega)];rfl
  have d:=Ap (Oa W n _ 2 rfl f);go_enter func169,ntmps169;go_wp2;go_ret;exact⟨_,rfl,d.1,d.2⟩
 by_cases c:n<65536
 ·have f:runeCells n=[A7 Ai (224+n/4096),A7 Ai (128+n/64%64),A7 Ai (128+n%64)]:=by unfold runeCells;rw[encodeRuneZ_three (by omega)];rfl
  have d:=Ap (Oa W n _ 3 rfl f);go_enter func169,ntmps169;go_wp2;go_ret;exact⟨_,rfl,d.1,d.2⟩
 have f:runeCells n=[A7 Ai (240+n/262144),A7 Ai (128+n/4096%64),A7 Ai (128+n/64%64),A7 Ai (128+n%64)]:=by unfold runeCells;rw[encodeRuneZ_four (by omega) (by omega)];rfl
 have d:=Ap (Oa W n _ 4 rfl f);go_enter func169,ntmps169;go_wp2;go_ret;exact⟨_,rfl,d.1,d.2⟩
def I4(n:Nat):Nat:=if n<256 then 0 else if n<65536 then 1 else if n<4294967296 then 2 else 3
theorem rP(n:Nat):I4 n<=3:=by
 unfold I4;split
 ·omega
 split
 ·omega
 split<;>omega
theorem rQ(W:Al)(n:Int):An Ao 66 #[A7 Ah n] W λe f=>e=Ag (A7 Ah ((2^I4 n.toNat:Nat):Int))/\A1 W f:=by
 have h:(n<256/\Hid (I4 n.toNat=0))\/(¬n<256/\n<65536/\Hid (I4 n.toNat=1))\/(¬n<256/\¬n<65536/\n<4294967296/\Hid (I4 n.toNat=2))\/(¬n<256/\¬n<65536/\¬n<4294967296/\Hid (I4 n.toNat=3)):=by
  unfold I4 Hid;by_cases a:n<256
  ·exact .inl ⟨a,As (by omega)⟩
  by_cases b:n<65536
  ·exact .inr (.inl ⟨a,b,by rw[Aq (by omega),As (by omega)]⟩)
  by_cases c:n<4294967296
  ·exact .inr (.inr (.inl ⟨a,b,c,by rw[Aq (by omega),Aq (by omega),As (by omega)]⟩))
  exact .inr (.inr (.inr ⟨a,b,c,by rw[Aq (by omega),Aq (by omega),Aq (by omega)]⟩))
 rcases h with⟨a,d⟩|⟨a,b,d⟩|⟨a,b,c,d⟩|⟨a,b,c,d⟩
 all_goals
  go_enter func66,ntmps66;go_wp2;go_ret;rw[d.out];exact⟨rfl,Bb⟩
theorem TZ{m:Nat}(h:j<=m)(a:m<=3):1<=2^j/\2^j<=8:=by
 rcases(show j=0\/j=1\/j=2\/j=3 by omega)with rfl|rfl|rfl|rfl<;>decide
end
end Go.Proofs.YtoegnhgofkhbnaaGreatDoor
