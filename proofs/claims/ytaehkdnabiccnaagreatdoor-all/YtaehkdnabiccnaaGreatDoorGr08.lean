import Derived.Laws.CopyOwn
import Derived.Test.YtaehkdnabiccnaaGreatDoorGr04
import Derived.Test.YtaehkdnabiccnaaGreatDoorGr07
set_option maxRecDepth 100000
set_option maxHeartbeats 8000000
set_option linter.all false
namespace Go.Proofs.YtaehkdnabiccnaaGreatDoor
open Go.Proofs.Tryz
open _root_ renaming Nat->I,Int->J,Nat->AH,Int->AI,List->AJ,Bool->AK,Except->AS,UInt8->AU
open Go.Value renaming int->C,slice->G,slice->AX,int->Ab,slice->Ac,pointer->Ad,string->Ae,tuple->Af,agg->Ag,bool->Ah,iface->Ai,ownBlock->Ax
open Go.World renaming heap->U,setCell->AB,cell?->AC,setRow->AD,heap->Av,alloc->Az
open _root_.Array renaming size->O,size->Au,setIfInBounds->Ay
open _root_.List renaming length->K,replicate->AV,length->At,toArray->Aw
open Go.IntKind renaming i64->Y,i64->Al,u8->Am
open Go.RowKit renaming Hid->D,Hid->AL
open Go renaming World->X,DataW->AM,TypeId->AN,undef->AO,World->Ap,Value->Aq,Calls->Ar
open Option renaming some->H,some->An,none->Ao
open Go.Obj renaming cells->M,cells->Aj
open Go.Ending renaming returned->Ak
open Go.Proofs.Tryz renaming prog->As
open Go.RowKit.Hid renaming out->AE
open Or renaming inl->AF,inr->AG
open _root_.Bool renaming true->AP,false->AQ
variable{P:Program}{A L N N' b' base bp c cap f fc fn g k label m mn n sc size:I}{q:D0}{fed fv sv u v v' v2 x y:Aq}{V V' V0 W W' W0 w w5:X}{F:I->Prop}{sts sts':AJ ((I->I)×J×J)}{a ba fa ia sa:A4}{mf nf:Lit->Option I}{fin fm fout key:J}{cl:AK}{t ty:AN}{cur xs:AJ Aq}{cs gr tmps:A3}{fr:I×I}{B:AJ J}{p:AJ (A1×AK)}{b:AU}{d dd:A2}{acc bs l ys:A1}{r:AS (J×J) (AM Unit)}{ρ:Operand->Aq}{o:Oper}{ops:Array Oper}{rest:AJ Oper}{Q:Exit->Act->X->Prop}{ds:AJ (AM Unit)}{es:AJ (Lit×AM Unit)}
section
open Go.RowKit Go.Lib
def Jq.of_below(h:A0 W W'):Jq A q sv W W':=⟨h.size,λj a _ _ _ _=>h.block j a⟩
def Jq.trans{W V X:Ap}(h:Jq A q sv W V)(g:Jq A q sv V X):Jq A q sv W X :=
 ⟨CE h.size g.size,λj e a b c d=>(g.block j (CQ e h.size) a b c d).trans<|h.block j e a b c d⟩
def jY(W0:Ap)(A:AH)(q:D0)(sts:AJ<|(AH->AH)×AI×AI)(sv:Aq)(P:AH->AH)(x mn:AH)(W:Ap)(e:Ending)(W':Ap):Prop :=
 ∃(i:AH) (sts':AJ<|(AH->AH)×AI×AI) (sa':A4) (sc':AH) (nf':Lit->Option AH) (mn':AH) (mf':Lit->Option AH),e=Ak (Ab Al i)/\Dv W0 A q sts' (Ac sa' (At sts') sc') nf' mn' mf' W'/\KW q sts' mf'/\mn'<=mn+1/\(∀(j:AH) (x:(AH->AH)×AI×AI),sts[j]?=An x->sts'[j]?=An x)/\At sts'<=At sts+1/\∃t Y,sts'[i]?=An t/\Pj (At q.a) q.st (I1 q.st (q.j x) P<|At q.a) Y/\(∀r,r<16->t.1 r=Y r)/\Jq A q sv W W'/\Po sv (Ac sa' (At sts') sc') W
theorem qyk(P:X)(A:I)(q:D0)(d:AJ<|(I->I)×J×J)(R:A4)(o:I)(nf:Lit->Option I)(v:I)(n:Lit->Option I)(W:X)(h:Dv P A q d (G R (K d) o) nf v n W)(bf:KW q d n)(bh:K d<100000)(bv:v<100000)(f:I)(s:(I->I)×J×J)(hs:d[f]?=H s)(key:A1)(Q:AK)(hb:K key<=maxLen)(x:I)(hx:Js q.i key Q=x)(hxL:x<q.L)(l:Lit)(hl:keyOf As 199 (.agg<|DN f x)=H l)(hi:n l=Ao):Ar As 71 #[A8 A,C Y f,Ag #[Ae ⟨Aw key⟩,Ah Q]] W<|jY P A q d (G R (K d) o) s.1 x v W:=by
 have HA:D<|Dv P A q d (G R (K d) o) nf v n<|Az W<|M #[Ae ⟨Aw key⟩,Ah Q] 146:=h.next Cm
 have HW:D<|A0 W<|Az W<|M #[Ae ⟨Aw key⟩,Ah Q] 146:=Cm;have cL:=YK HA Q hb;rw[hx]at cL;have ay:=T bf;go_enter func71,ntmps71
 go_wp2_with(first
  |(go_at_call 103;refine cL.mono ?_;rintro e c ⟨rfl,B⟩;have N:=T<|HA.next B;have am:=T<|HW.trans<|B.mono HW.size))
 have aa:D<|Dv P A q d (G R (K d) o) nf v n<|Az c<|M #[C Y f,C Y x] 199:=N.next Cm
 have al:D<|(Az c<|M #[C Y f,C Y x] 199).heap[O<|U c]?=H (M (DN f x) 199):=Cj _;have bo:D (∀g,Ax (AX R (K d) o)=H g->g<O (U c)):=λg e=>QE N.b e;have bn:D<|A<O (U c)/\q.d<O (U c)/\q.b<O (U c):=⟨(Cd N.ad),N.a.lt,N.c.lt⟩
 have a5:D<|A0 W<|Az c<|M #[C Y f,C Y x] 199:=am.alloc am.size _;generalize Az c (M #[C Y f,C Y x] 199)=V0 at *;refine Dl (S:=λa=>A6 a A 22 (.map<|H q.b)/\A7 a (O<|U c) (DN f x) 199/\Ed a 199 q.b v n) (⟨Cc aa.ad 22,al,aa.c⟩) B6 λb=>Cb 0 16 (A8 A) b <| Cb 1 17 (A8 A) b <| Cb 2 18 (A9 A 22) b <| Ch 3 19 (.map<|H q.b) Z (λa m=>ke4) b <| Ch 4 20 (.agg<|DN f x) Z (λa m=>BU) b <| Ch 5 21 (Af #[C Y 0,Ah AQ]) Z (λa m=>C3) b <| Cb 6 15 (Af #[C Y 0,Ah AQ]) b <| Cb 7 22 (C Y 0) b <| Cb 8 23 (Ah AQ) b <| Cb 9 8 (C Y 0) b <| Cb 10 9 (Ah AQ) b <| CK ?_;go_simp;have ab:=T<|aa.next (Cu _ _).drew;have av:D<|(World.drew V0).heap[O<|U c]?=H (M (DN f x) 199):=AE al;have a6:=T<|a5.drew;generalize World.drew V0=V at *;obtain⟨g,bq,bi,bs,br,hc⟩:=ab.ai hs;injection bi with r _ e3;subst r;subst e3;have a9:A6 V A 20<|G (Aa g) (K d) o:=Cc ab.ad 20;have bt:(f:J)<(K d:J):=AY<|Dk hs;have HC:D (∀(j:I) (u:Aq),(CD s.1)[j]?=H u->A6 V g (f*18+j) u):=λj u hu=>hc j u (by grind [EA]);go_wp2;have b:(λa:X=>A7 a (O<|U c) (DN f x) 199) {V with drawn:=V.drawn+1}:=AE av;have w:D<|Dv P A q d (G (Aa g) (K d) o) nf v n {V with drawn:=V.drawn+1}:=ab.next (Cu _ _).drew
 have aw:D (∀(j:I) (u:Aq),(CD s.1)[j]?=H u->({V with drawn:=V.drawn+1}:X).cell? ⟨g,f*18+j,Ao⟩=H u):=AE HC;have bp:({V with drawn:=V.drawn+1}:X).cell? ⟨A,20,Ao⟩=H (G (Aa g) (K d) o):=a9;have cA:=ji w.bits.1 w.bits.2 w.m.1 w.auR w.auT (w.j f s hs).2 hxL;refine Ei (S:=λa=>A7 a (O<|U c) (DN f x) 199) B6 ?_;have an:D<|A0 W {V with drawn:=V.drawn+1}:=a6.drew;generalize({V with drawn:=V.drawn+1}:X)=V1 at *;refine Cb 0 26 (A8 A) b <| Cb 1 27 (A8 A) b <| Cb 2 28 (A8 A) b <| Cb 3 29 (A8 A) b <| Cb 4 30 (A9 A 20) b <| Cb 6 32 (C Y f) b <| Cb 10 36 (A9 (O<|U c) 1) b <| Ch 11 37 (C Y x) Z (λa m=>by have z1:A6 a (O<|U c) 1<|C Y x:=Cc m 1;go_simp) b ?_;refine CH 5 λz k=>?_;go_simp;refine k.out _ _ b λ_=>?_;refine CH 7 λz k=>?_;go_simp;refine k.out _ _ b λ_=>?_;refine CH 8 λz k=>?_;go_simp;refine k.out _ _ b λ_=>?_;refine CH 9 λz k=>?_;refine Ks B6 ?_;refine YL Z Z aw underlying183 Z (FW s.1) ?_;refine k.out _ _ b λ_=>?_;refine CH 12 λz k=>?_;go_simp;refine cA.mono ?_;rintro e w4 ⟨⟨ap,rfl,hY⟩,B⟩;simp only[];have HY:=T hY;have ar:=T<|w.next B;have ae:(λa:X=>A7 a (O<|U c) (DN f x) 199) w4:=(B.block _<|Cd b).trans b;refine k.out _ _ ae λ_=>?_;have ao:D<|Jq A q (G (Aa g) (K d) o) W w4:=Jq.of_below<|an.trans<|B.mono an.size;refine CH 13 λz k=>?_;go_simp;refine(YI ar HY.2.2 bh).mono ?_;rintro e w6 ⟨i,ai,bl,bm,bk,rfl,hF,bb,ba,bg,be,aj,ht,bj⟩;simp only[];have au:=T ba;have af:(λa:X=>A7 a (O<|U c) (DN f x) 199) w6:=(hF.block _ (Cd ae) (λe=>by grind [D]) (by grind [D]) (by grind [D])<|by grind [D]).trans ae;have a0:=T bg;have ad:D (ai[i]?=H aj/\∀ah,ah<16->aj.1 ah=ap ah):=⟨ht,bj⟩
 refine k.out _ _ af λ_=>?_;have az:=T<|bb.mono ao.size;have a7:=T<|ao.trans hF;refine Cb 14 8 (C Y i) af <| CK ?_;go_simp;go_wp2;have ac:=T<|au.next (Cu _ _).drew;have bu:=Dk ad.1;obtain⟨w7,bw,bd,t⟩:=Ys ac.c Sl underlying180 E hl i E;obtain⟨F,r,e2⟩:∃F:Lit->Option I,F l=H i/\∀y,y≠l->F y=n y:=by have:=Classical.propDecidable;exact⟨λy=>if y=l then H i else n y,Cp Z,λy hh=>Cl hh⟩
 have ak:=T<|ac.a3 t<|bd F r e2;have ax:D<|KW q ai F:=by
  intro f2 x2 l2 k2 aq ag;by_cases e:l2=l
  .subst e;have e3:=Fl<|r.symm.trans ag;have e4:=Yo.inj aq hl;grind [DN]
  rw[e2 l2 e]at ag;obtain⟨s2,t2,Y2,a1,a2,a3,a4⟩:=ay.out f2 x2 l2 k2 aq ag;grind
 have p:(λa:X=>A6 a A 22 (.map<|H q.b)/\A7 a (O<|U c) (DN f x) 199) {w6 with drawn:=w6.drawn+1}:=⟨Cc ac.ad 22,af⟩
 have bc:(λa:X=>A6 a A 22 (.map<|H q.b)/\A7 a (O<|U c) (DN f x) 199) w7:=⟨Cc ak.ad 22,(t.block (O<|U c) (Cd p.2)<|by grind [D]).trans p.2⟩
 have a8:=T (a7.trans ⟨t.size,λj hj _ _ _ hn=>t.block j hj<|by simpa using hn⟩);refine Ei (S:=λa=>A6 a A 22 (.map<|H q.b)/\A7 a (O<|U c) (DN f x) 199) B6 ?_;refine Cb 0 40 (A8 A) p <| Cb 1 41 (A8 A) p <| Cb 2 42 (A9 A 22) p <| Ch 3 43 (.map<|H q.b) Z (λa m=>ke4) p <| Ch 4 44 (.agg<|DN f x) Z (λa m=>BX) p <| Cb 5 45 (C Y i) p <| CH 6 λz k=>?_;go_simp;refine k.out _ _ bc λ_=>?_;refine CK ?_;go_simp;go_wp2;go_ret;exact⟨i,ai,bl,bm,bk,v+1,F,Z,ak,ax,Cr _,a0,be,aj,ap,ad.1,HY,ad.2,a8,az⟩
theorem q3K(h:Dv W0 A q sts (G sa (K sts) sc) nf mn mf W)(c:KW q sts mf)(w:K sts<100000)(v:mn<100000){s:(I->I)×J×J}(d:sts[f]?=H s){key:A1}{ix:AK}(hb:K key<=maxLen){x:I}(hx:Js q.i key ix=x)(hxL:x<q.L)(r:q.L<=100000):Ar As 71 #[A8 A,C Y f,Ag #[Ae ⟨Aw key⟩,Ah ix]] W<|jY W0 A q sts (G sa (K sts) sc) s.1 x mn W:=by
 have u:=Dk d;obtain⟨l,b⟩:=jV f x E E;rcases hi:mf l with _|i
 .grind [qyk]
 refine(jX h hb hx b hi).mono ?_;rintro e p ⟨rfl,a⟩;obtain⟨y,t,g,j,k,m,n⟩:=c f x l i b hi;have e:=Fl<|d.symm.trans j;subst e;exact⟨i,sts,sa,sc,nf,mn,mf,rfl,h.next a,c,OK _,λ_ _ o=>o,OK _,t,g,k,m,n,Jq.of_below a,AF rfl⟩
structure Rv where
 a:AJ (AJ (AH×A1)×AI×AI)
 c:AI
 m:AH->AH->AK
 d:AH
 key:AI
abbrev Cy:=AH×AH×AH×AH
def Jv(f:A2->Cy->Option (AM Unit)×Cy)(ds:AJ<|AM Unit)(R:Cy):AJ (AM Unit)×Cy :=
 ds.foldl (λa d=>(a.1++(f d a.2).1.toList,(f d a.2).2)) ([],R)
def Jw(f:A1->A2->Cy->Option (AM Unit)×Cy)(es:AJ<|Lit×AM Unit)(R:Cy):AJ (Lit×AM Unit)×Cy :=
 es.foldl (λa e=>(a.1++((f (D9 e.1) e.2 a.2).1.map λd=>(e.1,d)).toList,(f (D9 e.1) e.2 a.2).2)) ([],R)
def Jc(rw:AJ (A1×AK)->A2->Cy->Option (AM Unit)×Cy)(p:AJ<|A1×AK)(d:A2)(R:Cy):AM Unit×Cy :=
 match d with
 |.agg ds=>(.agg (Jv (rw (([],AP)::p)) ds R).1,(Jv (rw (([],AP)::p)) ds R).2)
 |.map es=>(.map (Jw (λkey=>rw ((key,AQ)::p)) es R).1,(Jw (λkey=>rw ((key,AQ)::p)) es R).2)
 |d=>(d,R)
def D6(c:Rv):AH->AJ (A1×AK)->A2->Cy->Option (AM Unit)×Cy
 |0,_,_,R=>(Ao,R)
 |k+1,p,d,R =>
  if c.m (Dz c.c c.a p.reverse).1.toNat c.d=AP then(An (Jc (D6 c k) p d (R.1+1,R.2)).1,(Jc (D6 c k) p d (R.1+1,R.2)).2)
  else if(Dz c.c c.a p.reverse).2=2 then(An<|.lit<|.string [42,42,42],(R.1,R.2.1,R.2.2.1+1,R.2.2.2))
  else if(Dz c.c c.a p.reverse).2=3 then(An<|.lit<|.string<|JX c.key (Dz c.c c.a p.reverse).1.toNat<|Du (k+1) d,(R.1,R.2.1,R.2.2.1,R.2.2.2+1))
  else(Ao,(R.1,R.2.1+1,R.2.2.1,R.2.2.2))
def D3:AH->A2->AH
 |0,_=>0
 |k+1,d=>match d with
  |.agg ds=>2+(ds.map λd=>1+D3 k d).sum
  |.map es=>1+(es.map λe=>2+D3 k e.2).sum
  |_=>1
structure Rc where
 v:Rv
 a:Ap
 A:AH
 q:D0
 B:AH
 O:A3
 n:AH
 G:Ap
 b:Option AH
def EK(c:Rc)(R:Cy):A3:=c.O++#[Ab Al c.v.d,Ab Al c.v.key,A8 c.A,Ab Al R.1,Ab Al R.2.1,Ab Al R.2.2.1,Ab Al R.2.2.2]
structure IY(c:Rc):Prop where
 b:c.q.a=c.v.a
 k:c.q.c=c.v.c
 e:c.q.i=FL (FY c.v.a)
 o:c.q.L=2+At (FY c.v.a)
 n:LB c.v.a (FY c.v.a) c.q.st c.q.j
 f:At c.v.a<=16
 h8:∀i (h:i<At c.v.a),c.v.a[i].1.length<=8
 hk:∀i (h:i<At c.v.a) j (h2:j<c.v.a[i].1.length),c.v.a[i].1[j].1<=3/\c.v.a[i].1[j].2.length<=1000000000
 a:Ny c.O c.n c.v.m
 n6:c.n<=6
 d:c.v.d<c.n
 g:∀p,∃l:AH,(Dz c.v.c c.v.a p).1=l/\l<c.n
 hB:Au (Av c.a)<=c.B
 hG:Au (Av c.G)<=c.B
 tab:c.a.cell? ⟨8,15,Ao⟩=An (Ab Am 4)
structure Dx(W V:Ap):Prop where
 size:Au (Av W)<=Au (Av V)
 ad:∀(k:AH) (cs:A3) (t:AN) (fr:AH×AH),W.heap[k]?=An (Aj cs t fr)->t≠187->t≠203->t≠264->V.heap[k]?=An (Aj cs t fr)
theorem Dx.refl(W:X):Dx W W:=⟨Cr _,λ_ _ _ _ h _ _ _=>h⟩
def Dx.trans{W V X:Ap}(h:Dx W V)(g:Dx V X):Dx W X:=⟨CE h.size g.size,λk cs t fr a b c d=>g.ad k cs t fr (h.ad k cs t fr a b c d) b c d⟩
def Dx.of_below(h:A0 W V):Dx W V:=⟨h.size,λk _ _ _ a _ _ _=>Ca (Co h k<|Cd a) a⟩
theorem Dx.aq{R:Option I}(e:O (U W)<=O (U V))(hb:∀k,k<O (U W)->H k≠R->V.heap[k]?=W.heap[k]?)(f:∀k,R=H k->∀cs t fr,W.heap[k]?=H (M cs t fr)->t=187\/t=203\/t=264):Dx W V:=by refine⟨e,λk cs t fr a b c d=>?_⟩;grind
def DQ.kept{G:I->Prop}(h:DQ V t size F v n xs)(m:∀k,F k->G k)(q:Dx V V')(i:t≠187)(j:t≠203)(l:t≠264):DQ V' t size G v n xs:=by
 obtain⟨b,a⟩:=h;refine⟨b,?_⟩;rcases a with a|⟨g,d,f,e,o,p,c⟩
 .exact AF a
 exact AG ⟨g,d,f,e,m g o,q.ad _ _ _ _ p i j l,c⟩
def CA.kept{G:I->Prop}(a:∀k,F k->G k)(b:Dx V V'):∀{k:I} {v:Aq} {d:A2},CA k V F v d->CA k V' G v d
 |0,_,_,h=>h
 |k+1,v,d,h=>by
  unfold CA at h ⊢;split at h
  .exact h
  .exact h
  .exact h
  .exact h
  .obtain⟨u,e,c⟩:=h;exact⟨u,e,c.kept a b B8 B8 B8⟩
  .obtain⟨u,j,e,c,g⟩:=h;exact⟨u,j,e,c.kept a b B8 B8 B8,λi x d f q=>CA.kept a b<|g i x d f q⟩
  .obtain⟨u,j,e,c,g⟩:=h;refine⟨u,j,e,c.kept a b B8 B8 B8,λi key d f=>?_⟩;obtain⟨l,x,m,n,o,p⟩:=g i key d f;exact⟨l,x,m,n,o,CA.kept a b p⟩
  exact h
structure DT(c:Rc)(R:Cy)(N:AH)(sts:AJ ((AH->AH)×AI×AI))(V:Ap):Prop where
 h:V.heap[c.B]?=An (Aj (EK c R) 264)
 j:∃sa sc nf mn mf,Dv c.a c.A c.q sts (Ac sa (At sts) sc) nf mn mf V/\KW c.q sts mf/\mn<=N/\At sts<=N+1/\(Ax (AX sa (At sts) sc)=c.b\/∃g,Ax (AX sa (At sts) sc)=An g/\Au (Av c.G)<=g)
 fr:Au (Av c.G)<=Au (Av V)/\∀k,k<Au (Av c.G)->k≠c.A->k≠c.q.d->k≠c.q.b->An k≠c.b->V.heap[k]?=c.G.heap[k]?
 m:R.1+R.2.1+R.2.2.1+R.2.2.2<=N
def DT.ai{c:Rc}{R:Cy}{M:I}(h:DT c R N sts V)(e:N<=M):DT c R M sts V:=by obtain⟨j,k,i,g,f,a,b,l,m,d⟩:=h.j;exact⟨h.h,⟨j,k,i,g,f,a,b,E,E,d⟩,h.fr,CE h.m e⟩
def DT.aq{c:Rc}{R:Cy}(h:DT c R N sts V)(hb:A0 V V'):DT c R N sts V':=by obtain⟨m,n,l,j,i,f,g⟩:=h.j;exact⟨Ca (Co hb _<|Cd h.h) h.h,⟨m,n,l,j,i,f.next hb,g⟩,⟨CE h.fr.1 hb.size,λk a b c d e=>Ca (Co hb k<|CQ a h.fr.1)<|h.fr.2 k a b c d e⟩,h.m⟩
def DT.ac{c:Rc}{R:Cy}(h:DT c R N sts V):Below (O<|U c.a) c.a V:=by obtain⟨g,i,f,e,d,a,b⟩:=h.j;exact a.ac
theorem Mi{kt:AN}{f:Lit->Option I}(h:Ed W kt m n f)(e:W.heap[m]?=H (M cs t fr)):False:=by obtain⟨a,⟨c,b,d,_⟩,_⟩:=h;grind
theorem UY{e:AN}(b:W.ownsRow base e size v n xs)(h:Ax v=H g)(i:W.heap[g]?=H (M cs t fr)):t=e:=by
 rcases b.2 with⟨a,_⟩|⟨f,c,d,a,_,j,_⟩
 .rw[a]at h;cases h
 rw[a]at h;injection h with h;grind
theorem q8u(h:Dv W0 A q sts sv nf mn mf W)(f:Jq A q sv W V):Dx W V:=by
 refine⟨f.size,λk cs t fr a b c d=>?_⟩;refine Ca (f.block k (Cd a) (λe=>?_) (λe=>?_) (λe=>?_) λe=>?_) a
 .exact c<|UY h.b e.symm a
 .subst e;have:=h.ad;grind
 .subst e;exact Mi h.a a
 subst e;exact Mi h.c a
theorem lz{c:Rc}(h:IY c){R:Cy}:(EK c R).size=44:=by simp[EK,h.a.size]
theorem Dv.a2{B:I}(h:Dv W0 A q sts sv nf mn mf W)(w:O (U W0)<=B)(a:W.grownBy W'<|H B)(b:W.heap[B]?=H (M cs t fr))(u:t≠187)(k:t≠203)(v:t≠183):Dv W0 A q sts sv nf mn mf W':=by
 obtain⟨f,d,s⟩:=h.k;have l:A≠B:=by rintro rfl;have:=h.ad;grind
 have m:q.g≠B:=B9;have n:q.f≠B:=λe=>Mi h.d<|e▸b;have o:q.d≠B:=λe=>Mi h.a<|e▸b;have p:q.b≠B:=λe=>Mi h.c<|e▸b;have r:∀g,Ax sv=H g->g≠B:=λg e j=>k<|UY h.b e<|j▸b;exact{h with
  ad:=Ca (a.block A (Cd h.ad) kfg) h.ad
  ac:=⟨Ca a.os h.ac.os,Ca a.tape h.ac.tape,Ca a.output h.ac.output,CE h.ac.size a.size,λi c=>Ca (a.block i (CQ c h.ac.size) B7)<|Co h.ac i c⟩
  d:=h.d.kept a (by simpa using n)
  k:=⟨f,Ca (a.block _ (Cd d) keA) d,s⟩
  b:=QF h.b λg e=>a.block g (QE h.b e) (by simpa using r g e)
  a:=h.a.kept a kep
  c:=h.c.kept a<|by simpa using p}
def quJ(W:X)(B j:I)(v:Aq):W.grownBy (AB W ⟨B,j,Ao⟩ v) (H B) :=
 ⟨rfl,rfl,rfl,Bd,λk _ a=>CY _ _ _ _ Bl⟩
theorem DT.ad{c:Rc}{R R':Cy}(h:DT c R N sts V)(ok:IY c)(j:I)(x:I)(hx:Ay (EK c R) j (C Y x)=EK c R')(n:R'.1+R'.2.1+R'.2.2.1+R'.2.2.2<=N+1):DT c R' (N+1) sts (AB V ⟨c.B,j,Ao⟩<|C Y x)/\Dx V (AB V ⟨c.B,j,Ao⟩<|C Y x):=by
 obtain⟨r,s,q,p,o,g,i,u,v,l⟩:=h.j;have f:=quJ V c.B j<|C Y x;refine⟨⟨?_,⟨r,s,q,p,o,g.a2 ok.hB f h.h B8 B8 B8,i,E,E,l⟩,⟨CE h.fr.1 f.size,λk a b c d e=>Ca (f.block k (CQ a h.fr.1) λe=>by have:=ok.hG;grind)<|h.fr.2 k a b c d e⟩,n⟩,Dx.aq (R:=H c.B) f.size f.block λk e cs t fr m=>?_⟩
 .rw[DX V _ _ _ _ _ h.h,hx]
 injection e with e;subst e;rw[h.h]at m;grind
def IZ(c:Rc)(sts:AJ<|(AH->AH)×AI×AI)(f:AH)(p:AJ<|A1×AK):Prop:=∃s,sts[f]?=An s/\Oj c.v.a p s.1
def GQ(sts sts':AJ<|(AH->AH)×AI×AI):Prop:=∀(j:AH) (x:(AH->AH)×AI×AI),sts[j]?=An x->sts'[j]?=An x
def IZ.ac{c:Rc}(h:IZ c sts f p)(d:GQ sts sts'):IZ c sts' f p:=by obtain⟨s,a,b⟩:=h;exact⟨s,d _ _ a,b⟩
def GQ.trans{a b d:AJ<|(I->I)×J×J}(h:GQ a b)(g:GQ b d):GQ a d:=λj x c=>g j x<|h j x c
theorem GQ.refl(a:AJ<|(I->I)×J×J):GQ a a:=λ_ _ h=>h
def q7r(c:Rc)(R:Cy)(N:AH)(sts:AJ<|(AH->AH)×AI×AI)(p:AJ<|A1×AK)(V:Ap)(e:Ending)(V':Ap):Prop :=
 ∃(f':AH) (sts':AJ<|(AH->AH)×AI×AI),e=Ak (Ab Al f')/\DT c R (N+1) sts' V'/\Dx V V'/\GQ sts sts'/\IZ c sts' f' p
theorem DT.next{c:Rc}{R:Cy}(h:DT c R N sts V)(ok:IY c)(hN:N<90000)(W:IZ c sts f p)(key:A1)(m:AK)(hb:K key<=maxLen):Ar As 71 #[Ad<|H ⟨c.A,0,Ao⟩,C Y f,Ag #[Ae ⟨Aw key⟩,Ah m]] V<|q7r c R N sts ((key,m)::p) V:=by
 obtain⟨sa,sc,nf,mn,mf,i,y,n,h4,P⟩:=h.j;obtain⟨s,z,F⟩:=W;have ah:=Z3 ok.f ok.h8;have hx:Js c.q.i key m<c.q.L:=by rw[ok.e,ok.o];exact l5
 refine Ce (q3K i y E E z hb Z hx<|by rw[ok.o];omega) ?_;rintro e w ⟨x,ae,ac,ad,aa,t,r,rfl,k1,k2,k3,k4,k5,af,ag,k6,v,k8,hF,l⟩;have Q:=q8u i hF;have S:w.heap[c.B]?=H (M (EK c R) 264):=by
  refine Ca (hF.block c.B (Cd h.h) (λe=>?_) (λe=>?_) (λe=>?_) λe=>?_) h.h
  .exact absurd (UY i.b e.symm h.h) B8
  .have:=i.ad;rw[<-e,h.h]at this;grind
  .exact Mi i.a<|e▸h.h
  exact Mi i.c<|e▸h.h
 refine⟨x,ae,Z,⟨S,⟨ac,ad,aa,t,r,k1,k2,E,E,?_⟩,⟨CE h.fr.1 hF.size,λk a b c d e=>Ca (hF.block k (CQ a h.fr.1) (λe2=>?_) b c d)<|h.fr.2 k a b c d e⟩,VG h.m⟩,Q,k4,af,k6,?_⟩
 .rcases l with l|⟨g,l,hg⟩
  .rw[l];exact P
  exact AG ⟨g,l,CE h.fr.1 hg⟩
 .grind
 rw[ok.e,ok.b]at v;refine UW (l7 ok.n (λab u s hs=>?_) F v) ok.f k8;obtain⟨j,o,rfl⟩:=QZ hs;exact⟨(ok.hk ab u j o).1,λn=>Z2 u o n⟩
theorem DT.a0{c:Rc}{R:Cy}(h:DT c R N sts V)(ok:IY c)(i:IZ c sts f p):Ar As 72 #[A8 c.A,C Y f] V λe g=>e=Ak (Af #[C Y (Dz c.v.c c.v.a p.reverse).1,C Y (Dz c.v.c c.v.a p.reverse).2])/\A0 V g:=by obtain⟨r,t,q,o,n,a,k,l,m,_⟩:=h.j;obtain⟨s,b,d⟩:=i;have j:=(a.j f s b).1;rw[<-VN p]at d;rw[ok.k,ok.b,l9 d]at j;refine Ce (jT a b) ?_;grind
def Fs(fm:AI)(k:AH)(d:A2):A1:=if fm=1 then Fe k d else if fm=2 then Du k d else Ip k d
def q06(key:J)(a:I)(l:A1):K (JX key a l)=16:=zN<|UE _ _<|QG
theorem Sy(x:I):K (Gs x)<=9/\K (KL x)<=9/\K (KN x)<=9/\K (EP x)<=9/\K (Ha x)<=9:=by grind [Gs,KL,KN,EP,Ha,Im]
theorem qx9(z:J):K (Km z)<=9:=by
 unfold Km;split
 .grind [Hy,Im]
 exact(Sy _).2.2.2.2
theorem q6M(z:J):K (Kn z)<=9:=by grind [Kn,O4]
theorem UZ{α:Type}(f:α->A1)(m:α->I):∀(l:AJ α),(∀a,a∈l->K (f a)<=m a)->K (l.flatMap f)<=(l.map m).sum
 |[],_=>Cr _
 |a::l,h=>by have d:=h a<|Mn ..;have e:=UZ f m l λb c=>h b<|LM _ c;grind
def V8{hB hL hM hT:Nat->List UInt8}{nt:Bool->List UInt8}{no:List UInt8}{nm:Int->List UInt8}(h:∀x,(hB x).length<=9/\(hL x).length<=9/\(hM x).length<=9/\(hT x).length<=9)(a:∀b,(nt b).length<=9)(f:no.length<=9)(c:∀z,(nm z).length<=9):∀(k:Nat) (d:DataW Unit),(Mb hB hL hM hT nt no nm k d).length<=DJ k d
 |0,_=>Cr _
 |k+1,d=>by
  unfold Mb;split
  .show _<=200;omega
  .show _<=200;have:=a ‹Bool›;omega
  .show _<=200;have:=c ‹Int›;omega
  .next l=>show _<=200+6*l.length;have:=h l.length;rw[Dj];omega
  .next l=>show _<=200+6*l.length;have:=h l.length;rw[Dj];omega
  .next ds =>
   show _<=200+(ds.map λd=>30+DJ k d).sum;have g:=h ds.length;have i:=UZ (Mb hB hL hM hT nt no nm k) (λd=>30+DJ k d) ds λd _=>CE (V8 h a f c k d)<|Nat.le_add_left _ _;rw[Dj];omega
  .next es =>
   show _<=200+(es.map λe=>100+6*(D9 e.1).length+DJ k e.2).sum;have g:=h es.length;have i:=UZ (λe:Lit×DataW Unit=>(hT (D9 e.1).length++D9 e.1)++Mb hB hL hM hT nt no nm k e.2) (λe=>100+6*(D9 e.1).length+DJ k e.2) es (λe _=>by have j:=V8 h a f c k e.2;have m:=h (D9 e.1).length;rw[Dj,Dj];omega);rw[Dj];omega
  exact Ex _
theorem Vb(k:I)(d:A2):K (Du k d)<=DJ k d :=
 V8 (λx=>⟨O4,O4,O4,O4⟩) (λb=>by grind [i7,O4]) (O4) q6M k d
theorem lB(k:I)(d:A2):K (Ip k d)<=DJ k d :=
 V8 (λx=>⟨(Sy x).1,(Sy x).2.1,(Sy x).2.2.1,(Sy x).2.2.2.1⟩) (λb=>by grind [i9]) B8 qx9 k d
theorem lC{α:Type}(T:α->A1)(m:α->I)(l:AJ α)(h:∀a,a∈l->K (T a)+1<=m a):K (Dm T l)<=(l.map m).sum:=by
 obtain _|⟨a,l⟩:=l
 .exact Cr _
 unfold Dm;have c:=h a<|Mn ..;have d:=UZ (λe=>44::T e) m l λb f=>B9;grind
def Vc:∀(k:I) (d:A2),30*D3 k d<=DJ k d
 |0,_=>Cr _
 |k+1,d=>by
  unfold D3 DJ;split
  .next ds =>
   have b:30*(ds.map λd=>1+D3 k d).sum<=(ds.map λd=>30+DJ k d).sum:=by
    induction ds with
    |nil=>exact Cr _
    |cons a l c =>
     have:=Vc k a;rw[I8,SY,I8,SY];omega
   simp only[];omega
  .next es =>
   have b:30*(es.map λe=>2+D3 k e.2).sum<=(es.map λe=>100+6*K (D9 e.1)+DJ k e.2).sum:=by
    induction es with
    |nil=>exact Cr _
    |cons a l c =>
     have:=Vc k a.2;rw[I8,SY,I8,SY];omega
   simp only[];omega
  split<;>omega
def lD(k:I)(d:A2):200<=DJ (k+1) d:=by unfold DJ;split<;>omega
theorem q72(k:I)(f:A2->Cy->Option (AM Unit)×Cy)(g:∀d R b,(f d R).1=H b->DJ k b<=2*DJ k d)(ds:AJ<|AM Unit):∀(a:AJ (AM Unit)×Cy),Hb k (ds.foldl (λa d=>(a.1++(f d a.2).1.toList,(f d a.2).2)) a).1<=Hb k a.1+2*Hb k ds:=by
 induction ds with
 |nil=>grind
 |cons d ds c =>
  intro a;rw[W6];refine CE (c _) ?_;have e:Hb k (d::ds)=30+DJ k d+Hb k ds:=by unfold Hb;grind
  rw[e];dsimp only;cases h:(f d a.2).1<;>grind [Yc]
theorem q74(k:I)(f:A1->A2->Cy->Option (AM Unit)×Cy)(i:∀l d R b,(f l d R).1=H b->DJ k b<=2*DJ k d)(es:AJ<|Lit×AM Unit):∀(a:AJ (Lit×AM Unit)×Cy),GL k (es.foldl (λa e=>(a.1++((f (D9 e.1) e.2 a.2).1.map λd=>(e.1,d)).toList,(f (D9 e.1) e.2 a.2).2)) a).1<=GL k a.1+2*GL k es:=by
 induction es with
 |nil=>grind
 |cons d c g =>
  intro a;rw[W6];refine CE (g _) ?_;have e:GL k (d::c)=100+6*K (D9 d.1)+DJ k d.2+GL k c:=by unfold GL;grind
  rw[e];dsimp only;cases h:(f (D9 d.1) d.2 a.2).1<;>grind [GL]
theorem Z7(c:Rv):∀(k:I) (p:AJ<|A1×AK) (d:A2) (R:Cy) (a:A2),(D6 c k p d R).1=H a->DJ k a<=2*DJ k d
 |0,_,_,_,_,h=>Bs
 |k+1,p,d,R,a,h=>by
  have f:=lD k d;unfold D6 at h;split at h
  .injection h with h;subst h;unfold Jc;split
   .next ds =>
    have b:=q72 k (D6 c k (([],AP)::p)) (λd R a=>Z7 c k _ d R a) ds ([],(R.1+1,R.2));have e:Hb k ([]:AJ<|AM Unit)=0:=rfl;show 200+Hb k (Jv _ ds _).1<=2*(200+Hb k ds);grind [Jv]
   .next es =>
    have b:=q74 k (λkey=>D6 c k ((key,AQ)::p)) (λl d R a=>Z7 c k _ d R a) es ([],(R.1+1,R.2));have e:GL k ([]:AJ<|Lit×AM Unit)=0:=rfl;show 200+GL k (Jw _ es _).1<=2*(200+GL k es);grind [Jw]
   grind
  split at h
  .injection h with h;subst h;show 200+6*3<=_;omega
  split at h
  .injection h with h;subst h;have:=q06 c.key (Dz c.c c.a p.reverse).1.toNat<|Du (k+1) d;show 200+6*K (JX _ _ _)<=_;omega
  cases h
theorem Z8(c:Rv)(k:I)(d:A2)(R:Cy):DJ k ((D6 c k [] d R).1.getD .nil)<=2*DJ k d+200:=by
 cases h:(D6 c k [] d R).1 with
 |none=>cases k with
  |zero=>exact Ex _
  |succ k=>show 200<=_;omega
 |some a =>
  have:=Z7 c k [] d R a h;grind
theorem lH(p q:Addr):CallsD As 79 #[Ad<|H p,Ad<|H q] .returning w λe c d=>e=Ak (Af #[])/\c=.returning/\d=w:=by refine SZ func79 rfl λa cs b=>?_;simp only[ntmps79,K9,FN,J2,Nat.reduceAdd,Nat.reduceSub,Mp,Mq,Ms,Mr,Ka,Kw];apply wpS_seq;apply T6;simp[wpOpsS,go_sem,recoverD,b,Exit.thenS];refine T8 ?_;go_wp2;cases a;simp_all[bodyPostS,results,results79]
theorem lI{p q:I}(a b:J){x y:J}{w:Ap}(c:A6 w p 0<|C Y x)(d:A6 w q 0<|C Y y)(j:w.frozen? ⟨p,0,Ao⟩=AQ)(l:w.frozen? ⟨q,0,Ao⟩=AQ)(n:p≠q):CallsD As 79 #[A8 p,A8 q] (.panicking [{v:=OR a b,recovered:=AQ}]) w λe u g=>e=Ak (Af #[])/\u=.panicking [{v:=OR a b,recovered:=AP}] /\
   (A6 g p 0 (C Y a)/\A6 g q 0 (C Y b)/\∀B,B<=p->B<=q->B<=O (U w)->Below B w g):=by
 refine SZ func79 rfl λN cs o=>?_;simp only[ntmps79,K9,FN,J2,Nat.reduceAdd,Nat.reduceSub,Mp,Mq,Ms,Mr,Ka,Kw];apply wpS_seq;apply T6;simp[wpOpsS,go_sem,recoverD,o,Exit.thenS,OR];refine T8 ?_;have aa:∀w:Ap,(Instr.typeAssert (Ai 163<|Ag #[C Y a,C Y b]) 20 163 AP).run As w=.ok (Af #[Ag #[C Y a,C Y b],Ah AP]) w:=λw=>B6;go_wp2;have S:O (U w)≠p/\O (U w)≠q:=⟨by have h:p<O (U w):=Fk c;omega,by have h:q<O (U w):=Fk d;omega⟩
 have z:(Az w<|M #[C Y a,C Y b] 163).cell? ⟨p,0,Ao⟩=H (C Y x):=Ca (Iy w _ _ kfm) c;have A:(Az w<|M #[C Y a,C Y b] 163).cell? ⟨q,0,Ao⟩=H (C Y y):=Ca (Iy w _ _<|by rw[d];rfl) d;have f:A0 w<|Az w<|M #[C Y a,C Y b] 163:=Cm;have P:=Ca (f.frozen (p:=⟨p,0,Ao⟩)<|Fk c) j;have Q:=Ca (f.frozen (p:=⟨q,0,Ao⟩)<|Fk d) l;have F:(Az w<|M #[C Y a,C Y b] 163).cell? ⟨O<|U w,0,Ao⟩=H (C Y a):=Cc (Cj _) 0;have L:(Az w<|M #[C Y a,C Y b] 163).cell? ⟨O<|U w,1,Ao⟩=H (C Y b):=Cc (Cj _) 1;have i:=T f;have k:q≠p:=λe=>n e.symm;generalize Az w (M #[C Y a,C Y b] 163)=V at *
 go_region
 have r:(AB (AB V ⟨p,0,Ao⟩<|C Y a) ⟨q,0,Ao⟩<|C Y b).drew.cell? ⟨p,0,Ao⟩=H (C Y a):=by show(AB (AB V ⟨p,0,Ao⟩<|C Y a) ⟨q,0,Ao⟩<|C Y b).cell? ⟨p,0,Ao⟩=_;grind [World.cell?_of_block,heap_setCell_other,World.cell?_setCell_same']
 have s:(AB (AB V ⟨p,0,Ao⟩<|C Y a) ⟨q,0,Ao⟩<|C Y b).drew.cell? ⟨q,0,Ao⟩=H (C Y b):=by show(AB (AB V ⟨p,0,Ao⟩<|C Y a) ⟨q,0,Ao⟩<|C Y b).cell? ⟨q,0,Ao⟩=_;grind [World.cell?_setCell_same',World.cell?_of_block,heap_setCell_other]
 have t:∀B,B<=p->B<=q->B<=O (U w)->Below B w (AB (AB V ⟨p,0,Ao⟩<|C Y a) ⟨q,0,Ao⟩<|C Y b).drew:=λB h R m =>
  Cs (CG i m) ⟨rfl,rfl,rfl,Bv,λab W=>Ca (CY _ _ _ _ B7)<|CY V _ _ _ B7⟩
 generalize(AB (AB V ⟨p,0,Ao⟩<|C Y a) ⟨q,0,Ao⟩<|C Y b).drew=X at *;exact⟨Z,_,Z,_,Wi Z _ _ _,Z,Z,r,s,t⟩
def Cn.mono{b:I}(h:Cn W b v bs)(hb:b'<=b):Cn W b' v bs:=by
 obtain⟨⟨f,a⟩,k,i⟩:=h;refine⟨⟨f,?_⟩,E,i⟩;rcases a with a|⟨g,c,d,e,l,j⟩
 .exact AF a
 exact AG ⟨g,c,d,e,E,j⟩
structure SC(V:Ap)(p:AH)(fin d l:AI)(bv:Aq):Prop where
 b0:Boxed V p 3 (Ab Al fin)
 b1:Boxed V (p+1) 3 (Ab Al d)
 b2:Boxed V (p+2) 3 (Ab Al l)
 b3:Boxed V (p+3) 50 bv
def SD(W:Ap)(fin d l:AI)(bv:Aq):Ap:=Az (Az (Az (Az W<|Aj #[Ab Al fin] 3)<|Aj #[Ab Al d] 3)<|Aj #[Ab Al l] 3)<|Aj #[bv] 50
def q53(W:X)(fin d l:J)(a:Aq):SC (SD W fin d l a) (O<|U W) fin d l a:=by
 unfold SD;refine⟨(((Boxed.new W _ _).alloc _).alloc _).alloc _,?_,?_,?_⟩
 .have:=Boxed.new (Az W<|M #[C Y fin] 3) 3<|C Y d;simp only[CL,A0]at this;exact(this.alloc _).alloc _
 .have:=Boxed.new (Az (Az W<|M #[C Y fin] 3)<|M #[C Y d] 3) 3<|C Y l;simp only[CL,A0]at this;exact this.alloc _
 have:=Boxed.new (Az (Az (Az W<|M #[C Y fin] 3)<|M #[C Y d] 3)<|M #[C Y l] 3) 50 a;simp only[CL,A0]at this;exact this
def qwv(W:X)(fin d l:J)(a:Aq):A0 W<|SD W fin d l a:=by unfold SD;exact(((Cm).alloc Ba _).alloc B7 _).alloc B7 _
def SC.ac{p:I}{d l:J}{bv:Aq}(h:SC V p fin d l bv)(a:A0 V V'):SC V' p fin d l bv :=
 ⟨Ca (Co a _ h.b0.lt) h.b0,Ca (Co a _ h.b1.lt) h.b1,Ca (Co a _ h.b2.lt) h.b2,Ca (Co a _ h.b3.lt) h.b3⟩
def qwF(j:(fout==1)=AQ)(c:Ar As 82 #[C Y fout,Ai t y] V λe a=>∃b,e=Ak b/\Cn a (O<|U V) b ys/\A0 V a):Ar As 44 #[C Y fout,Ai t y] V λe a=>∃b,e=Ak (Af #[b,C Y 0])/\Cn a (O<|U V) b ys/\A0 V a:=by
 go_enter func44,ntmps44
 go_wp2_with(first
  |(go_at_call 82;refine Ce c ?_;rintro e n ⟨m,rfl,d,h⟩;obtain⟨f,g,i,l,k,rfl⟩:=d))
 go_ret2
 exact⟨_,Z,⟨f,g,_,_,_,Z⟩,h⟩
def qsZ(g:Ar As 81 #[Ai t y] V λe f=>e=Ak (Ah AQ)/\A0 V f)(h:∀c,A0 V c->Ar As 82 #[C Y 1,Ai t y] c λe a=>∃b,e=Ak b/\Cn a (O<|U V) b ys/\Below (O<|U V) c a):Ar As 44 #[C Y 1,Ai t y] V λe a=>∃b,e=Ak (Af #[b,C Y 0])/\Cn a (O<|U V) b ys/\A0 V a:=by
 go_enter func44,ntmps44
 go_wp2_with(first
  |(go_at_call 81;refine Ce g ?_;rintro e n ⟨rfl,d⟩;have i:=h n d)
  |(go_at_call 82;refine Ce i ?_;rintro e s ⟨r,rfl,j,m⟩;obtain⟨k,l,o,q,p,rfl⟩:=j))
 go_ret2
 exact⟨_,Z,⟨k,l,_,_,_,Z⟩,Cs d m⟩
def qug(c:Ar As 81 #[Ai t y] V λe b=>e=Ak (Ah AP)/\A0 V b):Ar As 44 #[C Y 1,Ai t y] V λe a=>e=Ak (Af #[G Ao 0 0,C Y 13])/\A0 V a:=by
 go_enter func44,ntmps44
 go_wp2_with(first
  |(go_at_call 81;refine Ce c ?_;rintro e f ⟨rfl,d⟩))
 go_ret2
 exact⟨Z,d⟩
def Ok(k:AH)(W:Ap)(r:AS (AI×AI)<|AM Unit)(e:Ending)(W':Ap):Prop :=
 A0 W W'/\match r with
 |.ok d=>∃t y,e=Ak (Af #[Ai t y,Ab Al 0,Ab Al 0])/\CA k W' (λj=>Au (Av W)<=j/\j<Au (Av W')) (Ai t y) d
 |.error (en,pl)=>e=Ak (Af #[.nilIface,Ab Al en,Ab Al pl])
theorem qtw(k:I){caps:A3}(r:AS (J×J)<|AM Unit)(x:Ar As 42 caps (Az (Az W<|M #[C Y 0] 54)<|M #[C Y 0] 3)<|KJ k (Az (Az W<|M #[C Y 0] 54)<|M #[C Y 0] 3) r):Ar As 41 #[.func (.func 42) #[] caps] W<|Ok k W r:=by
 have v:A0 W<|Az (Az W<|M #[C Y 0] 54)<|M #[C Y 0] 3:=(Cm).alloc Ba _;have B:=Boxed.new W 54<|C Y 0;have s:=Boxed.new (Az W<|M #[C Y 0] 54) 3<|C Y 0;have F:=B.alloc<|M #[C Y 0] 3;rw[CL]at s;have g:=T v;have h:=T F;have i:=T s;clear v B s F
 go_enter_defers func41,ntmps41
 go_wp2_with fail
 refine Ce x ?_;clear x;rcases r with⟨N,R⟩|d
 .rintro e a ⟨b,hF⟩;obtain rfl:=hF;have q1:Boxed a (O<|U W) 54<|C Y 0:=Ca (Co b _ h.lt) h;have c:Boxed a (O (U W)+1) 3<|C Y 0:=Ca (Co b _ i.lt) i;have l:=Cs g<|CG b g.size;have n:=T q1;have o:=T c;have m:=T l;clear q1 c l b g h i;go_wp2;refine OJ (f:=79) (args:=#[A8<|O<|U W,A8<|O (U W)+1]) Ba C1 ?_;refine(lI N R n.cell o.cell n.frozen o.frozen E).mono ?_;rintro e u' w3 ⟨rfl,rfl,w,c2,L⟩;have p:=Cs m<|L _ (Cr _) E m.size;simp[Leaves,settle,results,results41,go_sem,w,c2,Ok,p]
 rintro e a ⟨b,A⟩;obtain⟨t,y,rfl,z⟩:=(show∃t y,e=Ak (Ai t y)/\CA k a (λj=>O (U<|Az (Az W<|M #[C Y 0] 54)<|M #[C Y 0] 3)<=j/\j<O (U a)) (Ai t y) d from A)
 have u:D<|CA k a (λj=>O (U W)+2<=j/\j<O (U a)) (Ai t y) d:=z.same (λj q=>⟨Bx,q.2⟩) λ_ _=>rfl;clear A z;have q1:Boxed a (O<|U W) 54<|C Y 0:=Ca (Co b _ h.lt) h;have c:Boxed a (O (U W)+1) 3<|C Y 0:=Ca (Co b _ i.lt) i;have l:=Cs g<|CG b g.size;have n:=T q1;have o:=T c;have m:=T l;have w:=q1.cell;have f1:=q1.frozen;have c2:=c.cell;have f2:=c.frozen;clear q1 c l b g h i;go_wp2;have P:=grownBy_setCell' a (O<|U W)<|C Y 0;have Q:=grownBy_setCell' (AB a ⟨O<|U W,0,Ao⟩<|C Y 0) (O (U W)+1)<|C Y 0;have S:=((n.set<|C Y 0).kept Q B9).cell;have t2:=(Boxed.set (C Y 0)<|o.kept P B9).cell;have p:A0 W (AB (AB a ⟨O<|U W,0,Ao⟩<|C Y 0) ⟨O (U W)+1,0,Ao⟩<|C Y 0) :=
  Cs m ⟨rfl,rfl,rfl,Bd,λk hk=>Ca (CY _ _ _ _ B7)<|CY a _ _ _ B7⟩
 have aa:CA k (AB (AB a ⟨O<|U W,0,Ao⟩<|C Y 0) ⟨O (U W)+1,0,Ao⟩<|C Y 0) (λj=>O (U W)<=j/\j<O (U<|AB (AB a ⟨O<|U W,0,Ao⟩<|C Y 0) ⟨O (U W)+1,0,Ao⟩<|C Y 0)) (Ai t y) d:=u.same (λj q=>⟨E,Bv⟩) λj q=>Ca (CY _ _ _ _ B7)<|CY a _ _ _ B7;clear u;generalize AB (AB a ⟨O<|U W,0,Ao⟩<|C Y 0) ⟨O (U W)+1,0,Ao⟩ (C Y 0)=V at *;refine OJ (f:=79) (args:=#[A8<|O<|U W,A8<|O (U W)+1]) Ba C1 ?_;refine(lH ⟨O<|U W,0,Ao⟩ ⟨O (U W)+1,0,Ao⟩).mono ?_;rintro e u' w3 ⟨rfl,rfl,rfl⟩;simp[Leaves,settle,results,results41,go_sem,S,t2,Ok,p];grind
theorem qoJ(W:X)(u:A3)(A:Ar As 106 u (Az (Az W<|M #[C Y 0] 54)<|M #[C Y 0] 3)<|KJ k (Az (Az W<|M #[C Y 0] 54)<|M #[C Y 0] 3) r):Ar As 41 #[.func (.func 106) #[] u] W<|Ok k W r:=by
 have x:A0 W<|Az (Az W<|M #[C Y 0] 54)<|M #[C Y 0] 3:=(Cm).alloc Ba _;have Q:=Boxed.new W 54<|C Y 0;have v:=Boxed.new (Az W<|M #[C Y 0] 54) 3<|C Y 0;have R:=Q.alloc<|M #[C Y 0] 3;rw[CL]at v;have g:=T x;have i:=T R;have l:=T v
 go_enter_defers func41,ntmps41
 go_wp2_with fail
 refine Ce A ?_;rcases r with⟨B,S⟩|d
 .rintro e a ⟨b,hF⟩;obtain rfl:=hF;have q1:Boxed a (O<|U W) 54<|C Y 0:=Ca (Co b _ i.lt) i;have c:Boxed a (O (U W)+1) 3<|C Y 0:=Ca (Co b _ l.lt) l;have o:=Cs g<|CG b g.size;have m:=T q1;have n:=T c;have h:=T o;go_wp2;refine OJ (f:=79) (args:=#[A8<|O<|U W,A8<|O (U W)+1]) Ba C1 ?_;refine(lI B S m.cell n.cell m.frozen n.frozen E).mono ?_;rintro e u' w3 ⟨rfl,rfl,s,c2,z⟩;have p:=Cs h<|z _ (Cr _) E h.size;simp[Leaves,settle,results,results41,go_sem,s,c2,Ok,p]
 rintro e a ⟨b,P⟩;obtain⟨t,y,rfl,N⟩:=(show∃t y,e=Ak (Ai t y)/\CA k a (λj=>O (U<|Az (Az W<|M #[C Y 0] 54)<|M #[C Y 0] 3)<=j/\j<O (U a)) (Ai t y) d from P)
 have w:D<|CA k a (λj=>O (U W)+2<=j/\j<O (U a)) (Ai t y) d:=N.same (λj q=>⟨Bx,q.2⟩) λ_ _=>rfl;have q1:Boxed a (O<|U W) 54<|C Y 0:=Ca (Co b _ i.lt) i;have c:Boxed a (O (U W)+1) 3<|C Y 0:=Ca (Co b _ l.lt) l;have o:=Cs g<|CG b g.size;have m:=T q1;have n:=T c;have h:=T o;have s:=q1.cell;have f1:=q1.frozen;have c2:=c.cell;have f2:=c.frozen;go_wp2;have F:=grownBy_setCell' a (O<|U W)<|C Y 0;have L:=grownBy_setCell' (AB a ⟨O<|U W,0,Ao⟩<|C Y 0) (O (U W)+1)<|C Y 0;have t1:=((m.set<|C Y 0).kept L B9).cell;have t2:=(Boxed.set (C Y 0)<|n.kept F B9).cell;have p:A0 W (AB (AB a ⟨O<|U W,0,Ao⟩<|C Y 0) ⟨O (U W)+1,0,Ao⟩<|C Y 0) :=
  Cs h ⟨rfl,rfl,rfl,Bd,λk hk=>Ca (CY _ _ _ _ B7)<|CY a _ _ _ B7⟩
 have aa:CA k (AB (AB a ⟨O<|U W,0,Ao⟩<|C Y 0) ⟨O (U W)+1,0,Ao⟩<|C Y 0) (λj=>O (U W)<=j/\j<O (U<|AB (AB a ⟨O<|U W,0,Ao⟩<|C Y 0) ⟨O (U W)+1,0,Ao⟩<|C Y 0)) (Ai t y) d:=w.same (λj q=>⟨E,Bv⟩) λj q=>Ca (CY _ _ _ _ B7)<|CY a _ _ _ B7;generalize AB (AB a ⟨O<|U W,0,Ao⟩<|C Y 0) ⟨O (U W)+1,0,Ao⟩ (C Y 0)=V at *;refine OJ (f:=79) (args:=#[A8<|O<|U W,A8<|O (U W)+1]) Ba C1 ?_;refine(lH ⟨O<|U W,0,Ao⟩ ⟨O (U W)+1,0,Ao⟩).mono ?_;rintro e u' w3 ⟨rfl,rfl,rfl⟩;simp[Leaves,settle,results,results41,go_sem,t1,t2,Ok,p];grind
theorem qqA(p q:Addr):CallsD As 88 #[Ad<|H p,Ad<|H q] .returning w λe c d=>e=Ak (Af #[])/\c=.returning/\d=w:=by refine SZ func88 rfl λa cs b=>?_;simp only[ntmps88,K9,FN,J2,Nat.reduceAdd,Nat.reduceSub,Mp,Mq,Ms,Mr,Ka,Kw];apply wpS_seq;apply T6;simp[wpOpsS,go_sem,recoverD,b,Exit.thenS];refine T8 ?_;go_wp2;cases a;simp_all[bodyPostS,results,results88]
def qqD{p q:I}(a b:J){x y:J}{w:Ap}(c:A6 w p 0<|C Y x)(d:A6 w q 0<|C Y y)(n:w.frozen? ⟨p,0,Ao⟩=AQ)(o:w.frozen? ⟨q,0,Ao⟩=AQ)(h:p≠q):CallsD As 88 #[A8 p,A8 q] (.panicking [{v:=OR a b,recovered:=AQ}]) w λe k i=>e=Ak (Af #[])/\k=.panicking [{v:=OR a b,recovered:=AP}] /\
   (A6 i p 0 (C Y a)/\A6 i q 0 (C Y b)/\∀B,B<=p->B<=q->B<=O (U w)->Below B w i):=by
 refine SZ func88 rfl λc₀ cs Q=>?_;simp only[ntmps88,K9,FN,J2,Nat.reduceAdd,Nat.reduceSub,Mp,Mq,Ms,Mr,Ka,Kw];apply wpS_seq;apply T6;simp[wpOpsS,go_sem,recoverD,Q,Exit.thenS,OR];refine T8 ?_;have P:∀w:Ap,(Instr.typeAssert (Ai 163<|Ag #[C Y a,C Y b]) 20 163 AP).run As w=.ok (Af #[Ag #[C Y a,C Y b],Ah AP]) w:=λw=>B6;go_wp2;have g:O (U w)≠p/\O (U w)≠q:=⟨by have r:p<O (U w):=Fk c;omega,by have r:q<O (U w):=Fk d;omega⟩
 have l:(Az w<|M #[C Y a,C Y b] 163).cell? ⟨p,0,Ao⟩=H (C Y x):=Ca (Iy w _ _ kfm) c;have m:(Az w<|M #[C Y a,C Y b] 163).cell? ⟨q,0,Ao⟩=H (C Y y):=Ca (Iy w _ _<|by rw[d];rfl) d;have f:A0 w<|Az w<|M #[C Y a,C Y b] 163:=Cm;have z:=Ca (f.frozen (p:=⟨p,0,Ao⟩)<|Fk c) n;have A:=Ca (f.frozen (p:=⟨q,0,Ao⟩)<|Fk d) o;have t:(Az w<|M #[C Y a,C Y b] 163).cell? ⟨O<|U w,0,Ao⟩=H (C Y a):=Cc (Cj _) 0;have u:(Az w<|M #[C Y a,C Y b] 163).cell? ⟨O<|U w,1,Ao⟩=H (C Y b):=Cc (Cj _) 1;have j:=T f;have L:=g.1;have N:=g.2;have s:q≠p:=λe=>h e.symm;clear c d n o f g;generalize Az w (M #[C Y a,C Y b] 163)=V at *
 go_region
 have R:(AB (AB V ⟨p,0,Ao⟩<|C Y a) ⟨q,0,Ao⟩<|C Y b).drew.cell? ⟨p,0,Ao⟩=H (C Y a):=by show(AB (AB V ⟨p,0,Ao⟩<|C Y a) ⟨q,0,Ao⟩<|C Y b).cell? ⟨p,0,Ao⟩=_;rw[Je (w:=AB V ⟨p,0,Ao⟩<|C Y a)<|CY _ _ _ _ Bu];exact ZL _ _ _ kfE
 have S:(AB (AB V ⟨p,0,Ao⟩<|C Y a) ⟨q,0,Ao⟩<|C Y b).drew.cell? ⟨q,0,Ao⟩=H (C Y b):=by show(AB (AB V ⟨p,0,Ao⟩<|C Y a) ⟨q,0,Ao⟩<|C Y b).cell? ⟨q,0,Ao⟩=_;refine ZL _ _ _ ?_;rw[Je (w:=V)<|CY _ _ _ _ keX,m];rfl
 have W:∀B,B<=p->B<=q->B<=O (U w)->Below B w (AB (AB V ⟨p,0,Ao⟩<|C Y a) ⟨q,0,Ao⟩<|C Y b).drew:=λB r h2 F =>
  Cs (CG j F) ⟨rfl,rfl,rfl,by simp[World.setCell,World.drew,A0],λaa hk=>Ca (CY _ _ _ _ B7)<|CY V _ _ _ B7⟩
 generalize(AB (AB V ⟨p,0,Ao⟩<|C Y a) ⟨q,0,Ao⟩<|C Y b).drew=X at *;clear l m t u z A j P L N s h;exact⟨Z,_,Z,_,Wi Z _ _ _,Z,Z,R,S,W⟩
def SE{α:Type}(val:α->Aq)(r:AS (AI×AI) α):Aq:=match r with
 |.ok z=>Af #[val z,Ab Al 0,Ab Al 0]
 |.error (en,pl)=>Af #[Ab Al 0,Ab Al en,Ab Al pl]
theorem qq5{α:Type}(val:α->Aq)(W:X)(f:I)(t:A3)(r:AS (J×J) α)(F:f=50)(s:Ar As f t (Az (Az W<|M #[C Y 0] 54)<|M #[C Y 0] 3)<|Rp (Az (Az W<|M #[C Y 0] 54)<|M #[C Y 0] 3) val r):Ar As 49 #[.func (.func f) #[] t] W λe w=>e=Ak (SE val r)/\A0 W w:=by
 subst F;have p:A0 W<|Az (Az W<|M #[C Y 0] 54)<|M #[C Y 0] 3:=(Cm).alloc Ba _;have u:=Boxed.new W 54<|C Y 0;have o:=Boxed.new (Az W<|M #[C Y 0] 54) 3<|C Y 0;have v:=u.alloc<|M #[C Y 0] 3;rw[CL]at o;have d:=T p;have g:=T v;have h:=T o;clear p u o v
 go_enter_defers func49,ntmps49
 go_wp2_with fail
 refine Ce s ?_;clear s;rcases r with⟨y,L⟩|z
 .rintro e a ⟨b,hF⟩;obtain rfl:=hF;have q1:Boxed a (O<|U W) 54<|C Y 0:=Ca (Co b _ g.lt) g;have c:Boxed a (O (U W)+1) 3<|C Y 0:=Ca (Co b _ h.lt) h;have i:=Cs d<|CG b d.size;have l:=T q1;have m:=T c;have j:=T i;clear q1 c i b d g h;go_wp2;refine OJ (f:=88) (args:=#[A8<|O<|U W,A8<|O (U W)+1]) Ba C1 ?_;refine(qqD y L l.cell m.cell l.frozen m.frozen E).mono ?_;rintro e Q R ⟨rfl,rfl,q,c2,x⟩;have n:=Cs j<|x _ (Cr _) E j.size;simp[Leaves,settle,results,results49,go_sem,q,c2,SE,n]
 rintro e a ⟨b,rfl⟩;have q1:Boxed a (O<|U W) 54<|C Y 0:=Ca (Co b _ g.lt) g;have c:Boxed a (O (U W)+1) 3<|C Y 0:=Ca (Co b _ h.lt) h;have i:=Cs d<|CG b d.size;have l:=T q1;have m:=T c;have j:=T i;have q:=q1.cell;have f1:=q1.frozen;have c2:=c.cell;have S:=c.frozen;clear q1 c i b d g h;go_wp2;have A:=grownBy_setCell' a (O<|U W)<|C Y 0;have B:=grownBy_setCell' (AB a ⟨O<|U W,0,Ao⟩<|C Y 0) (O (U W)+1)<|C Y 0;have N:=((l.set<|C Y 0).kept B B9).cell;have P:=(Boxed.set (C Y 0)<|m.kept A B9).cell;have n:A0 W (AB (AB a ⟨O<|U W,0,Ao⟩<|C Y 0) ⟨O (U W)+1,0,Ao⟩<|C Y 0) :=
  Cs j ⟨rfl,rfl,rfl,Bd,λk hk=>Ca (CY _ _ _ _ B7)<|CY a _ _ _ B7⟩
 generalize AB (AB a ⟨O<|U W,0,Ao⟩<|C Y 0) ⟨O (U W)+1,0,Ao⟩ (C Y 0)=V at *;refine OJ (f:=88) (args:=#[A8<|O<|U W,A8<|O (U W)+1]) Ba C1 ?_;refine(qqA ⟨O<|U W,0,Ao⟩ ⟨O (U W)+1,0,Ao⟩).mono ?_;rintro e Q R ⟨rfl,rfl,rfl⟩;simp[Leaves,settle,results,results49,go_sem,N,P,SE,n]
def qoy{p:I}{d l:J}(h:SC V p fin d l<|G a n c)(b:Ar As 43 #[C Y fin,Ag #[C Y d,C Y l],G a n c] V<|KJ k V r):Ar As 42 #[A8 p,A8<|p+1,A8<|p+2,A8<|p+3] V<|KJ k V r:=by
 have m:=h.b0.cell;have o:=h.b1.cell;have c2:=h.b2.cell;have q:=h.b3.cell;clear h;rcases r with⟨s,u⟩|z
 .go_enter func42,ntmps42
  go_wp2_with(first
   |(go_at_call 43;refine Ce b ?_;clear b;rintro e j ⟨f,hF⟩;obtain rfl:=hF))
  exact⟨Z,f,Z⟩
 go_enter func42,ntmps42
 go_wp2_with(first
  |(go_at_call 43;refine Ce b ?_;clear b;rintro e j ⟨f,hF⟩;obtain⟨t,y,rfl,g⟩:=hF;have i:=T g;clear g))
 go_ret;exact⟨f,_,_,Z,i⟩
def quf(n:CA k V (λj=>j<O (U V)) (Ai t y) dd)(p:¬(fout=1/\F7 k dd=AP))(g:∀b,A0 V b->Ar As 82 #[C Y fout,Ai t y] b λe c=>∃a,e=Ak a/\Cn c (O<|U b) a ys/\A0 b c):Ar As 44 #[C Y fout,Ai t y] V λe c=>∃a,e=Ak (Af #[a,C Y 0])/\Cn c (O<|U V) a ys/\A0 V c:=by
 cases i:(fout==1)
 .exact qwF i<|g V CT
 obtain rfl:fout=1:=by simpa using i
 have o:F7 k dd=AQ:=by cases q:F7 k dd with|false=>rfl|true=>exact absurd ⟨rfl,q⟩ p
 have f:=XZ k V (λj=>j<O (U V)) (Ai t y) dd (λ_ h=>h) n;rw[o]at f;refine qsZ f λb d=>Ce (g b d) ?_;rintro e r ⟨a,rfl,l,m⟩;exact⟨a,Z,Cn.mono l d.size,CG m d.size⟩
def qj3(c:CA k V (λj=>j<O (U V)) (Ai t y) dd)(d:F7 k dd=AP):Ar As 44 #[C Y 1,Ai t y] V λe b=>e=Ak (Af #[G Ao 0 0,C Y 13])/\A0 V b:=by have a:=XZ k V (λj=>j<O (U V)) (Ai t y) dd (λ_ h=>h) c;rw[d]at a;exact qug a
def Er(fm:AI):AH:=if fm=1 then 32 else 0
theorem lV(fm:J)(W:X):Ar As 89 #[C Y fm] W λe b=>e=Ak (C Am<|Er fm)/\b=W:=by
 by_cases h:fm=1
 .have c:(fm==1)=AP:=Bu;have a:Er fm=32:=kfL;rw[a];go_enter func89,ntmps89;go_wp2;go_ret;exact⟨Z,Z⟩
 have c:(fm==1)=AQ:=Bu;have a:Er fm=0:=kfL;rw[a];go_enter func89,ntmps89;go_wp2;go_ret;exact⟨Z,Z⟩
theorem qsX(W:X)(fm:J)(l:A4)(bs:A1)(cap:I)(h:E2 W l bs):Ar As 52 #[C Y fm,G l (K bs) cap] W λe o=>e=Ak (Ah<|bs.all λc=>c.toNat==Er fm)/\o=W:=by
 have m:=T h;have p:=lV fm W;obtain⟨R,d⟩:=CC<|bs.all λc=>c.toNat==Er fm;rw[AE d];have u:=h.len;unfold maxLen at u;go_enter func52,ntmps52
 go_wp2_with(first
  |(go_at_call 89;refine Ce p ?_;rintro e x ⟨rfl,rfl⟩))
 go_loopg[12] (K bs) (λg z wr=>∃k:I,z=C Y k/\D (k+g=K bs)/\wr=x/\D ((bs.drop k).all (λc=>c.toNat==Er fm)=R))
 grind [D];obtain⟨k,rfl,i,rfl,d⟩:=hrel;obtain _|g:=gk
 .have t:¬(k:J)<K bs:=AY<|AE i;have b:D<|R=AP:=by grind [D]
  go_wp2;go_ret;rw[AE b];exact⟨Z,Z⟩
 have j:k<K bs:=AY<|AE i;have t:(k:J)<K bs:=E;obtain⟨y,off,q,A,r⟩:=m.aq k j;subst q;have a:=AE d;rw[K7 j,We]at a;obtain⟨c,s⟩:=DF<|bs[k];rw[s]at r a;cases f:(c.toNat==Er fm)
 .rw[f,Bool.false_and]at a;have v:((c.toNat:J) != (Er fm:J))=AP:=B9;have w:((c.toNat:J)==(Er fm:J))=AQ:=B9;have b:=T a.symm;clear a f;go_wp2;go_ret;rw[AE b];exact⟨Z,Z⟩
 rw[f,SW]at a;have v:((c.toNat:J) != (Er fm:J))=AQ:=B9;have w:((c.toNat:J)==(Er fm:J))=AP:=B9;have n:=T a;go_wp2;go_roundg g;exact⟨k+1,Bb,B9,Z,n⟩;omega
structure Pz(W:Ap)(N:AH)(b:AU)(n bp:AH)(cur:AJ Aq)(V:Ap):Prop where
 ac:A0 W V
 ad:V.heap[N]?=An (Aj (Aw cur) 5 (0,0))
 d:Au (Av W)<=N
 a:n<=At cur
 same:∀j,j<bp->cur[j]?=An (Ab Am b.toNat)
def q5T(W:X)(d:n<=65536):∃cs:A3,(callFunc 183 #[C Y n]).run As W=.ok (.value<|G (Aa<|O<|U W) n cs.size) (W.drew.drew.alloc<|M cs 5)/\n<=cs.size/\cs.size<=maxLen:=by obtain⟨cs,c,a,b⟩:=Lib.run_makeNoZero (P:=As) W #[3] 50 5 underlying50 n E;refine⟨cs,?_,a,b Bc⟩;rw[run_callFunc_extern func183 B6 B6 B6 (e:=Extern.BytealgMakeNoZero.makeNoZero #[3] #[50]) B6,c];rfl
def qwZ:∀v∈[Value.int Am (b.toNat:J)],v.oneCell'=AP:=λv a=>by simp at a;subst a;rfl
theorem q8Q(h:bp<n):(Instr.sliceAt 50 (G (Aa N) n n) (H<|C Y bp) Ao Ao).run As V=.ok (G (H ⟨N,bp,Ao⟩) (n-bp)<|n-bp) V:=by have e:(⟨N,0,Ao⟩:Addr).add bp=⟨N,bp,Ao⟩:=C2;have a:¬n=bp:=E;have b:(bp:J)<=n:=E;rw[VX (P:=As) V 50 _ _ _ _ B6];simp[Instr.slice,Mv underlying50,Instr.sliceBounds,Wa,b];rw[Cl a,e]
def q83{ch:I}(h:ch<=n):(Instr.sliceAt 50 (G (Aa N) n n) Ao (H<|C Y ch) Ao).run As V=.ok (G (Aa N) ch n) V:=by
 have e:(⟨N,0,Ao⟩:Addr).add 0=⟨N,0,Ao⟩:=by simp[Addr.add]
 have a:(ch:J)<=n:=E;rw[VX (P:=As) V 50 _ _ _ _ B6];simp[Instr.slice,Mv underlying50,Instr.sliceBounds,Wa,a,e]
theorem Zj{ev:Operand->Aq}{W:Ap}(x:Operand){lo:Option Operand}(hi:Option Operand)(b:o.op=.slice ty x lo hi Ao){X:Aq}{L H:Option Aq}(hx:ev x=X)(hl:lo.map ev=L)(a:hi.map ev=H)(h:(Instr.sliceAt ty X L H Ao).run P W=.ok v W):(execOp ev o).run P W=.ok (.value v) W:=by unfold execOp;simp_all
theorem qzA(h:Pz W N b n n cur V)(d:n<=65536):E2 V (H ⟨N,0,Ao⟩)<|AV n b:=by refine⟨λi a=>⟨N,0,rfl,(Cd h.ad),?_⟩,BC⟩;have c:i<n:=Bl;rw[Gg,Cc h.ad i];have:=h.same i c;simpa using this
theorem Pz.copy(h:Pz W N b n bp cur V)(hb:A0 W V')(f:bp+m<=n)(d:V'.heap[N]?=H (M (Aw<|splice cur bp<|AV m<|C Am b.toNat) 5 (0,0))):Pz W N b n (bp+m) (splice cur bp<|AV m<|C Am b.toNat) V':=by
 have c:bp+K (AV m<|Value.int Am (b.toNat:J))<=K cur:=B0 h.a;refine⟨hb,d,h.d,by rw[length_splice _ _ _ c];exact h.a,λj e=>?_⟩;unfold splice;by_cases a:j<bp
 .rw[Hh B7,R6 a];exact h.same j a
 grind
def qtB{M:I}(h1:1<=n)(hn:n<=65536)(hM:A6 W M 0<|C Am b.toNat)(ak:M<O (U W)):Ar As 147 #[G (Aa M) 1 1,C Y n] W λe z=>∃g,e=Ak (G (Aa g) n n)/\E2 z (Aa g) (AV n b)/\A0 W z:=by
 have B:=λaa=>Tryz.bits_Mul 1 n E E aa;have e1:1*n/18446744073709551616=0:=E;have e2:1*n%18446744073709551616=n:=E;simp only[e1,e2]at B;have ao:((n:J)==0)=AQ:=B7;obtain⟨cs,am,aj,an⟩:=q5T W hn;have P:D<|(W.drew.drew.alloc<|Aj cs 5).heap[O<|U W]?=H (Aj (Aw cs.toList) 5 (0,0)):=by show _=_;rw[VM];exact Cj W.drew.drew
 have t:D<|A0 W<|W.drew.drew.alloc<|Aj cs 5:=((Cu _ _).drew.drew).alloc (Cr _) _;have Q:=T<|(t.cell ak).trans hM;have V:D (∀(j:I) (v:Aq),[Value.int Am b.toNat][j]?=H v->(W.drew.drew.alloc<|Aj cs 5).cell? ((⟨M,0,Ao⟩:Addr).add j)=H v):=λj v d=>by
  obtain _|j:=j
  .simp at d;subst d;exact Q
  simp at d
 have R:D<|[Value.int Am (b.toNat:J)].length=Nat.min 1 n:=(Nat.min_eq_left h1).symm;have x:D<|0+[Value.int Am (b.toNat:J)].length<=K cs.toList:=by show _<=_;simp;omega
 by_cases h8:n<=8192
 all_goals
  go_enter func147,ntmps147
  go_upto_region 17 with(first
   |(go_at_call 182;refine(B _).mono ?_;rintro e c ⟨rfl,rfl⟩))
  refine wp_region_list ?_;refine LQ Z λs l=>?_;go_simp;refine l _ _ ?_;refine LQ Z λs l=>?_;go_simp;refine l _ _ ?_;refine wpList_copy_splice Z (.tmp 58) (.tmp 59) 50 50 Z 5 underlying50 B6 (Aa<|O<|U c) (Aa M) n n 1 1 Z Z (O<|U c) 0 cs.toList 5 P [C Am b.toNat] R (λ_=>⟨Z,⟨M,0,Ao⟩,Z,V⟩) x (qwZ) (O<|U c) c t (Cr _) ?_;intro w4 ah ac;refine LQ Z λs l=>?_;go_simp;refine l _ _ ?_
  go_wp2_with fail
  have h:D<|Pz c (O<|U c) b n 1 (splice cs.toList 0 [C Am b.toNat]) w4:=⟨ac,AE ah,Cr _,by rw[length_splice _ _ _ x.out];simpa using aj,λj L=>by obtain rfl:j=0:=E;simp[splice]⟩
  go_loopg[10] n (λg al wr=>∃(a:I) (r:AJ Aq),al=C Y a/\D (1<=a)/\D (a<=n)/\D (n<=a+g)/\D (Pz c (O<|U c) b n a r wr))
  exact⟨1,_,Z,Cr _,h1,Bp,h⟩;obtain⟨a,r,rfl,u,N,w,i⟩:=hrel;by_cases af:a<n
  .have hl:(a:J)<n:=E
   first|(have h9:n<=8192:=E;obtain⟨k,p⟩:=CC<|min a n;have ag:(min (a:J) (n:J))=k:=(AY<|AE p))|(obtain⟨k,p⟩:=CC<|min a 8192;have ag:(min (a:J) 8192)=k:=AY<|AE p)
   go_wp2_with fail
   obtain⟨m,f⟩:=CC<|min k<|n-a;have q:D<|Pz c (O<|U c) b n a r {wr with drawn:=wr.drawn+1}:=⟨i.ac.drew,i.ad,i.d,i.a,i.same⟩
   refine Dl (S:=λ_=>True) (trivial) B6 ?_;intro o;generalize({wr with drawn:=wr.drawn+1}:X)=w5 at *;refine Cb 0 67 (C Y a) o <| Cb 1 68 (G (Aa<|O<|U c) n n) o <| Cb 2 69 (C Y a) o <| Ch 3 70 (G (H ⟨O<|U c,a,Ao⟩) (n-a)<|n-a) Z (λA F=>Zj (.tmp 68) Ao Z B6 B6 B6<|q8Q af) o <| Cb 4 71 (G (Aa<|O<|U c) n n) o <| Cb 5 72 (C Y k) o <| Ch 6 73 (G (Aa<|O<|U c) k n) Z (λA F=>Zj (.tmp 71) (H<|.tmp 72) Z B6 B6 B6<|q83<|AY<|AE p) o <| CH 7 λs l=>?_;refine step_copy_splice Z (.tmp 70) (.tmp 73) 50 50 Z 5 underlying50 B6 (H ⟨O<|U c,a,Ao⟩) (Aa<|O<|U c) (n-a) (n-a) k n B6 B6 (O<|U c) a r 5 q.ad (AV m<|C Am b.toNat) ?hn (λ_=>⟨Z,⟨O<|U c,0,Ao⟩,Z,?hs⟩) ?hf ?h1 (O<|U c) c q.ac (Cr _) ?_
   case hn=>rw[VJ];exact f.symm
   case hf=>rw[VJ];have:=q.a;have:=AE f;omega
   case h1=>intro v d;rw[(List.mem_replicate.1 d).2];rfl
   case hs =>
    intro j v d;have L:j<m:=B2<|Dk d;rw[List.getElem?_replicate_of_lt L]at d;have e:(⟨O<|U c,0,Ao⟩:Addr).add j=⟨O<|U c,j,Ao⟩:=by by_cases ab:j=0<;>simp[Addr.add,ab]
    rw[e,Cc q.ad j,<-d];have:=q.same j<|B3 (AE f)<|AE p;simpa using this
   intro w6 ai ad;rw[VJ];have y:=T<|q.copy ad (AY<|AE f) ai.out;refine l.out _ _ trivial λ_=>?_;refine Ch 8 75 (C Y ((a+m:I):J)) Z (λA F=>?y8) trivial ?_
   case y8 =>
    go_simp;exact(ZM _).trans<|AY<|AE f
   refine Cb 9 10 (C Y ((a+m:I):J)) trivial <| CK ?_;go_simp
   go_wp2_with fail
   obtain _|g:=gk
   .have:=AE w;omega
   go_roundg g;exact⟨a+m,_,Bb,by show _<=_;have:=AE u;omega,by show _<=_;have:=AE f;omega,by show _<=_;have h1:=AE f;have h2:=AE p;have h3:=AE u;have h4:=AE w;omega,y⟩;omega
  have hl:¬(a:J)<n:=E;have ae:a=n:=AY<|AE N;subst ae
  go_wp2_with fail
  go_ret;exact⟨_,Z,qzA i hn,i.ac⟩
theorem qtM{h:I}(o:h<18446744073709551616)(hl:K l<=999999999):Ar As 148 #[C .u64 h,Ae ⟨Aw l⟩] W λe k=>e=Ak (C .u64<|It h l)/\k=W:=by
 obtain⟨R,j⟩:=CC<|It h l;rw[AE j];go_enter func148,ntmps148;go_wp2
 go_loopg[0,5] (K l) (λg x y wr=>∃s i:I,x=C .u64 s/\y=C Y i/\wr=W/\D (i+g=K l/\s<18446744073709551616/\It s (l.drop i)=R))
 grind;obtain⟨s,i,rfl,rfl,rfl,a⟩:=hrel;obtain _|g:=gk
 .have n:¬(i:J)<(K l:J):=AY<|AE a;have d:D<|s=R:=by have e:=AE a;rw[R7 E]at e;exact e.2.2
  go_wp2;go_ret;rw[AE d];exact⟨Z,Z⟩
 have n:(i:J)<(K l:J):=AY<|AE a;obtain⟨b,c⟩:∃b,l[i]?=H b:=⟨_,D7 E⟩
 have p:=Et c;have q:IntKind.u64.wrap (b.toNat:J)=b.toNat:=by have:=b.toNat_lt;simp[IntKind.wrap,IntKind.bits,IntKind.signed];omega
 have r:=jK b.toNat a.out.2.1 (show b.toNat<_ by have:=b.toNat_lt;omega);have f:D<|It (Na s b.toNat) (l.drop<|i+1)=R:=by have e:=a.out.2.2;obtain⟨m,rfl⟩:=Nu.1 c;rw[K7 m]at e;exact e
 go_wp2;rw[jL];go_roundg g;exact⟨_,i+1,Z,Bb,Z,by grind [D],QG,f⟩;omega
theorem q91{a:Act}{b2:I}{cur:A1}{x y:Operand}(c:Cn w base v cur)(j:Cn w b2 v2 l)(hl:K cur+K l<=999999999)(h:∀e i f d,Cn d base (G e i f) (cur++l)->Below base w d->wpList As ops Q rest (a.put o.dst<|G e i f) d)(n:o.guard=Ao:=by rfl)(q:o.op=.call {callee:=.builtin .append,args:=#[x,y],argTypes:=#[50,50]}:=by rfl)(r:a.eval x=v:=by rfl)(hx:a.eval y=v2:=by rfl):wpList As ops Q (o::rest) a w:=by
 obtain⟨R,p,L,N,P⟩:=DL Tryz.infoU8;have t:=j;obtain⟨⟨_,k⟩,_,_⟩:=j;rcases k with⟨rfl,k⟩|⟨g,s,cs,rfl,_,S,_⟩
 .obtain⟨e,i,f,rfl⟩:=c.2.2;refine Ub n q underlying50 underlying50 p r c.1 hx<|h _ _ _ _ ?_<|Cu _ _;grind
 refine K8 _ n x y 50 q base 5 R (C Am 0) 1 1 underlying50 p L N P rfl B8 v _ _ r c.1 ⟨g,0,Ao⟩ (K l) s (l.map CP) hx Ba ?_ (λu F=>by obtain⟨b,_,rfl⟩:=List.mem_map.mp F;rfl) Bc E c.2.1 ?_
 .grind [Addr.add,OV t,CP]
 intro V d z A _;obtain⟨m,B⟩:=XX c z A;obtain⟨_,_,_,rfl⟩:=m.2.2;exact h _ _ _ _ m B
def qzc(u:AU)(h:base<=O (U W)):Cn (Az W<|M #[C Am u.toNat] 5) base (G (Aa<|O<|U W) 1 1) [u] :=
 ⟨⟨rfl,AG ⟨O<|U W,1,#[C Am u.toNat],rfl,h,Cj _,Cr _,B8,rfl,rfl⟩⟩,B7,_,_,_,rfl⟩
def Cn.al(h:Cn W base v l)(o:Obj):Cn (Az W o) base v l:=⟨h.1.alloc _,B0 h.2.1,h.2.2⟩
def K2(n:AI):AH->A1
 |0=>[]
 |k+1=>_root_.UInt8.ofNat (n%256).toNat::K2 (n/256) k
theorem Zk:∀(k:I) (n:J),K (K2 n k)=k
 |0,_=>rfl
 |k+1,n=>by simp[K2,Zk k]
theorem lX(key:J):∀k j,It (JW key j) (K2 (key/2^(8*j)) k)=JW key (j+k)
 |0,_=>rfl
 |k+1,j=>by
  have h:=lX key k<|j+1;have e:key/2^(8*j)/256=key/2^(8*(j+1)):=by grind [Int.ediv_ediv_of_nonneg]
  rw[K2,It,e,ZO,Mu E];rw[show j+(k+1)=j+1+k by omega];exact h
theorem lY:∀(k:I) (W:X) (n:J),k<=8 -> -9223372036854775808<=n->n<=9223372036854775807->Ar As 149 #[C Y n,C Y k] W λe f=>∃a m c,e=Ak (G a m c)/\Cn f (O<|U W) (G a m c) (K2 n k)/\A0 W f
 |0,W,n,_,_,_=>by go_enter func149,ntmps149;go_wp2;go_ret;exact⟨_,_,_,Z,S9,CT⟩
 |k+1,W,n,hk,h1,h2=>by
  have c:∀V x,D (x=n/256)->Ar As 149 #[C Y x,C Y k] V λe f=>∃a m c,e=Ak (G a m c)/\Cn f (O<|U V) (G a m c) (K2 (n/256) k)/\A0 V f:=λV x y=>by rw[AE y];exact lY k V (n/256) E E E
  have F:(((k+1:I):J)==0)=AQ:=B7;obtain⟨b,N,r,s,h⟩:=YB n;obtain⟨u,w⟩:=DF<|_root_.UInt8.ofNat b;have i:D<|K2 n (k+1)=[u]++K2 (n/256) k:=by grind [D,K2]
  have q:D<|(b:J)=u.toNat:=by grind [D,Hz]
  have L:=T<|Zk k<|n/256;rw[AE i];generalize K2 (n/256) k=l at *;have j:D<|wrap64 ((wrap64<|n-b).tdiv 256)=n/256:=by grind [D,wrap64]
  clear r s w i;have Q:(b:J)-256<0:=E;have R:¬(b:J)<0:=E;rcases h with⟨h,P⟩|h
  all_goals
   go_enter func149,ntmps149
   go_wp2_with(first
    |(go_at_call 149;refine Ce (c _ _ j) ?_;rintro e w2 ⟨a,m,c,rfl,g,d⟩;have g:=T g;have d:=T d;have z:=AE q)
    |(at_builtin;refine q91 (qzc u d.size) (g.al _) (by grind [D]) ?_;intro A S B w' t v;have o:=T t;have p:=T v))
  all_goals
   go_ret;exact⟨_,_,_,Z,o,Cs d<|Cs (CG Cm d.size) p⟩
def LH:AH->AH->A1
 |0,_=>[]
 |k+1,u=>LH k (u/16)++[Ep<|u%16]
def lZ:∀k,LH k 0=AV k 48
 |0=>rfl
 |k+1=>by rw[LH,Nat.zero_div,lZ k,ng];rfl
theorem m4:∀(k u:I),u<16^(k+1)->LH (k+1) u=AV (k+1-K (hxL u)) 48++hxL u
 |k,u,h=>by
  by_cases a:u<16
  .rw[LH,Sq a,Nat.div_eq_of_lt a,Mu a,lZ];rfl
  obtain _|k:=k
  .omega
  have b:=m4 k (u/16) E;grind [LH,UC]
def q3S:∀(x:I) (h:x<16),(⟨#[48,49,50,51,52,53,54,55,56,57,97,98,99,100,101,102]⟩:ByteArray)[x]'h=Ep x:=B8
def q34{u:I}(h:u<18446744073709551616):LH 16 u=Nb u:=m4 15 u h
theorem q2N{a:A3}(h1 : -9223372036854775808<=key)(h2:key<=9223372036854775807)(ad:label<256)(hF:∀j,F j->j<O (U W))(h:CV k W F (.agg a) d)(hl:K (Du k d)<=999999999):Ar As 110 #[C Y key,C Y label,.agg a] W<|Eg (JX key label<|Du k d) W:=by
 obtain⟨u,rfl⟩:∃u:AU,label=u.toNat:=⟨_root_.UInt8.ofNat label,(Hz ad).symm⟩
 have HX:D<|EQ W a<|Az W<|M a 101:=Ko;obtain⟨kd,aj,s,ka,ki,kj,va,vi,vj,e⟩:=h.ac;injection e with e;have L:D (∀V,EQ W a V->Ar As 86 #[.agg a] V (Eg (Du k d) V)):=λV P=>UB k V F a d (λj q=>CQ (hF j q) P.ac.size) (h.same (λ_ h=>h) λj q=>Co P.ac j<|hF j q) hl;have cS:=λV=>lY 8 V key E h1 h2;have p:=λV x l hx hl=>qtM (W:=V) (h:=x) (l:=l) hx hl;obtain⟨R,w⟩:=CC<|JX key u.toNat<|Du k d;have H0:D<|It 14695981039346656037 (K2 key 8)=JW key 8:=by have e:=lX key 8 0;rw[Nat.mul_zero,Int.pow_zero,Int.ediv_one]at e;exact e
 have f:D<|K (K2 key 8)<=999999999:=by grind [D,Zk]
 have o:D<|JX key u.toNat (Du k d)=Nb (It (It (JW key 8) [u])<|Du k d):=rfl;rw[AE w];rw[AE w]at o;generalize K2 key 8=sp at *;generalize Du k d=cb at *;subst e;unfold Cg at *;unfold Eg CX at L ⊢;go_enter func110,ntmps110;have t:D<|It (JW key 8) [u]<18446744073709551616:=UE _ _<|UD _ _;obtain⟨s2,r⟩:=CC<|It (JW key 8) [u];rw[AE r]at o t
 go_wp2_with(first
  |(go_at_call 149;refine Ce (cS _) ?_;rintro e w2 ⟨a2,m2,c2,rfl,HO,m⟩;have n:=Rt HO;have ab:=T<|HX.next m)
  |(have _:=f;go_at_call 148;refine Ce (p _ _ _ B8 f) ?_;rintro e z ⟨rfl,rfl⟩;rw[AE H0];clear n f;have Q:=JS z (u.toNat:J) u Z)
  |(have _:=Q;go_at_call 148;refine Ce (p _ _ [u] (UD _ _) Ba) ?_;rintro e w4 ⟨rfl,rfl⟩;rw[AE r];clear Q;have b:D<|EQ W _<|Az z<|M #[C Am u.toNat] 5:=ab.next Cm;have z0:=Cc b.h 0;have z1:=Cc b.h 1;have z2:=Cc b.h 2;have z3:=Cc b.h 3;have z4:=Cc b.h 4;have c:=L.out _ b)
  |(go_at_call 86;refine Ce c ?_;rintro e w5 ⟨rfl,ac⟩;have B:=T<|b.next ac)
  |(have _:=B;go_at_call 148;refine Ce (p _ _ _ t hl) ?_;rintro e w6 ⟨rfl,rfl⟩))
 obtain⟨S,HS⟩:=CC<|It s2 cb;have A:D<|S<18446744073709551616:=by grind [D,UE]
 rw[AE HS]at o ⊢;have aa:=T B.ac;go_wp2
 go_loopg[7,8,9] 16 (λg x af ag wr=>∃(v i:I) (l:A1),x=C .u64 v/\af=Ae ⟨Aw l⟩/\ag=C Y i/\D (i+g=16)/\D (LH g v++l=R/\K l=i/\v<18446744073709551616)/\D (A0 W wr))
 exact⟨S,0,[],Z,Z,Z,Z,⟨by rw[Rd,q34 A,AE o],Z,A⟩,aa⟩;obtain⟨v,i,l,rfl,rfl,rfl,y,f,m⟩:=hrel;obtain _|g:=gk
 .have ae:¬(i:J)<16:=AY<|AE y;obtain⟨N,_⟩:=AE f;rw[LH,Ka]at N;subst N;go_wp2;go_ret;exact⟨Z,m⟩
 have ae:(i:J)<16:=AY<|AE y;have hm:(v:J).tmod 16=((v%16:I):J):=rfl;have hd:(v:J).tdiv 16=((v/16:I):J):=rfl;have ah:=q3S (v%16)<|Wl _ B8;have HN:D<|LH g (v/16)++([Ep<|v%16]++l)=R/\K ([Ep<|v%16]++l)=i+1/\v/16<18446744073709551616:=by grind [D,LH]
 generalize Ep (v%16)=c at *;have n:=JS wr (c.toNat:J) c Z;have ai:¬(1+K l>9223372036854775807):=AY<|AE f;have HW:D<|IntKind.u64.wrap ((v:J)/16)=((v/16:I):J):=by grind [D,IntKind.wrap,IntKind.bits]
 go_wp2;go_roundg g;exact⟨v/16,i+1,_,by rw[AE HW],by rw[<-EX],Bb,B9,HN,m.alloc m.size _⟩;omega
def Vm(c:Rc)(k:AH)(F:AH->Prop)(r:Option (AM Unit)×Cy)(M:AH)(sts:AJ<|(AH->AH)×AI×AI)(V:Ap)(e:Ending)(V':Ap):Prop :=
 ∃(v':Aq) (sts':AJ<|(AH->AH)×AI×AI),e=Ak (Af #[v',Ah r.1.isSome])/\DT c r.2 M sts' V'/\Dx V V'/\GQ sts sts'/\(r.1=Ao->v'=.nilIface)/\∀d',r.1=An d'->CA k V' (λj=>F j\/(Au (Av V)<=j/\j<Au (Av V'))) v' d'
def SJ(c:Rc)(k:AH):Prop :=
 ∀(V:Ap) (F:AH->Prop) (x:Aq) (d:A2) (p:AJ<|A1×AK) (f:AH) (R:Cy) (N:AH) (sts:AJ<|(AH->AH)×AI×AI),DT c R N sts V->IZ c sts f p->(∀j,F j->j<Au (Av V))->CA k V F x d->At (Du k d)<=999999999->N+D3 k d<=90000 ->
  Ar As 146 #[A8 c.B,x,Ab Al f] V (Vm c k F (D6 c.v k p d R) (N+D3 k d) sts V)
def Vn(D:A2->Prop)(c:Rc)(k:AH)(p:AJ<|A1×AK):Prop :=
 ∀(V:Ap) (F:AH->Prop) (x:Aq) (d:A2) (f:AH) (R:Cy) (N:AH) (sts:AJ<|(AH->AH)×AI×AI),D d->DT c R N sts V->IZ c sts f p->(∀j,F j->j<Au (Av V))->CA k V F x d->At (Du k d)<=999999999->N+D3 k d<=90000 ->
  Ar As 146 #[A8 c.B,x,Ab Al f] V (Vm c k F (D6 c.v k p d R) (N+D3 k d) sts V)
structure Mj(c:Rc)(k:AH)(W:Ap)(F:AH->Prop)(R:Cy)(N:AH)(sts:AJ ((AH->AH)×AI×AI))(v:Aq)(ds:AJ (AM Unit))(V:Ap):Prop where
 rw:DT c R N sts V
 a:Dx W V
 a0:∃xs,V.ownsRow (Au (Av W)) 89 1 v (At ds) xs/\∀(i:AH) (x:Aq) (d:A2),xs[i]?=An x->ds[i]?=An d->CA k V (λj=>(F j\/(Au (Av W)<=j/\j<Au (Av V)))/\An j≠Ax v) x d
def m5(h:W.ownsRow base t size v n xs)(o:Dx W W')(f:t≠187)(i:t≠203)(j:t≠264):W'.ownsRow base t size v n xs:=by
 obtain⟨b,a⟩:=h;refine⟨b,?_⟩;rcases a with a|⟨g,c,d,e,l,m,k⟩
 .exact AF a
 exact AG ⟨g,c,d,e,l,o.ad _ _ _ _ m f i j,k⟩
def Mj.aq{c:Rc}{R R':Cy}(h:Mj c k W F R N sts v ds V)(l:DT c R' N' sts' V')(a:Dx V V'):Mj c k W F R' N' sts' v ds V':=by obtain⟨n,e,f⟩:=h.a0;refine⟨l,h.a.trans a,n,m5 e a B8 B8 B8,λi x d m g=>(f i x d m g).kept (λj b=>⟨b.1.imp id λh=>⟨h.1,CQ h.2 a.size⟩,b.2⟩) a⟩
def q4O{c:Rc}{R:Cy}(b:DT c R N sts V)(a:Dx W V):Mj c k W F R N sts (G Ao 0 0) [] V :=
 ⟨b,a,[],Fi _ _ _ _,λi x d e=>by simp at e⟩
theorem Mj.push{c:Rc}{R:Cy}(h:Mj c k W F R N sts v ds V)(hW:O (U c.a)<=O (U W))(hG:O (U c.G)<=O (U W))(hF:∀j,F j->j<O (U W))(w:V.ownsRow (O<|U W) 89 1 v (K ds) xs)(hx:∀(i:I) (x:Aq) (d:A2),xs[i]?=H x->ds[i]?=H d->CA k V (λj=>(F j\/(O (U W)<=j/\j<O (U V)))/\H j≠Ax v) x d)(S:CA k V (λj=>F j\/(O (U V0)<=j/\j<O (U V))) x d)(am:∀g,Ax v=H g->g<O (U V0))(ai:O (U W)<=O (U V0))(al:w5.ownsRow (O<|U W) 89 1 v' (K ds+1)<|xs++[x])(l:(Az V<|M #[x] 89).grownBy w5<|Ax v)(q:Ax v'=Ax v\/Ax v'=H (O<|U<|Az V<|M #[x] 89)):Mj c k W F R N sts v' (ds++[d]) w5:=by
 have Q:=h.a.size;have ak:O (U V)+1<=O (U w5):=B2 l.size;have key:∀g,Ax v=H g->O (U W)<=g:=λg l=>DK w l;have s:=λj f u=>Ca (l.block j B7 u)<|CB _ _ _ f;have y:∀j,j<O (U W)->w5.heap[j]?=V.heap[j]?:=λj f=>s j E λe=>B9;have t:Dx W w5:=⟨E,λj cs ae fr a b c d=>Ca (y j<|Cd a)<|h.a.ad j cs ae fr a b c d⟩
 have ac:DT c R N sts w5:=by
  have m:=h.rw.aq<|Cm (o:=(M #[x] 89));have aa:=w.alloc<|M #[x] 89;rcases aa.2 with⟨z,_⟩|⟨g,ag,ah,z,aj,A,_⟩
  .refine m.aq ⟨l.os,l.tape,l.output,l.size,λj f=>l.block j f<|by grind [Value.ownBlock]⟩
  have ab:Ax v=H g:=keB;rw[ab]at l;obtain⟨sa,sc,nf,mn,mf,k1,k2,k3⟩:=m.j;refine⟨Ca (l.block c.B (Cd m.h) λe=>?_) m.h,⟨sa,sc,nf,mn,mf,k1.a2 (B:=g) ?_ l A B8 B8 B8,k2,k3⟩,⟨CE m.fr.1 l.size,λj a b c d e=>Ca (l.block j (CQ a m.fr.1) λe2=>B9)<|m.fr.2 j a b c d e⟩,m.m⟩
  .injection e with e;rw[<-e,m.h]at A;grind
  omega
 refine⟨ac,t,xs++[x],B9,λi af c r n=>?_⟩;have L:∀j,j<O (U V)->H j≠Ax v->H j≠Ax v':=λj f u=>by
  rcases q with q|q
  .rw[q];exact u
  rw[q];intro e;injection e with e;simp at e;omega
 have ad:K xs=K ds:=AY w.1;by_cases hi:i<K ds
 .rw[Hh E]at r n;have p:∀j,(F j\/(O (U W)<=j/\j<O (U V)))->j<O (U V):=λj f=>f.elim (λh=>CQ (hF j h) Q) λh=>h.2;exact(hx i af c r n).same (λj f=>⟨f.1.imp id λh=>⟨h.1,E⟩,L j (p j f.1) f.2⟩) λj f=>s j (p j f.1) f.2
 have e:i=K ds:=B9;subst e;rw[Jd E]at n;rw[Jd E,ad]at r;simp at r n;subst r;subst n;have P:∀j,(F j\/(O (U V0)<=j/\j<O (U V)))->H j≠Ax v:=λj f e=>B9;have p:∀j,(F j\/(O (U V0)<=j/\j<O (U V)))->j<O (U V):=λj f=>f.elim (λh=>CQ (hF j h) Q) λh=>h.2;exact S.same (λj f=>⟨f.imp id λh=>⟨E,E⟩,L j (p j f)<|P j f⟩) λj f=>s j (p j f)<|P j f
def Mj.ad{c:Rc}{R:Cy}(h:Mj c k W F R N sts v ds V):CA (k+1) V (λj=>F j\/(O (U W)<=j/\j<O (U V))) (Ai 221 v)<|.agg ds:=by
 obtain⟨t,a,m⟩:=h.a0;unfold CA;refine⟨v,t,Z,⟨a.1,?_⟩,λi x d s q=>(m i x d s q).same (λj r=>r.1) λ_ _=>rfl⟩;rcases a.2 with n|⟨g,f,l,e,p,b,o⟩
 .exact AF n
 exact AG ⟨g,f,l,e,AG ⟨p,(Cd b)⟩,b,o⟩
def Vo(c:Rc)(k:AH)(F:AH->Prop)(t:AN)(r:AM Unit×Cy)(M:AH)(sts:AJ<|(AH->AH)×AI×AI)(V:Ap)(e:Ending)(V':Ap):Prop :=
 ∃(a:A4) (n m:AH) (sts':AJ<|(AH->AH)×AI×AI),e=Ak (Ac a n m)/\DT c r.2 M sts' V'/\Dx V V'/\GQ sts sts'/\CA k V' (λj=>F j\/(Au (Av V)<=j/\j<Au (Av V'))) (Ai t<|Ac a n m) r.1
def Vp{c:Rc}{R:Cy}(h:DT c R N sts V)(ok:IY c):A6 V c.B 39<|A8 c.A:=by refine Ca (Cc h.h 39) ?_;unfold EK;rw[Nv<|by rw[ok.a.size];omega,ok.a.size];rfl
theorem m6(f:A2->Cy->Option (AM Unit)×Cy)(l:AJ<|AM Unit)(d:A2)(R:Cy){R1:Cy}(h:Jv f l R=(ds,R1)):Jv f (l++[d]) R=(ds++(f d R1).1.toList,(f d R1).2):=by grind [Jv]
theorem Zl{α:Type}(g:α->I):∀l:AJ α,K l<=(l.map λd=>1+g d).sum
 |[]=>Ex _
 |a::l=>by have:=Zl g l;grind
theorem Vq{α:Type}(g:α->A1){l:AJ α}{i:I}{d:α}(h:l[i]?=H d):K (g d)<=K (l.flatMap g):=by
 obtain⟨b,rfl⟩:=Nu.1 h;have a:l.flatMap g=(l.take i).flatMap g++(g l[i]++(l.drop<|i+1).flatMap g):=by grind [List.take_append_drop,List.drop_eq_getElem_cons]
 grind
theorem qny{c:Rc}(ok:IY c){D:A2->Prop}(ih:Vn D c k (([],AP)::p))(a8:∀x∈ds,D x){R:Cy}(h:DT c R N sts W)(hf:IZ c sts f p)(hF:∀j,F j->j<O (U W))(V:DQ W 89 1 F u (K ds) xs)(hx:∀(i:I) (x:Aq) (d:A2),xs[i]?=H x->ds[i]?=H d->CA k W F x d)(hc:K (ds.flatMap<|Du k)<=999999999)(hN:N+1+(ds.map λd=>1+D3 k d).sum<=90000):Ar As 202 #[A8 c.B,u,C Y f] W<|Vo c (k+1) F 221 (.agg (Jv (D6 c.v k (([],AP)::p)) ds R).1,(Jv (D6 c.v k (([],AP)::p)) ds R).2) (N+1+(ds.map λd=>1+D3 k d).sum) sts W:=by
 obtain⟨i0,hi,bk,bl,bm⟩:=DL Tryz.infoThing;obtain⟨ak,aj,rfl⟩:∃ak aj,u=Ac ak (K ds) aj:=by rcases V.2 with⟨e,e2⟩|⟨g,aj,a7,e,_⟩<;>grind
 obtain⟨rr,an⟩:=CC<|Jv (D6 c.v k (([],AP)::p)) ds R;rw[AE an];have ax:=T ih;have av:=T a8;have HW:=T h.ac.size;have HG:=T h.fr.1;have HU:=T V;have HX:=T hx;have HC:=T hc;have HF:=T hF;obtain⟨S,ac⟩:∃S,AL<|N+1+(ds.map λd=>1+D3 k d).sum=S:=⟨_,rfl⟩
 have bv:K ds<=90000:=AY<|Zl (D3 k) ds;have HN:=T<|AE ac▸hN;rw[AE ac];have br:=Vp h ok;have cN:=h.next ok E hf [] AP (by simp[maxLen])
 go_enter func202,ntmps202
 go_wp2_with(first
  |(go_at_call 71;refine Ce cN ?_;rintro e w2 ⟨f2,bo,rfl,bc,ba,bb,a9⟩;have a2:=T bc;have ay:=T ba;have a1:=T bb;have aw:=T a9))
 go_loopg[7,23] (K ds) (λg y bp wr=>∃(i:I) (a:A4) (l L:I) (s:Cy) (r:I) (n:AJ<|(I->I)×J×J) (m:AJ<|AM Unit),y=Ac a l L/\bp=C Y i/\AL (i+g=K ds)/\AL (IZ c n f2 (([],AP)::p))/\AL (GQ sts n)/\AL (Mj c k W F s r n (Ac a l L) m wr)/\AL (Jv (D6 c.v k (([],AP)::p)) (ds.take i) R=(m,s))/\AL (r+((ds.drop i).map λd=>1+D3 k d).sum<=S)/\AL (K m<=i))
 exact⟨0,Ao,0,0,R,N+1,bo,[],Z,Z,Bg,aw,a1,q4O a2 ay,Z,OH ac,Cr _⟩;obtain⟨i,a,l,L,s,r,n,m,rfl,rfl,hg,af,ad,b,a3,az,ar⟩:=hrel;obtain _|g:=gk
 .have bf:¬(i:J)<K ds:=AY<|AE hg;have HT:AL<|ds.take i=ds:=by grind [AL]
  go_wp2;go_ret;have P:=AE a3;rw[AE HT,AE an]at P;rw[P];exact⟨a,l,L,n,Z,b.rw.ai<|AY<|AE az,b.a,ad,b.ad⟩
 have be:i<K ds:=AY<|AE hg;have bf:(i:J)<K ds:=E;have HR:=HU.kept (V':=wr) (G:=F) (λ_ h=>h) b.a B8 B8 B8;obtain⟨q0,rfl⟩:∃q0,ak=Aa q0:=by rcases HR.2 with⟨_,e⟩|⟨g,bs,a7,e,_⟩<;>grind
 have bx:K xs=K ds:=AY HR.1;obtain⟨x,hx⟩:∃x,xs[i]?=H x:=⟨xs[i],D7 E⟩
 obtain⟨d,hd⟩:∃d,ds[i]?=H d:=⟨ds[i],D7 be⟩
 have ao:=(HX i x d hx hd).kept (V':=wr) (G:=F) (λ_ h=>h) b.a;obtain⟨tx,yx,rfl⟩:=ao.iface;have hc:A6 wr q0 i<|Ai tx yx:=by have:=HR.cell i _ hx;grind [Addr.add]
 have bw:r+(1+D3 k d)+((ds.drop<|i+1).map λd=>1+D3 k d).sum<=S:=by grind [AL,List.drop_eq_getElem_cons]
 have z:=ax.out wr F (Ai tx yx) d f2 s r n (av d<|VL hd) b.rw af (λj hj=>CQ (HF j hj) b.a.size) ao (by grind [AL,Vq])<|AY<|AE HN;have bh:Jv (D6 c.v k (([],AP)::p)) (ds.take<|i+1) R=(m++(D6 c.v k (([],AP)::p) d s).1.toList,(D6 c.v k (([],AP)::p) d s).2):=by grind [AL,List.take_add_one,m6]
 have ab:AL<|(r+D3 k d)+((ds.drop<|i+1).map λd=>1+D3 k d).sum<=S:=Bp;obtain⟨o,am⟩:=CC<|r+D3 k d;rw[AE am]at z;rw[AE am]at ab;have bu:K m<=90000:=AY<|AE ar;have bq:AL<|K m+1<=i+1:=B9;have a4:=T b.a.size;have a0:AL (∀g,Ax (AX a l L)=H g->g<O (U wr)):=by obtain⟨xs,P,_⟩:=b.a0;exact Qe P
 rcases hq:D6 c.v k (([],AP)::p) d s with⟨bn,A⟩
 rw[hq]at z bh;obtain _|q:=bn
 .have ag:AL<|Jv (D6 c.v k (([],AP)::p)) (ds.take<|i+1) R=(m,A):=by grind [AL]
  have ai:Ar As 146 #[A8 c.B,Ai tx yx,C Y f2] wr λe V'=>∃w,e=Ak (Af #[.nilIface,Ah AQ])/\AL (DT c A o w V')/\AL (Dx wr V')/\AL (GQ n w):=Ce z (by rintro e V' ⟨v',w,rfl,P,h2,h3,h4,_⟩;grind)
  go_wp2_with(first
   |(go_at_call 146;refine Ce ai ?_;rintro e w4 ⟨al,rfl,ae,aa,Q⟩))
  go_roundg g;exact⟨i+1,a,l,L,A,o,al,m,Z,Bb,B9,af.ac Q,ad.trans Q,b.aq ae aa,ag,ab,by grind [AL]⟩;omega
 have ag:AL<|Jv (D6 c.v k (([],AP)::p)) (ds.take<|i+1) R=(m++[q],A):=by grind [AL]
 have ai:Ar As 146 #[A8 c.B,Ai tx yx,C Y f2] wr λe V'=>∃t y w,e=Ak (Af #[Ai t y,Ah AP])/\AL (DT c A o w V')/\AL (Dx wr V')/\AL (GQ n w)/\AL (CA k V' (λj=>F j\/(O (U wr)<=j/\j<O (U V'))) (Ai t y) q):=Ce z (by rintro e V' ⟨v',w,rfl,P,h2,h3,_,h4⟩;have h5:=h4 q Z;obtain⟨t,y,rfl⟩:=h5.iface;grind)
 go_wp2_with(first
  |(go_at_call 146;refine Ce ai ?_;rintro e w4 ⟨t,y,al,rfl,ae,aa,Q,au⟩;have ah:=T<|b.aq ae aa;obtain⟨bz,bg,bj⟩:=ah.a0;have HO:=T bg;have a6:=T bj;have aq:=T ah.a.size)
  |(at_builtin;refine JH Z Z underlying221 hi bk bl bm Z B8 Z (HO.alloc _) 1 1 Z Z (EU) (λu V=>by simp at V;subst V;rfl) B8 Bc E (B1<|AE aq) ?_;intro v' w5 ap bd bi;have a5:=T<|ah.push HW HG HF HO a6 au a0 a4 ap bd bi;obtain⟨g5,bt,rfl⟩:=ownsRow_succ ap))
 go_roundg g;exact⟨i+1,_,_,_,A,o,al,m++[q],Z,Bb,B9,af.ac Q,ad.trans Q,a5,ag,ab,by grind [AL]⟩;omega
def JJ.kept{G:I->Prop}(h:JJ k V F xs es)(f:∀k,F k->G k)(j:Dx V V'):JJ k V' G xs es:=λi key d g=>by obtain⟨l,x,a,b,c,e⟩:=h i key d g;exact⟨l,x,a,b,c,e.kept f j⟩
structure LI(c:Rc)(k:AH)(W:Ap)(F:AH->Prop)(R:Cy)(N:AH)(sts:AJ ((AH->AH)×AI×AI))(v:Aq)(es:AJ (Lit×AM Unit))(V:Ap):Prop where
 rw:DT c R N sts V
 a:Dx W V
 a0:∃xs,V.ownsRow (Au (Av W)) 225 2 v (At es) xs/\JJ k V (λj=>(F j\/(Au (Av W)<=j/\j<Au (Av V)))/\An j≠Ax v) xs es
def LI.aq{c:Rc}{R R':Cy}(h:LI c k W F R N sts v es V)(f:DT c R' N' sts' V')(a:Dx V V'):LI c k W F R' N' sts' v es V':=by obtain⟨g,d,e⟩:=h.a0;exact⟨f,h.a.trans a,g,m5 d a B8 B8 B8,e.kept (λj b=>⟨b.1.imp id λh=>⟨h.1,CQ h.2 a.size⟩,b.2⟩) a⟩
def q2S{c:Rc}{R:Cy}(b:DT c R N sts V)(a:Dx W V):LI c k W F R N sts (G Ao 0 0) [] V :=
 ⟨b,a,[],Fi _ _ _ _,λi x d e=>by simp at e⟩
theorem LI.push{c:Rc}{R:Cy}(h:LI c k W F R N sts v es V)(hW:O (U c.a)<=O (U W))(hG:O (U c.G)<=O (U W))(hF:∀j,F j->j<O (U W))(w:V.ownsRow (O<|U W) 225 2 v (K es) xs)(hx:JJ k V (λj=>(F j\/(O (U W)<=j/\j<O (U V)))/\H j≠Ax v) xs es)(hd:CA k V (λj=>F j\/(O (U V0)<=j/\j<O (U V))) x d)(al:∀g,Ax v=H g->g<O (U V0))(ai:O (U W)<=O (U V0))(aa:w5.ownsRow (O<|U W) 225 2 v' (K es+1)<|xs++[Ae ⟨Aw l⟩,x])(m:(Az V<|M #[Ae ⟨Aw l⟩,x] 225).grownBy w5<|Ax v)(r:Ax v'=Ax v\/Ax v'=H (O<|U<|Az V<|M #[Ae ⟨Aw l⟩,x] 225)):LI c k W F R N sts v' (es++[(.string l,d)]) w5:=by
 have Q:=h.a.size;have ak:O (U V)+1<=O (U w5):=B2 m.size;have key:∀g,Ax v=H g->O (U W)<=g:=λg m=>DK w m;have s:=λj f u=>(m.block j B7 u).trans<|CB _ _ _ f;have y:∀j,j<O (U W)->w5.heap[j]?=V.heap[j]?:=λj f=>s j E λe=>B9;have t:Dx W w5:=⟨E,λj cs ae fr a b c d=>(y j<|Cd a).trans<|h.a.ad j cs ae fr a b c d⟩
 have ad:DT c R N sts w5:=by
  have n:=h.rw.aq<|Cm (o:=(M #[Ae ⟨Aw l⟩,x] 225));have ab:=w.alloc<|M #[Ae ⟨Aw l⟩,x] 225;rcases ab.2 with⟨z,_⟩|⟨g,ag,ah,z,aj,A,_⟩
  .refine n.aq ⟨m.os,m.tape,m.output,m.size,λj f=>m.block j f<|by grind [Value.ownBlock]⟩
  have ac:Ax v=H g:=keB;rw[ac]at m;obtain⟨sa,sc,nf,mn,mf,k1,k2,k3⟩:=n.j;refine⟨(m.block c.B (Cd n.h) λe=>?_).trans n.h,⟨sa,sc,nf,mn,mf,k1.a2 (B:=g) ?_ m A B8 B8 B8,k2,k3⟩,⟨CE n.fr.1 m.size,λj a b c d e=>(m.block j (CQ a n.fr.1) λe2=>B9).trans<|n.fr.2 j a b c d e⟩,n.m⟩
  .injection e with e;rw[<-e,n.h]at A;grind
  omega
 refine⟨ad,t,_,by rw[Dj];exact aa,λi af c p=>?_⟩;have L:∀j,j<O (U V)->H j≠Ax v->H j≠Ax v':=λj f u=>by
  rcases r with r|r
  .rw[r];exact u
  rw[r];intro e;injection e with e;simp at e;omega
 have am:=w.1;by_cases hi:i<K es
 .rw[Hh hi]at p;obtain⟨l',x',S,e2,e3,e4⟩:=hx i af c p;refine⟨l',x',S,B9,B9,?_⟩;have q:∀j,(F j\/(O (U W)<=j/\j<O (U V)))->j<O (U V):=λj f=>f.elim (λh=>CQ (hF j h) Q) λh=>h.2;exact e4.same (λj f=>⟨f.1.imp id λh=>⟨h.1,E⟩,L j (q j f.1) f.2⟩) λj f=>s j (q j f.1) f.2
 have e:i=K es:=B9;subst e;rw[Jd E]at p;simp at p;obtain⟨rfl,rfl⟩:=p;have P:∀j,(F j\/(O (U V0)<=j/\j<O (U V)))->H j≠Ax v:=λj f e=>B9;have q:∀j,(F j\/(O (U V0)<=j/\j<O (U V)))->j<O (U V):=λj f=>f.elim (λh=>CQ (hF j h) Q) λh=>h.2;refine⟨l,x,Z,?_,?_,hd.same (λj f=>⟨f.imp id λh=>⟨E,E⟩,L j (q j f)<|P j f⟩) λj f=>s j (q j f)<|P j f⟩<;>grind
def LI.ad{c:Rc}{R:Cy}(h:LI c k W F R N sts v es V):CA (k+1) V (λj=>F j\/(O (U W)<=j/\j<O (U V))) (Ai 223 v)<|.map es:=by
 obtain⟨p,a,i⟩:=h.a0;unfold CA;refine⟨v,p,Z,⟨a.1,?_⟩,i.same (λj o=>o.1) λ_ _=>rfl⟩;rcases a.2 with l|⟨g,d,f,e,n,b,m⟩
 .exact AF l
 exact AG ⟨g,d,f,e,AG ⟨n,(Cd b)⟩,b,m⟩
theorem m7{f:A1->A2->Cy->Option (AM Unit)×Cy}{l:AJ<|Lit×AM Unit}{e:Lit×AM Unit}{R:Cy}{R1:Cy}(h:Jw f l R=(es,R1)):Jw f (l++[e]) R=(es++((f (D9 e.1) e.2 R1).1.map λd=>(e.1,d)).toList,(f (D9 e.1) e.2 R1).2):=by grind [Jw]
theorem m8{α:Type}(g:α->I):∀l:AJ α,K l<=(l.map λd=>2+g d).sum
 |[]=>Ex _
 |a::l=>by have:=m8 g l;grind
theorem qpV{c:Rc}(ok:IY c)(ih:SJ c k){R:Cy}(h:DT c R N sts W)(hf:IZ c sts f p)(hF:∀j,F j->j<O (U W))(hu:DQ W 225 2 F u (K es) xs)(hx:JJ k W F xs es)(hc:K (es.flatMap λe=>(Dd 3 (K<|D9 e.1)++D9 e.1)++Du k e.2)<=999999999)(hN:N+(es.map λe=>2+D3 k e.2).sum<=90000):Ar As 203 #[A8 c.B,u,C Y f] W<|Vo c (k+1) F 223 (.map (Jw (λkey=>D6 c.v k ((key,AQ)::p)) es R).1,(Jw (λkey=>D6 c.v k ((key,AQ)::p)) es R).2) (N+(es.map λe=>2+D3 k e.2).sum) sts W:=by
 obtain⟨i0,hi,b8,b9,ca⟩:=DL Tryz.infoEntry;obtain⟨a2,au,rfl⟩:∃a2 au,u=Ac a2 (K es) au:=by rcases hu.2 with⟨e,e2⟩|⟨g,au,b4,e,_⟩<;>grind
 obtain⟨rr,bd⟩:=CC<|Jw (λkey=>D6 c.v k ((key,AQ)::p)) es R;rw[AE bd];have an:=T ok;have b0:=T ih;have HW:=T h.ac.size;have HG:=T h.fr.1;have HU:=T hu;have HX:=T hx;have HC:=T hc;have HF:=T hF;obtain⟨NE,am⟩:∃NE,D<|N+(es.map λe=>2+D3 k e.2).sum=NE:=⟨_,rfl⟩
 have ck:K es<=90000:=AY<|m8 (λe:Lit×AM Unit=>D3 k e.2) es;have HN:=T<|AE am▸hN;rw[AE am];have bc:=T h;have a8:=T hf;clear h hf hu hx hc hF hN ok ih;go_enter func203,ntmps203
 go_wp2_with fail
 go_loopg[7,15] (K es) (λg y cb wr=>∃(i:I) (a:A4) (l q:I) (V:Cy) (s:I) (ab:AJ<|(I->I)×J×J) (m:AJ<|Lit×AM Unit),y=Ac a l q/\cb=C Y i/\D (i+g=K es)/\D (IZ c ab f p)/\D (GQ sts ab)/\D (LI c k W F V s ab (Ac a l q) m wr)/\D (Jw (λkey=>D6 c.v k ((key,AQ)::p)) (es.take i) R=(m,V))/\D (s+((es.drop i).map λe=>2+D3 k e.2).sum<=NE)/\D (K m<=i))
 exact⟨0,Ao,0,0,R,N,sts,[],Z,Z,Bg,a8,GQ.refl _,q2S bc<|Dx.refl _,Z,OH am,Cr _⟩;clear bc a8;obtain⟨i,a,l,q,V,s,ab,m,rfl,rfl,hg,aq,ao,Q,ap,ba,bz⟩:=hrel;obtain _|g:=gk
 .have b6:¬(i:J)<K es:=AY<|AE hg;have HT:D<|es.take i=es:=by grind [D]
  go_wp2;go_ret;have P:=AE ap;rw[AE HT,AE bd]at P;rw[P];exact⟨a,l,q,ab,Z,Q.rw.ai<|AY<|AE ba,Q.a,ao,Q.ad⟩
 have b5:i<K es:=AY<|AE hg;have b6:(i:J)<K es:=E;have HR:=HU.kept (V':=wr) (G:=F) (λ_ h=>h) Q.a B8 B8 B8;obtain⟨q0,rfl⟩:∃q0,a2=Aa q0:=by rcases HR.2 with⟨_,e⟩|⟨g,cf,b4,e,_⟩<;>grind
 obtain⟨⟨key,d⟩,hd⟩:∃d,es[i]?=H d:=⟨es[i],D7 b5⟩
 obtain⟨b,cl,rfl,bt,bu,ay⟩:=HX.out i key d hd;have bl:=ay.kept (V':=wr) (G:=F) (λ_ h=>h) Q.a;obtain⟨n,r,rfl⟩:=bl.iface;have ch:A6 wr q0 (i*2)<|Ae ⟨Aw b⟩:=by have:=HR.cell (2*i) _ bt;grind [Addr.add]
 have ci:A6 wr q0 (i*2+1)<|Ai n r:=by have:=HR.cell (2*i+1) _ bu;grind [Addr.add]
 have b7:s+(2+D3 k d)+((es.drop<|i+1).map λe=>2+D3 k e.2).sum<=NE:=by grind [D,List.drop_eq_getElem_cons]
 have bn:K (Du k d)<=999999999/\K b<=999999999:=by grind [D,Vq,D9]
 have aj:D<|A0 wr<|Az wr<|M #[Ae ⟨Aw b⟩,Ai n r] 225:=Cm;have ag:D<|(Az wr<|M #[Ae ⟨Aw b⟩,Ai n r] 225).heap[O<|U wr]?=H (M #[Ae ⟨Aw b⟩,Ai n r] 225):=Cj _;have o:=T<|Q.aq (Q.rw.aq aj)<|Dx.of_below aj;have o:=T<|o.aq (o.rw.aq (Cu _ _).drew)<|Dx.of_below (Cu _ _).drew;have ag:D<|(World.drew<|Az wr<|M #[Ae ⟨Aw b⟩,Ai n r] 225).heap[O<|U wr]?=H (M #[Ae ⟨Aw b⟩,Ai n r] 225):=Cj _;have L:(λw:X=>A6 w c.B 39 (A8 c.A)/\A6 w (O<|U wr) 0 (Ae ⟨Aw b⟩)) { (Az wr<|M #[Ae ⟨Aw b⟩,Ai n r] 225)with drawn:=(Az wr<|M #[Ae ⟨Aw b⟩,Ai n r] 225).drawn+1}:=⟨Vp o.rw an,Cc ag 0⟩
 have cN:=o.rw.next an (AY<|AE HN) aq b AQ Bc
 have bm:=T ay;have a5:=T bn.1;have a1:Jw (λkey=>D6 c.v k ((key,AQ)::p)) (es.take<|i+1) R=(m++((D6 c.v k ((b,AQ)::p) d V).1.map λd=>(Lit.string b,d)).toList,(D6 c.v k ((b,AQ)::p) d V).2):=by rw[QY,hd];exact m7 ap
 have al:D<|(s+1+D3 k d)+((es.drop<|i+1).map λe=>2+D3 k e.2).sum<=NE:=Bp;have bb:D<|s+1+D3 k d<=90000:=by grind [D]
 have cj:K m<=90000:=AY<|AE bz;have cd:D<|K m+1<=i+1:=B9;clear HR bt bu hd bl ay b7 bn ba ap Q aj;rcases hq:D6 c.v k ((b,AQ)::p) d V with⟨bw,R4⟩
 rw[hq]at a1;have ak:D (∀V4 x z,LI c k W F V (s+1) z (Ac a l q) m V4->IZ c z x ((b,AQ)::p)->Ar As 146 #[A8 c.B,Ai n r,C Y (x:I)] V4 (Vm c k F (bw,R4) (s+1+D3 k d) z V4)):=λV4 x z P h2=>hq▸b0.out V4 F (Ai n r) d ((b,AQ)::p) x V (s+1) z P.rw h2 (λj hj=>CQ (HF j hj) P.a.size) (bm.out.kept (λ_ h=>h) P.a) a5 bb;obtain⟨N4,a7⟩:=CC<|s+1+D3 k d;rw[AE a7]at ak al;clear bm a5 bb hq a7
 go_wp2_with fail
 refine Ei (S:=λw=>A6 w c.B 39 (A8 c.A)/\A6 w (O<|U wr) 0 (Ae ⟨Aw b⟩)) B6 ?_;refine Cb 0 19 (A8 c.B) L <| Cb 1 20 (A8 c.B) L <| Cb 2 21 (A8 c.B) L <| Cb 3 22 (A9 c.B 39) L <| Ch 4 23 (A8 c.A) Z (λw hZ=>by have z1:=hZ.1;go_simp) L <| Cb 5 24 (C Y f) L <| Cb 6 25 (A8<|O<|U wr) L <| Ch 7 26 (Ae ⟨Aw b⟩) rfl (λw hZ=>by have z1:=hZ.2;go_simp) L <| Cb 8 27 (Ag #[Ae ⟨Aw b⟩,Ah AQ]) L <| CH 9 λce hK=>?_;go_simp;refine cN.mono ?_;clear cN;rintro e w4 ⟨x,z,rfl,aw,av,bi,bg⟩;have t:=T<|o.aq aw av;have ah:=T<|av.ad _ _ _ _ ag B8 B8 B8;have ad:=T bi;have a9:=T bg;have ax:(λw:X=>A6 w c.B 39 (A8 c.A)/\A6 w (O<|U wr) 0 (Ae ⟨Aw b⟩)) w4:=⟨Vp aw an,Cc ah 0⟩
 simp only[];refine hK.out _ _ ax λ_=>?_;clear hK o aw av bi bg ag L;refine Cb 10 10 (C Y x) ax <| CK ?_;go_simp;clear ax;have cR:=ak.out w4 x z t a9;have az:=Cc ah 0;have bo:=Cc ah 1;clear ak a9;have b2:=T t.a.size;have b1:D (∀g,Ax (AX a l q)=H g->g<O (U w4)):=by obtain⟨xs,P,_⟩:=t.a0;exact Qe P
 obtain _|d':=bw
 .have ar:D<|Jw (λkey=>D6 c.v k ((key,AQ)::p)) (es.take<|i+1) R=(m,R4):=by grind [D]
  clear a1 az
  go_wp2_with(first
   |(go_at_call 146;refine cR.mono ?_;clear cR bo;rintro e w5 ⟨v5,a4,rfl,bk,bh,bj,br,_⟩;obtain rfl:=br rfl;have ae:=T bk;have ac:=T bh;have aa:=T bj;clear bk bh bj br;simp only[VQ]))
  go_roundg g;exact⟨i+1,a,l,q,R4,N4,a4,m,Z,Bb,B9,(aq.ac ad).ac aa,(ao.trans ad).trans aa,t.aq ae ac,ar,al,by grind [D]⟩;omega
 have ar:D<|Jw (λkey=>D6 c.v k ((key,AQ)::p)) (es.take<|i+1) R=(m++[(Lit.string b,d')],R4):=by grind [D]
 have bf:Ar As 146 #[A8 c.B,Ai n r,C Y x] w4 λe V'=>∃ai y a3,e=Ak (Af #[Ai ai y,Ah AP])/\D (DT c R4 N4 a3 V')/\D (Dx w4 V')/\D (GQ z a3)/\D (CA k V' (λj=>F j\/(O (U w4)<=j/\j<O (U V'))) (Ai ai y) d'):=cR.mono (by rintro e V' ⟨v',a3,rfl,P,h2,h3,_,h4⟩;have h5:=h4 d' Z;obtain⟨ai,y,rfl⟩:=h5.iface;grind);clear cR a1 az
 go_wp2_with(first
  |(go_at_call 146;refine bf.mono ?_;clear bf bo;rintro e w5 ⟨ai,y,a4,rfl,ae,ac,aa,a6⟩;have af:=T<|t.aq ae ac;have az:=Cc (ac.ad _ _ _ _ ah B8 B8 B8) 0;clear t ae;obtain⟨cm,bq,bv⟩:=af.a0;have HO:=T bq;have be:=T bv;have bx:=T af.a.size;clear bq bv)
  |(at_builtin;refine JH Z Z underlying223 hi b8 b9 ca Z B8 Z (HO.alloc _) 1 1 Z Z (EU) (λu hu=>BJ) B8 Bc E (B1<|AE bx) ?_;intro v' w6 a0 bp bs;have b3:=T<|af.push HW HG HF HO be a6 b1 b2 a0 bp bs;obtain⟨g6,cg,rfl⟩:=ownsRow_succ a0;clear a0 bp bs af HO be a6))
 go_roundg g;exact⟨i+1,_,_,_,R4,N4,a4,m++[(Lit.string b,d')],Z,Bb,B9,(aq.ac ad).ac aa,(ao.trans ad).trans aa,b3,ar,al,by grind [D]⟩;omega
def qp5:∀w:X,(Instr.typeAssert (Ai 219<|G a n c) 89 221 AP).run As w=.ok (Af #[G Ao 0 0,Ah AQ]) w:=λw=>B6
def qte:∀w:X,(Instr.typeAssert (Ai 219<|G a n c) 89 223 AP).run As w=.ok (Af #[G Ao 0 0,Ah AQ]) w:=λw=>B6
def qxN{B:I}(b:∀w:X,(Instr.typeAssert (Ai t y) 89 221 AP).run As w=.ok (Af #[G Ao 0 0,Ah AQ]) w)(c:∀w:X,(Instr.typeAssert (Ai t y) 89 223 AP).run As w=.ok (Af #[G Ao 0 0,Ah AQ]) w):Ar As 180 #[A8 B,Ai t y,C Y f] W λe a=>e=Ak (Ai t y)/\a=W:=by go_enter func180,ntmps180;go_wp2;go_ret;exact⟨Z,Z⟩
def QP(c:Rc)(k:AH)(F:AH->Prop)(r:AM Unit×Cy)(M:AH)(sts:AJ<|(AH->AH)×AI×AI)(V:Ap)(e:Ending)(V':Ap):Prop :=
 ∃(v':Aq) (sts':AJ<|(AH->AH)×AI×AI),e=Ak v'/\DT c r.2 M sts' V'/\Dx V V'/\GQ sts sts'/\CA k V' (λj=>F j\/(Au (Av V)<=j/\j<Au (Av V'))) v' r.1
def qvy{B:I}{c:Rc}(k:I)(F:I->Prop){r:AM Unit×Cy}{M:I}(b:AJ<|(I->I)×J×J)(d:Ar As 202 #[A8 B,G a n m,C Y f] W<|Vo c k F 221 r M b W):Ar As 180 #[A8 B,Ai 221<|G a n m,C Y f] W<|QP c k F r M b W:=by
 have p:=U7 a n m;go_enter func180,ntmps180
 go_wp2_with(first
  |(go_at_call 202;refine Ce d ?_;rintro e t ⟨o,s,q,l,rfl,g,h,i,j⟩))
 go_ret;exact⟨_,l,Z,g,h,i,j⟩
def qzQ{B:I}{c:Rc}(k:I)(F:I->Prop){r:AM Unit×Cy}{M:I}(b:AJ<|(I->I)×J×J)(d:Ar As 203 #[A8 B,G a n m,C Y f] W<|Vo c k F 223 r M b W):Ar As 180 #[A8 B,Ai 223<|G a n m,C Y f] W<|QP c k F r M b W:=by
 have p:=U9 a n m;have q:=Ua a n m;go_enter func180,ntmps180
 go_wp2_with(first
  |(go_at_call 203;refine Ce d ?_;rintro e u ⟨o,t,s,l,rfl,g,h,i,j⟩))
 go_ret;exact⟨_,l,Z,g,h,i,j⟩
theorem DQ.ac(h:DQ V t size F v n xs):∃q a,v=G q n a:=by rcases h.2 with⟨e,c⟩|⟨g,a,b,e,_⟩<;>grind
theorem q0D{c:Rc}(ok:IY c){k:Nat}(z:SJ c k)(W:World)(F:Nat->Prop)(x:Value)(d:DataW Unit){p:List<|List UInt8×Bool}(f:Nat)(R:Cy)(N:Nat)(b:List<|(Nat->Nat)×Int×Int)(h:DT c R N b W)(s:IZ c b f p)(hF:∀j,F j->j<W.heap.size)(a:CA (k+1) W F x d)(hc:(Du (k+1) d).length<=999999999)(S:N+D3 (k+1) d<=90001):Calls prog 180 #[A8 c.B,x,.int .i64 f] W<|QP c (k+1) F (Jc (D6 c.v k) p d R) (N+D3 (k+1) d-1) b W:=by
 have l:∀(t:TypeId) (y:Value),x=.iface t y->Jc (D6 c.v k) p d R=(d,R)->1<=D3 (k+1) d->(∀w:World,(Instr.typeAssert (.iface t y) 89 221 true).run prog w=.ok (.tuple #[.slice none 0 0,.bool false]) w)->(∀w:World,(Instr.typeAssert (.iface t y) 89 223 true).run prog w=.ok (.tuple #[.slice none 0 0,.bool false]) w)->Calls prog 180 #[A8 c.B,x,.int .i64 f] W (QP c (k+1) F (Jc (D6 c.v k) p d R) (N+D3 (k+1) d-1) b W):=by intro t y m i r A L;subst m;rw[i];refine Ce (qxN A L) ?_;rintro e Q ⟨rfl,rfl⟩;exact⟨_,b,Z,h.ai E,Dx.refl _,GQ.refl _,a.same (λ_ h=>.inl h) λ_ _=>rfl⟩
 have aa:=a;unfold CA at a;split at a
 .exact l _ _ a Z (Cr _) S0 S1
 .exact l _ _ a Z (Cr _) (gR)<|gS
 .exact l _ _ a.1 Z (Cr _) (gT)<|gU
 .exact l _ _ a Z (Cr _) (gV)<|gW
 .obtain⟨u,e,g⟩:=a;obtain⟨q,o,rfl⟩:=g.ac;exact l _ _ e Z (Cr _) (qp5)<|qte
 .rename_i ds;obtain⟨u,P,rfl,g,n⟩:=a;obtain⟨q,o,rfl⟩:=g.ac;have m:D3 (k+1) (.agg ds)=2+(ds.map λd=>1+D3 k d).sum:=rfl;have i:N+D3 (k+1) (.agg ds)-1=N+1+(ds.map λd=>1+D3 k d).sum:=E;rw[i];have r:Du (k+1) (.agg ds)=Dd 4 ds.length++ds.flatMap (Du k):=rfl;refine qvy (k+1) F b<|qny ok (λV F x d f R N b _=>z V F x d (([],true)::p) f R N b) (λ_ _=>trivial) h s hF g n ?_ E;grind
 .rename_i es;obtain⟨u,P,rfl,g,n⟩:=a;obtain⟨q,o,rfl⟩:=g.ac;have m:D3 (k+1) (.map es)=1+(es.map λe=>2+D3 k e.2).sum:=rfl;have i:N+D3 (k+1) (.map es)-1=N+(es.map λe=>2+D3 k e.2).sum:=E;rw[i];have r:Du (k+1) (.map es)=Dd 5 es.length++es.flatMap λe=>(Dd 3 (D9 e.1).length++D9 e.1)++Du k e.2:=rfl;refine qzQ (k+1) F b<|qpV ok z h s hF g n ?_ E;grind
 exact a.elim
def PB{c:Rc}{R:Cy}(h:DT c R N sts V)(ok:IY c)(j:I):AC V ⟨c.B,37+j,Ao⟩=#[C Y c.v.d,C Y c.v.key,A8 c.A,C Y R.1,C Y R.2.1,C Y R.2.2.1,C Y R.2.2.2][j]?:=by refine(Cc h.h<|37+j).trans ?_;unfold EK;rw[Nv<|by rw[ok.a.size];omega,ok.a.size,show 37+j-37=j by omega]
theorem m9{c:Rc}{R:Cy}(h:DT c R N sts V):∀(j:I) (u:Aq),c.O[j]?=H u->A6 V c.B (0+j) u:=by intro j u a;have b:=Cd a;refine(Cc h.h<|0+j).trans ?_;grind [EK]
theorem Vr{c:Rc}(ok:IY c)(R:Cy)(j:I)(v:Aq):Ay (EK c R) (37+j) v=c.O++#[C Y c.v.d,C Y c.v.key,A8 c.A,C Y R.1,C Y R.2.1,C Y R.2.2.1,C Y R.2.2.2].setIfInBounds j v:=by
 unfold EK;apply PS;have a:K c.O.toList=37:=by simp[ok.a.size]
 grind
def q0y{c:Rc}(ok:IY c):(prog.info? 123).map (·.size)=H c.O.size:=by rw[ok.a.size];kernel_rfl
def me{c:Rv}{R:Cy}(a:c.m (Dz c.c c.a p.reverse).1.toNat c.d=AP):D6 c (k+1) p d R=(H (Jc (D6 c k) p d (R.1+1,R.2)).1,(Jc (D6 c k) p d (R.1+1,R.2)).2):=by rw[D6,Cp a]
theorem mg{c:Rv}{R:Cy}(b:¬c.m (Dz c.c c.a p.reverse).1.toNat c.d=AP)(a:(Dz c.c c.a p.reverse).2=2):D6 c (k+1) p d R=(H<|.lit<|.string [42,42,42],(R.1,R.2.1,R.2.2.1+1,R.2.2.2)):=by grind [D6]
theorem mh{c:Rv}{R:Cy}(b:¬c.m (Dz c.c c.a p.reverse).1.toNat c.d=AP)(a:(Dz c.c c.a p.reverse).2=3):D6 c (k+1) p d R=(H<|.lit<|.string<|JX c.key (Dz c.c c.a p.reverse).1.toNat<|Du (k+1) d,(R.1,R.2.1,R.2.2.1,R.2.2.2+1)):=by grind [D6]
theorem mi{c:Rv}{R:Cy}(e:¬c.m (Dz c.c c.a p.reverse).1.toNat c.d=AP)(a:¬(Dz c.c c.a p.reverse).2=2)(b:¬(Dz c.c c.a p.reverse).2=3):D6 c (k+1) p d R=(Ao,(R.1,R.2.1+1,R.2.2.1,R.2.2.2)):=by grind [D6]
def PC(k:I)(d:A2):1<=D3 (k+1) d:=by unfold D3;split<;>omega
def q9t(D:A2->Prop)(c:Rc)(k:AH)(p:AJ<|A1×AK):Prop:=∀(W:Ap) (F:AH->Prop) (x:Aq) (d:A2) (f:AH) (R:Cy) (N:AH) (sts:AJ<|(AH->AH)×AI×AI) (_hD:D d) (_h:DT c R N sts W) (_hf:IZ c sts f p) (_hF:∀j,F j->j<Au (Av W)) (_hd:CA (k+1) W F x d) (_hc:At (Du (k+1) d)<=999999999) (_hN:N+D3 (k+1) d<=90001),Ar As 180 #[A8 c.B,x,Ab Al f] W<|QP c (k+1) F (Jc (D6 c.v k) p d R) (N+D3 (k+1) d-1) sts W
theorem qsU{D:A2->Prop}{c:Rc}(ok:IY c)(k:I)(p:AJ<|A1×AK)(sh:c.v.m (Dz c.v.c c.v.a p.reverse).1.toNat c.v.d=AP->q9t D c k p):Vn D c (k+1) p:=by
 intro ab F bg d ah R N q au h hf hF hd hc hN;have cV:=h.a0 ok hf;obtain⟨l,hl,a0⟩:=ok.g p.reverse;rw[hl]at cV;obtain⟨f,L⟩:=CC<|(Dz c.v.c c.v.a p.reverse).2;rw[AE L]at cV;obtain⟨ag,HB⟩:=CC<|c.v.m l c.v.d;have ao:AL<|(Dz c.v.c c.v.a p.reverse).1.toNat=l:=by grind [AL]
 have cM:=λV=>aO ok.a ok.n6 a0 ok.d V;rw[AE HB]at cM;obtain⟨ad,ae,rfl⟩:=hd.iface;have HR:=T h;have g:=T ok;have a3:=Vp h ok;have a5:=h.m;have bb:=PC k d;have af:AL (∀V,ag=AP->DT c (R.1+1,R.2) (N+1) q V->Dx ab V->Ar As 180 #[A8 c.B,Ai ad ae,C Y ah] V (QP c (k+1) F (Jc (D6 c.v k) p d (R.1+1,R.2)) (N+1+D3 (k+1) d-1) q V)):=λV a6 h1 s=>sh (by grind [AL]) V F (Ai ad ae) d ah (R.1+1,R.2) (N+1) q au h1 hf (λj b=>CQ (hF j b) s.size) (hd.kept (λ_ h=>h) s) hc E;rw[show N+1+D3 (k+1) d-1=N+D3 (k+1) d by omega]at af;have az:8<O (U c.a):=by have h0:=ok.tab;grind [World.cell?]
 have ar:AL (∀V,Below (O<|U c.a) c.a V->Dx ab V->Ar As 181 #[C Y c.v.key,C Y l,Ai ad ae] V λe W'=>e=Ak (Ae ⟨Aw<|JX c.v.key l<|Du (k+1) d⟩)/\A0 V W'):=λV h1 s=>zS c.v.key l (AY ok.n6) (λj b=>CQ (hF j b) s.size) (hd.kept (λ_ h=>h) s) hc<|(h1.cell az).trans ok.tab;have ac:N+1<=N+D3 (k+1) d:=E;obtain⟨rr,Q⟩:=CC<|D6 c.v (k+1) p d R;rw[AE Q];generalize hNE:N+D3 (k+1) d=NE at *;go_enter func146,ntmps146
 go_wp2_with(first
  |(go_at_call 72;refine cV.mono ?_;rintro e w2 ⟨rfl,ai⟩;have aa:=T<|HR.aq ai.drew;have an:=T<|Dx.of_below ai.drew))
 refine Dl (S:=λA=>(∀(j:I) (u:Aq),c.O[j]?=H u->A6 A c.B (0+j) u)/\A6 A c.B 37 (C Y c.v.d)) (⟨m9 aa,PB aa g 0⟩) B6 λo=>Cb 0 20 (A8 c.B) o <| Cb 1 21 (A8 c.B) o <| Cb 2 22 (A8 c.B) o <| Cb 3 23 (A8 c.B) o <| Ch 4 24 (.agg c.O) Z (λA hZ=>by exact Oe (.tmp 23) Z Z hZ.1 underlying123 Z<|q0y g) o <| Cb 5 25 (C Y l) o <| Cb 6 26 (A8 c.B) o <| Cb 7 27 (A8 c.B) o <| Cb 8 28 (A8 c.B) o <| Cb 9 29 (A9 c.B 37) o <| Ch 10 30 (C Y c.v.d) Z (λA hZ=>Bh) o <| CH 11 λa2 hK=>?_;go_simp;refine(cM _).mono ?_;rintro e a ⟨rfl,aj⟩;simp only[];have n:=T<|aa.aq aj;have P:=T<|an.trans<|Dx.of_below aj;have ay:(λA:X=>(∀(j:I) (u:Aq),c.O[j]?=H u->A6 A c.B (0+j) u)/\A6 A c.B 37 (C Y c.v.d)) a:=⟨m9 n,PB n g 0⟩
 refine hK.out _ _ ay λ_=>?_;refine CK ?_;go_simp;have t:=λj=>Dy a c.B j _ _ n.h;cases ag
 .have y:AL<|¬c.v.m (Dz c.v.c c.v.a p.reverse).1.toNat c.v.d=AP:=by grind [AL]
  by_cases s:f=2
  .subst s;have be:A6 a c.B 42<|C Y R.2.2.1:=PB n g 5;have a9:=t 42;have w:=Q.symm.trans<|mg y L;subst w;have i:DT c (R.1,R.2.1,R.2.2.1+1,R.2.2.2) (N+1) q (AB a ⟨c.B,42,Ao⟩<|C Y<|(R.2.2.1:J)+1)/\Dx a (AB a ⟨c.B,42,Ao⟩<|C Y<|(R.2.2.1:J)+1):=n.ad (R':=(R.1,R.2.1,R.2.2.1+1,R.2.2.2)) g 42 (R.2.2.1+1) (by rw[show 42=37+5 from Z,Vr g.out];rfl) BQ;have r:=T<|P.trans i.2;have z:=T<|i.1.ai ac
   go_wp2_with fail
   refine CS (FP results146 _ _ _) Z ?_;exact⟨_,q,Z,z,r,GQ.refl _,λh=>BB,λd' h=>by have x:=Fl h;rw[<-x];rfl⟩
  by_cases h3:f=3
  .subst h3;have bf:A6 a c.B 43<|C Y R.2.2.2:=PB n g 6;have ba:=t 43;have w:=Q.symm.trans<|mh y L;rw[AE ao]at w;subst w;have i:DT c (R.1,R.2.1,R.2.2.1,R.2.2.2+1) (N+1) q (AB a ⟨c.B,43,Ao⟩<|C Y<|(R.2.2.2:J)+1)/\Dx a (AB a ⟨c.B,43,Ao⟩<|C Y<|(R.2.2.2:J)+1):=n.ad (R':=(R.1,R.2.1,R.2.2.1,R.2.2.2+1)) g 43 (R.2.2.2+1) (by rw[show 43=37+6 from Z,Vr g.out];rfl) BQ;have r:=T<|P.trans i.2;have z:=T<|i.1.ai ac;have a4:(AB a ⟨c.B,43,Ao⟩<|C Y<|(R.2.2.2:J)+1).cell? ⟨c.B,38,Ao⟩=H (C Y c.v.key):=PB i.1 g 1;have cG:=ar.out _ i.1.ac r;generalize JX c.v.key l (Du (k+1) d)=tg at *
   go_wp2_with(first
    |(go_at_call 181;refine cG.mono ?_;rintro e w5 ⟨rfl,ak⟩;have aq:=T<|z.aq ak;have W:=T<|r.trans<|Dx.of_below ak))
   refine CS (FP results146 _ _ _) Z ?_;exact⟨_,q,Z,aq,W,GQ.refl _,λh=>BB,λd' h=>by have x:=Fl h;rw[<-x];rfl⟩
  have bd:A6 a c.B 41<|C Y R.2.1:=PB n g 4;have a8:=t 41;have e2:(f==2)=AQ:=keX;have e3:(f==3)=AQ:=by simpa using h3
  have w:=Q.symm.trans<|mi y (L.symm▸s)<|L.symm▸h3;subst w;have i:DT c (R.1,R.2.1+1,R.2.2.1,R.2.2.2) (N+1) q (AB a ⟨c.B,41,Ao⟩<|C Y<|(R.2.1:J)+1)/\Dx a (AB a ⟨c.B,41,Ao⟩<|C Y<|(R.2.1:J)+1):=n.ad (R':=(R.1,R.2.1+1,R.2.2.1,R.2.2.2)) g 41 (R.2.1+1) (by rw[show 41=37+4 from Z,Vr g.out];rfl) BQ;have r:=T<|P.trans i.2;have z:=T<|i.1.ai ac
  go_wp2_with fail
  refine CS (FP results146 _ _ _) Z ?_;exact⟨_,q,Z,z,r,GQ.refl _,λ_=>rfl,λd' h=>Bs⟩
 have bc:A6 a c.B 40<|C Y R.1:=PB n g 3;have a7:=t 40;have w:=Q.symm.trans (me<|by grind [AL]);subst w;have i:DT c (R.1+1,R.2) (N+1) q (AB a ⟨c.B,40,Ao⟩<|C Y<|(R.1:J)+1)/\Dx a (AB a ⟨c.B,40,Ao⟩<|C Y<|(R.1:J)+1):=n.ad (R':=(R.1+1,R.2)) g 40 (R.1+1) (by rw[show 40=37+3 from Z,Vr g.out];rfl) BQ;have cS:=af.out _ Z i.1<|P.trans i.2;have r:=T<|P.trans i.2;generalize Jc (D6 c.v k) p d (R.1+1,R.2)=sh at *
 go_wp2_with(first
  |(go_at_call 180;refine cS.mono ?_;rintro e w4 ⟨v4,a1,rfl,ax,av,aw,al⟩;obtain⟨t4,y4,rfl⟩:=al.iface;have z:=T ax;have ap:=T aw;have W:=T<|r.trans av;have am:AL<|CA (k+1) w4 (λj=>F j\/(O (U ab)<=j/\j<O (U w4))) (Ai t4 y4) sh.1:=al.same (λj b=>b.imp id λh=>⟨CE r.size h.1,h.2⟩) λ_ _=>rfl))
 refine CS (FP results146 _ _ _) Z ?_;exact⟨_,a1,Z,z,W,ap,λh=>BB,λd' h=>by have x:=Fl h;rw[<-x];exact am⟩
def qpn{c:Rc}(ok:IY c)(b:SJ c k):SJ c<|k+1:=λW F x d p f R N a=>qsU (D:=λ_=>True) ok k p (λ_ W F x d f R N a _=>q0D ok b W F x d f R N a) W F x d f R N a trivial
def mj{c:Rc}(ok:IY c):∀k,SJ c k
 |0=>λ_ _ _ _ _ _ _ _ _ _ _ _ h=>h.elim
 |k+1=>qpn ok<|mj ok k
def qsW(l c:I):Ar As 147 #[G a l c,C Y 0] W λe b=>∃g d,e=Ak (G (Aa g) 0 d)/\A0 W b:=by go_enter func147,ntmps147;go_wp2;go_ret;exact⟨_,_,Z,Cm⟩
theorem qtC{M:I}(n:I)(l:n<=65536)(f:A6 W M 0<|C Am b.toNat)(k:M<O (U W)):Ar As 147 #[G (Aa M) 1 1,C Y n] W λe a=>∃g c,e=Ak (G (Aa g) n c)/\E2 a (Aa g) (AV n b)/\A0 W a:=by
 by_cases h:n=0
 .subst h;refine Ce (qsW 1 1) ?_;rintro e a ⟨g,c,rfl,d⟩;exact⟨g,c,Z,⟨λi j=>by simp at j,Ba⟩,d⟩
 refine Ce (qtB E l f k) ?_;grind
def L2(fm:AI)(bs:A1):AJ AI->Option A1
 |[]=>Ao
 |x::B=>if(At bs:AI)<=x then An (bs++AV (x.toNat-At bs) (_root_.UInt8.ofNat<|Er fm))else L2 fm bs B
def J0(fm:AI)(bs:A1)(B:AJ AI):Option A1:=if At B=0 then An bs else L2 fm bs B
theorem mu(fm:J):(_root_.UInt8.ofNat<|Er fm).toNat=Er fm:=by unfold Er;split<;>rfl
theorem q2J(h:E2 W (Aa g)<|AV n b):∀(j:I) (u:Aq),((AV n b).map CP)[j]?=H u->AC W ((⟨g,0,Ao⟩:Addr).add j)=H u:=by intro j u f;have d:j<K (AV n b):=B9;obtain⟨i,off,a,_,c⟩:=h.aq j d;injection a with a;injection a with a e2 _;subst a;subst e2;have e:(⟨g,0,Ao⟩:Addr).add j=⟨g,j,Ao⟩:=C2;rw[e];rw[Gg]at c;rw[c,<-f,L9,D7 d];rfl
def q5O(n:I)(b:AU):K ((AV n b).map CP)=n*1:=Ba
def q79(n:I)(b:AU):∀u∈(AV n b).map CP,u.oneCell'=AP:=λu a=>by obtain⟨c,_,rfl⟩:=Kx.1 a;rfl
theorem q5x(h:Cn W base v bs)(c:W'.ownsRow base 5 1 v' (K bs+n)<|bs.map CP++(AV n b).map CP)(a:W.grownBy W'<|Ax v):Cn W' base v' (bs++AV n b)/\Below base W W':=by refine⟨⟨B9,CE h.2.1 a.size,?_⟩,GX (Cu base W) h.1 a h.2.1⟩;rcases c.2 with⟨e,_⟩|⟨g,d,f,e,_⟩<;>grind
def mw(W:Ap)(base:AH)(r:Option A1)(e:Ending)(W':Ap):Prop :=
 (∃v',e=Ak (Af #[v',Ah r.isSome])/\(r=Ao->v'=Ac Ao 0 0)/\∀l,r=An l->Cn W' base v' l)/\Below base W W'
def mx(fm:AI)(B:AJ AI):Prop:=∀(W:Ap) (base:AH) (v:Aq) (bs:A1) (ba:A4) (bc:AH),Cn W base v bs->G4 W ba B->At bs<=999999999->Ar As 108 #[Ab Al fm,v,Ac ba (At B) bc] W (mw W base<|J0 fm bs B)
theorem q0v(bc:I){h:Cn W base v bs}(hB:G4 W ba B)(aq:K B<=8)(ag:∀i (h:i<K B),B[i]<=65536)(hl:K bs<=999999999):Ar As 108 #[C Y fm,v,G ba (K B) bc] W<|mw W base<|J0 fm bs B:=by
 obtain⟨i0,hi,aj,ak,al⟩:=DL Tryz.infoU8;obtain⟨ia,d,rfl,ap⟩:=QH h;have w:=T h;have z:=T h.2.1;have HI:=T hB;have HX:=T ag;have s:=λae=>lV fm ae;obtain⟨a,V⟩:∃a:AU,D<|_root_.UInt8.ofNat (Er fm)=a:=⟨_,rfl⟩
 have aa:D<|(Er fm:J)=(a.toNat:J):=by grind [D,mu]
 rw[AE aa]at s;by_cases h0:K B=0
 .have m:D<|J0 fm bs B=H bs:=by grind [D,J0]
  rw[h0];go_enter func108,ntmps108;go_wp2;refine CS (FP results108 _ _ _) Z ?_;rw[AE m];exact⟨⟨_,Z,λh=>BB,λl h=>by have t:=Fl h;rw[<-t];exact w⟩,Cu _ _⟩
 obtain⟨r,c⟩:=CC<|L2 fm bs B;have m:D<|J0 fm bs B=r:=by grind [J0]
 rw[AE m];have an:((K B:J)==0)=AQ:=B9;go_enter func108,ntmps108
 go_wp2_with fail
 go_loopg[17] (K B) (λg am wr=>∃k:I,am=C Y k/\D (k+g=K B)/\W=wr/\D (L2 fm bs (B.drop k)=r))
 grind [D];obtain⟨k,rfl,u,rfl,c⟩:=hrel;obtain _|g:=gk
 .have ah:¬(k:J)<K B:=AY<|AE u;have b:r=Ao:=by have:=AE c;rw[R7<|AY<|AE u]at this;exact this.symm
  subst b;go_wp2;refine CS (FP results108 _ _ _) Z ?_;exact⟨⟨_,Z,λ_=>rfl,λl h=>Bs⟩,Cu _ _⟩
 have f:k<K B:=AY<|AE u;have ah:(k:J)<K B:=E;obtain⟨b0,off,rfl,ao,N⟩:=HI.aq k f;have hc:=N k f;have hx:=HX.out k f;have b:=AE c;rw[K7 f,L2]at b;clear N;generalize B[k]=x at *;by_cases P:(K bs:J)<=x
 .rw[Cp P,AE V]at b;obtain⟨n,hn⟩:∃n:I,x=(K bs:J)+n:=⟨(x-K bs).toNat,E⟩
  subst hn;have L:((K bs:J)+n).toNat-K bs=n:=E;rw[L]at b;have ad:=T b.symm;clear b L;have j:D<|A0 W<|Az W<|Aj #[C Am (a.toNat:J)] 5:=Cm;have F:=qtC (W:=(Az W<|Aj #[C Am (a.toNat:J)] 5)) (M:=O<|U W) n E (Cc (Cj W) 0) Ba;have A:Ar As 147 #[G (Aa<|O<|U W) 1 1,C Y<|(K bs:J)+n-K bs] (Az W<|Aj #[C Am (a.toNat:J)] 5) λe q=>∃g d,e=Ak (G (Aa g) n d)/\D (E2 q (Aa g)<|AV n a)/\D (A0 W q):=by rw[show(K bs:J)+n-K bs=n by omega];refine Ce F ?_;rintro e q ⟨g,d,rfl,h1,h2⟩;exact⟨g,d,Z,h1,Cs j<|CG h2 j.size⟩
  clear F j
  go_wp2_with(first
   |(go_at_call 89;refine Ce (s _) ?_;clear s;rintro e w2 ⟨rfl,rfl⟩)
   |(go_at_call 147;refine Ce A ?_;clear A;rintro e w3 ⟨g3,af,rfl,S,y⟩;have p:=T<|MM w y;have ac:=T<|q2J S;have ab:=T<|q5O n a)
   |(at_builtin;refine K8 _ Z _ _ 50 Z base 5 i0 (C Am 0) 1 1 underlying50 hi aj ak al Z B8 _ _ _ Z p.1 ⟨g3,0,Ao⟩ n af ((AV n a).map CP) Z ab ac (q79 n a) Bc E p.2.1 ?_;intro v' w5 R Q ai;clear ai;have o:=T<|q5x p R Q;clear R Q;obtain⟨a5,n5,c5,rfl⟩:=o.1.2.2))
  refine CS (FP results108 _ _ _) Z ?_;rw[AE ad];exact⟨⟨_,Z,λh=>BB,λl h=>by have t:=Fl h;rw[<-t];exact o.1⟩,Cs (CG y z) o.2⟩
 rw[Cl P]at b;have HN:=T b;clear b c
 go_wp2_with fail
 go_roundg g;exact⟨k+1,Bb,B9,Z,HN⟩;omega
def q2x(c:K B<=8)(b:∀i (h:i<K B),B[i]<=65536):mx fm B:=λW base v bs ba a h d e=>q0v (W:=W) (base:=base) (v:=v) (bs:=bs) (ba:=ba) a (B:=B) (h:=h) d c b e
structure Gt where
 a:AI
 out:AI
 b:AI
 bytes:AH
 e:A3
 d:Aq
def Di(g:Gt)(fed:Aq)(cl:AK):A3:=#[Ab Al g.a,Ab Al g.out,Ab Al g.b,Ab Al g.bytes]++g.e++#[g.d,fed,Ah cl]
theorem QR{g:Gt}(j:I)(h:j<4):(Di g fed cl)[j]?=#[Value.int Y g.a,C Y g.out,C Y g.b,C Y g.bytes][j]?:=by grind [Di]
def LJ{g:Gt}(a:g.e.size=40)(j:I):(Di g fed cl)[44+j]?=#[g.d,fed,Ah cl][j]?:=by unfold Di;rw[Nv kf3];simp[a]
theorem qzE{g:Gt}(d:g.e.size=40)(c b:Aq)(a:AK):Ay (Di g c a) 45 b=Di g b a:=by unfold Di;simp_all
theorem quR{news:A1}(h:Cn W base v acc)(hb:E2 W ia news)(A:ia=Ao->c=0)(hl:K acc+K news<=999999999):∃b d,(Builtin.append_ #[50,50] 50 #[v,G ia (K news) c]).run As W=.ok b d/\Cn d base b (acc++news)/\W.grownBy d (Ax v)/\(Ax b=Ax v\/Ax b=H (O<|U W)):=by
 obtain⟨o,m,B,F,L⟩:=DL Tryz.infoU8;obtain _|k:=ia
 .have y:news=[]:=by
   obtain _|⟨a,t⟩:=news
   .rfl
   obtain⟨g,off,e,_⟩:=hb.aq 0 Ba;cases e
  subst y;rw[A rfl];have f:=aa (P:=As) (w:=W) base 50 50 5 o 1 underlying50 m v (K acc) _ h.1;refine⟨v,W,f,Bu,⟨Z,Z,Z,Cr _,λ_ _ _=>rfl⟩,AF Z⟩
 have z:∀j u,(news.map CP)[j]?=H u->AC W (k.add j)=H u:=by intro j u i;have n:j<K news:=B9;obtain⟨g,off,p,_,r⟩:=hb.aq j n;have q:=Fl p;subst q;have e:(⟨g,off,Ao⟩:Addr).add j=⟨g,off+j,Ao⟩:=C2;rw[e,r,<-i,L9,D7 n];rfl
 obtain⟨b,N,f,s,l,_,x⟩:=aw (P:=As) W base 50 50 5 o (C Am 0) 1 1 underlying50 m B F L rfl B8 v (K acc) _ h.1 k (K news) c (news.map CP) Ba z (λu i=>by obtain⟨c,_,rfl⟩:=Kx.1 i;rfl) Bc E h.2.1;refine⟨b,N,f,⟨B9,CE h.2.1 l.size,?_⟩,l,x⟩;rcases s.2 with⟨e,_⟩|⟨g,Q,R,e,_⟩<;>grind
def q6b(n:I)(h:m<=cap):(Instr.sliceAt 50 (G ia n cap) Ao (H<|C Y m) Ao).run As V=.ok (G ia m cap) V:=by
 have e:∀a:Addr,a.add 0=a:=λa=>by simp[Addr.add]
 have b:(m:J)<=cap:=E;rw[VX (P:=As) V 50 _ _ _ _ B6];cases ia<;>simp[Instr.slice,Mv underlying50,Instr.sliceBounds,Wa,b,e]
def qme{w':X}{a:Act}{K:Act->X->Prop}(s x:Operand)(b:o.op=.call {callee:=.builtin .append,args:=#[s,x],argTypes:=#[t,t]})(d:a.eval s=v)(hx:a.eval x=u)(c:(Builtin.append_ #[t,t] o.type #[v,u]).run P w=.ok v' w')(h:K (a.put o.dst v') w'):o.wp P a w K Q:=by unfold Oper.wp execOp;simp only[b,resolve,invoke,builtin,GU,Gf,G0,OF,I8,Mw,d,hx,c];exact h
def q6o(W:Ap)(L base:AH)(g:Gt)(fed:Aq)(l:A1)(e:Ending)(W':Ap):Prop :=
 ∃fa fn fc,e=Ak (Af #[])/\Cn W' base (Ac fa fn fc) l/\W'.heap[L]?=An (Aj (Di g (Ac fa fn fc) AQ) 135)/\(W'.os=W.os/\W'.tape=W.tape/\W'.output=W.output)/\Au (Av W)<=Au (Av W')/\(∀k,k<Au (Av W)->k≠L->An k≠Ax fed->W'.heap[k]?=W.heap[k]?)/\∀j,Ax (AX fa fn fc)=An j->Ax fed=An j\/Au (Av W)<=j
theorem q0C{g:Gt}(A:g.e.size=40)(s:W.heap[L]?=H (M (Di g fed AQ) 135))(l:Cn W base fed acc)(hL:L<base)(hb:E2 W ia bs)(ac:ia=Ao->cap=0)(ax:K bs<=cap)(aw:g.bytes<=4096)(ar:K acc<=g.bytes+1):Ar As 74 #[Ad<|H ⟨L,0,Ao⟩,G ia (K bs) cap] W<|q6o W L base g fed<|acc++bs.take (g.bytes+1-K acc):=by
 obtain⟨d,f,rfl,an⟩:=QH l;have F:=T s;have P:=T l;have h:AC W ⟨L,3,Ao⟩=H (C Y g.bytes):=(Cc s 3).trans<|QR 3 B8;have i:AC W ⟨L,45,Ao⟩=H (G d (K acc) f):=(Cc s 45).trans<|LJ A 1;obtain⟨b,R⟩:∃b,D<|K acc+b=g.bytes+1:=⟨g.bytes+1-K acc,Bg⟩
 have ad:g.bytes+1-K acc=b:=AY<|AE R;rw[ad];obtain⟨m,N⟩:=CC<|min (K bs) b;have HT:D<|K (bs.take b)=m:=B9;have av:=hb.len;have B:D<|E2 W ia<|bs.take b:=⟨λae hi=>by have ao:ae<K bs:=B9;obtain⟨g0,off,e1,x,e3⟩:=hb.aq ae ao;grind,B9⟩
 have ap:=T hL;have v:=T A;have ai:=T ac;have ay:m<=K bs:=AY<|AE N;have a1:b<=4097:=AY<|AE R;have au:K acc<=4097:=E;clear s l an hL hb ac A ad;have a:(λc:X=>c.cell? ⟨L,3,Ao⟩=H (C Y g.bytes)/\c.cell? ⟨L,45,Ao⟩=H (G d (K acc) f)) {W with drawn:=W.drawn+1}:=⟨h,i⟩
 go_enter func74,ntmps74
 go_wp2_with fail
 refine Ei (S:=λc=>c.cell? ⟨L,3,Ao⟩=H (C Y g.bytes)/\c.cell? ⟨L,45,Ao⟩=H (G d (K acc) f)) B6 ?_;refine Cb 0 5 (Ad<|H ⟨L,0,Ao⟩) a <| Cb 1 6 (Ad<|H ⟨L,0,Ao⟩) a <| Cb 2 7 (Ad<|H ⟨L,2,Ao⟩) a <| Cb 3 8 (Ad<|H ⟨L,3,Ao⟩) a <| Ch 4 9 (C Y g.bytes) Z (λc p=>by have z1:=p.1;go_simp) a <| Ch 5 10 (C Y<|(g.bytes:J)+1) rfl (λc p=>by go_simp;grind [IntKind.wrap_i64]) a <| Cb 6 11 (Ad<|H ⟨L,0,Ao⟩) a <| Cb 7 12 (Ad<|H ⟨L,0,Ao⟩) a <| Cb 8 13 (Ad<|H ⟨L,45,Ao⟩) a <| Ch 9 14 (G d (K acc) f) rfl (λc p=>by have z1:=p.2;go_simp) a <| Cb 10 15 (C Y<|K acc) a <| Ch 11 16 (C Y b) rfl (λc p=>by go_simp;grind [D,IntKind.wrap_i64]) a <| Cb 12 4 (C Y b) a <| CK ?_;go_simp;clear a
 go_wp2_with fail
 refine Ei (S:=λ_=>True) B6 ?_;have t:D<|({World.drew W with drawn:=(World.drew W).drawn+1}:X).heap[L]?=H (M (Di g (G d (K acc) f) AQ) 135):=F;have Q:D<|Cn {World.drew W with drawn:=(World.drew W).drawn+1} base (G d (K acc) f) acc:=P;have ah:D<|E2 {World.drew W with drawn:=(World.drew W).drawn+1} ia<|bs.take b:=B.ac (Cu _ _).drew.drew;have o:D<|A0 W {World.drew W with drawn:=(World.drew W).drawn+1}:=(Cu _ _).drew.drew;clear F P B h i;generalize({World.drew W with drawn:=(World.drew W).drawn+1}:X)=W2 at *;have a:=trivial;have a4:AC W2 ⟨L,45,Ao⟩=H (G d (K acc) f):=(Cc t 45).trans<|LJ v 1;obtain⟨v',w,hr,z,ab,k⟩:=quR Q ah ai B9;rw[AE HT]at hr;have aj:=T z;have q:=T ab;have ag:=T k;obtain⟨j,n5,c5,rfl⟩:=z.2.2;have aa:H L≠Ax (AX d (K acc) f):=λe=>by have r:=DK Q.1 e.symm;grind [D]
 have u:=T<|(q.block L (Cd t) aa).trans t;have a3:AC w ⟨L,45,Ao⟩=H (G d (K acc) f):=(Cc u 45).trans<|LJ v 1;have aq:=Dy w L 45 _ _ u;clear z ab aa k;refine Cb 0 17 (Ad<|H ⟨L,0,Ao⟩) a <| Cb 1 18 (Ad<|H ⟨L,0,Ao⟩) a <| Cb 2 19 (Ad<|H ⟨L,0,Ao⟩) a <| Cb 3 20 (Ad<|H ⟨L,45,Ao⟩) a <| Cb 5 22 (G ia (K bs) cap) a <| Cb 6 23 (G ia (K bs) cap) a <| Cb 7 24 (C Y<|K bs) a <| Cb 8 25 (C Y b) a <| Ch 9 26 (C Y m) Z (λc p=>?y9) a ?_
 case y9 =>
  have az:min (K bs:J) (b:J)=m:=AY<|AE N;go_simp
 refine Ch 10 27 (G ia m cap) Z (λc p=>Zj (.tmp 22) (H<|.tmp 26) Z (L:=Ao) B6 B6 B6<|q6b (K bs) E) a <| CH 4 λV n=>?_;go_simp;refine n.out _ _ trivial λ_=>?_;clear n;refine CH 11 λV n=>?_;refine Ks B6 ?_;refine qme (.tmp 21) (.tmp 27) Z B6 B6 hr ?_;refine n.out _ _ trivial λ_=>?_;clear n;refine Cb 12 29 (Ad<|H ⟨L,0,Ao⟩) trivial <| Cb 13 30 (Ad<|H ⟨L,45,Ao⟩) trivial <| CH 14 λV n=>?_;go_simp;refine n.out _ _ trivial λ_=>?_;clear n;refine CK ?_;go_simp
 go_wp2_with fail
 go_end0;refine⟨j,n5,c5,Z,?_,?_,⟨q.os.trans o.os,q.tape.trans o.tape,q.output.trans o.output⟩,?_,λaf hk r y=>?_,λa2 hj=>?_⟩
 .have l:=AE aj;have a0:∀g,Ax (AX j n5 c5)=H g->g≠L:=λg e x=>by have r:=DK l.1 e;grind [D]
  refine⟨⟨l.1.1,?_⟩,by have:=l.2.1;simp_all,l.2.2⟩;rcases l.1.2 with am|⟨g1,ak,al,e1,x,e3,e4⟩
  .exact AF am
  exact AG ⟨g1,ak,al,e1,x,(CY _ _ _ _<|by grind [D]).trans e3,e4⟩
 .rw[DX w _ _ _ _ _ u,qzE v.out]
 .have r:=q.size;have y:=o.size;simp[World.setCell];omega
 .exact(CY _ _ _ _ kex).trans<|(q.block af (CQ hk o.size) y).trans<|o.block af hk
 have r:=o.size;have y:=AE ag;grind
theorem q6F{g:Gt}(a:A7 V L (Di g fed cl) 135):∀(j:I) (u:Aq),#[Value.int Y g.b,C Y g.bytes][j]?=H u->A6 V L (2+j) u:=by intro j u b;have c:j<2:=Cd b;refine(Cc a<|2+j).trans<|(QR (2+j) E).trans ?_;grind
def quC{p:I}{g:Gt}(R:g.e.size=40)(P:A7 V p #[A8 L] 44)(n:A7 V L (Di g (G fa fn fc) cl) 135)(z:∀l,A0 V l->Ar As 43 #[C Y g.a,Ag #[C Y g.b,C Y g.bytes],G fa fn fc] l (KJ k l r)):Ar As 106 #[A8 p] V<|KJ k V r:=by
 have b:(λa:X=>A6 a p 0 (A8 L)/\A6 a L 0 (C Y g.a)/\(∀(j:I) (u:Aq),#[Value.int Y g.b,C Y g.bytes][j]?=H u->A6 a L (2+j) u)/\A6 a L 45 (G fa fn fc)) {V with drawn:=V.drawn+1}:=⟨Cc P 0,(Cc n 0).trans<|QR 0 B8,q6F n,(Cc n 45).trans<|LJ R 1⟩
 have v:=T z;have N:(prog.info? 94).map (·.size)=H (#[Value.int Y g.b,C Y g.bytes]).size:=B6;go_enter func106,ntmps106
 go_wp2_with fail
 refine Ei (S:=λa=>A6 a p 0 (A8 L)/\A6 a L 0 (C Y g.a)/\(∀(j:I) (u:Aq),#[Value.int Y g.b,C Y g.bytes][j]?=H u->A6 a L (2+j) u)/\A6 a L 45 (G fa fn fc)) B6 ?_;have f:D<|A0 V {V with drawn:=V.drawn+1}:=(Cu _ _).drew;generalize({V with drawn:=V.drawn+1}:X)=V1 at *;refine Ch 0 2 (A8 L) Z (λa c=>kff) b <| Cb 1 3 (A8 L) b <| Cb 2 4 (A8 L) b <| Ch 3 5 (C Y g.a) Z (λa c=>by have i:=c.2.1;go_simp) b <| Ch 4 6 (A8 L) rfl (λa c=>kff) b <| Cb 5 7 (A8 L) b <| Cb 6 8 (A9 L 2) b <| Ch 7 9 (Ag #[C Y g.b,C Y g.bytes]) rfl (λa c=>by exact Oe (.tmp 8) rfl rfl c.2.2.1 underlying94 rfl N) b <| Ch 8 10 (A8 L) rfl (λa c=>kff) b <| Cb 9 11 (A8 L) b <| Cb 10 12 (A9 L 45) b <| Ch 11 13 (G fa fn fc) rfl (λa c=>by have i:=c.2.2.2;go_simp) b <| CH 12 λaa B=>?_;go_simp;refine(v V1 f).mono ?_;rintro e o ⟨h,hF⟩;rcases r with⟨A,pl⟩|d
 .obtain rfl:=(show D4 A pl e from hF)
  exact⟨Z,f.trans<|h.mono f.size,Z⟩
 obtain⟨t,y,rfl,F⟩:=hF;simp only[];have Q:=Fk b.1;have m:=Fk b.2.1;have q:(λa:X=>A6 a p 0 (A8 L)/\A6 a L 0 (C Y g.a)/\(∀(j:I) (u:Aq),#[Value.int Y g.b,C Y g.bytes][j]?=H u->A6 a L (2+j) u)/\A6 a L 45 (G fa fn fc)) o:=⟨(h.cell (p:=⟨p,0,Ao⟩) Q).trans b.1,(h.cell (p:=⟨L,0,Ao⟩) m).trans b.2.1,λj u W=>(h.cell (p:=⟨L,2+j,Ao⟩) m).trans<|b.2.2.1 j u W,(h.cell (p:=⟨L,45,Ao⟩) m).trans b.2.2.2⟩
 have w:=T<|f.trans<|h.mono f.size;have x:D<|CA k o (λj=>O (U V)<=j/\j<O (U o)) (Ai t y) d:=F.same (λj s=>⟨CE f.size s.1,s.2⟩) λ_ _=>rfl;refine B.out _ _ q λ_=>?_;refine Cb 13 1 (Ai t y) q <| CK ?_;go_simp
 go_wp2_with fail
 go_ret;exact⟨w,t,y,Z,x⟩
def mz{g:Gt}(w:g.e.size=40)(m:A7 W L (Di g (G fa fn fc) cl) 135)(q:∀b,A0 W b->Ar As 43 #[C Y g.a,Ag #[C Y g.b,C Y g.bytes],G fa fn fc] b (KJ k b r)):Ar As 75 #[A8 L] W<|Ok k W r:=by
 have a:D<|A0 W<|Az W<|M #[A8 L] 44:=Cm;have p:=qoJ (Az W<|M #[A8 L] 44) #[A8<|O<|U W] (by have f:Below (O (U W)+1) (Az W<|M #[A8 L] 44)<|Az (Az (Az W<|M #[A8 L] 44)<|M #[C Y 0] 54)<|M #[C Y 0] 3:=((Cu _ _).alloc Ba _).alloc Ba _;have s:=Cd m;refine quC w ((f.block _ E).trans<|Cj W) ((f.block L E).trans<|(a.block L s).trans m) λb u=>q b ?_;exact(a.trans<|f.mono E).trans<|u.mono B7);have l:=p;rcases r with⟨x,z⟩|d
 .go_enter func75,ntmps75
  go_wp2_with(first
   |(go_at_call 41;refine l.mono ?_;rintro e i ⟨h,hF⟩;obtain rfl:=hF;have c:=T<|a.trans<|h.mono a.size))
  go_ret3
  exact⟨c,Z⟩
 go_enter func75,ntmps75
 go_wp2_with(first
  |(go_at_call 41;refine l.mono ?_;rintro e i ⟨h,hF⟩;obtain⟨t,y,rfl,v⟩:=hF;have c:=T<|a.trans<|h.mono a.size;have o:D<|CA k i (λj=>O (U W)<=j/\j<O (U i)) (Ai t y) d:=v.same (λj n=>⟨CE a.size n.1,n.2⟩) λ_ _=>rfl))
 go_ret3
 exact⟨c,t,y,Z,o⟩
def PE(r:AS (AI×AI)<|AM Unit)(n:AH):AI:=match r with
 |.ok _=>0
 |.error (en,pl)=>if pl=n then 0 else en
def mA(W:Ap)(L base:AH)(g:Gt)(fed:Aq)(l:A1)(en:AI)(e:Ending)(W':Ap):Prop :=
 ∃fa fn fc,e=Ak (Ab Al en)/\Cn W' base (Ac fa fn fc) l/\W'.heap[L]?=An (Aj (Di g (Ac fa fn fc) AQ) 135)/\(W'.os=W.os/\W'.tape=W.tape/\W'.output=W.output)/\Au (Av W)<=Au (Av W')/\(∀k,k<Au (Av W)->k≠L->An k≠Ax fed->W'.heap[k]?=W.heap[k]?)/\∀j,Ax (AX fa fn fc)=An j->Ax fed=An j\/Au (Av W)<=j
def q0G(k:I){g:Gt}(s:g.e.size=40)(l:A1)(hl:l=acc++bs.take (g.bytes+1-K acc))(z:A7 W L (Di g fed AQ) 135)(F:Cn W base fed acc)(hL:L<base)(hb:E2 W ia bs)(b:ia=Ao->cap=0)(ah:K bs<=cap)(ag:g.bytes<=4096)(ad:K acc<=g.bytes+1)(ae:∀f o,r=.error (f,o)->f≠0)(N:∀n i m,(∀j,j<L->n.heap[j]?=W.heap[j]?)->E2 n i l->Ar As 43 #[C Y g.a,Ag #[C Y g.b,C Y g.bytes],G i (K l) m] n (KJ k n r)):Ar As 36 #[A8 L,G ia (K bs) cap] W<|mA W L base g fed l<|PE r<|K l:=by
 have A:=q0C s z F hL hb b ah ag ad;rw[<-hl]at A;have aj:A6 W L 46<|Ah AQ:=Ca (Cc z 46)<|LJ s 2;have c:D (∀j,j<L->H j≠Ax fed):=λj t e=>AY<|DK F.1 e.symm;have am:=Cd z;have ac:Ar As 74 #[A8 L,G ia (K bs) cap] W λe u=>∃i m,e=Ak (Af #[])/\D (∀p,A0 u p->(∀f,mA W L base g fed l f (Ak<|C Y f) p)/\A6 p L 45 (G i (K l) m))/\Ar As 75 #[A8 L] u (Ok k u r):=Ce A (by rintro e u ⟨i,fn,m,rfl,Q,q,B,R,S,h6⟩;obtain⟨ak,al,v,af⟩:=QH Q;injection v with v P w;subst v;subst P;subst w;refine⟨i,m,Z,λp h=>⟨λf=>⟨i,_,m,Z,MM Q h,Ca (Co h L<|Cd q) q,⟨Ca h.os B.1,Ca h.tape B.2.1,Ca h.output B.2.2⟩,CE R h.size,λj a aa ab=>Ca (Co h j<|CQ a R)<|S j a aa ab,h6⟩,Ca (Cc (Ca (Co h L<|Cd q) q) 45)<|LJ s 1⟩,mz s q λn V=>N n i m (λj t=>?_)<|af.ac V⟩;exact Ca (Co V j E)<|S j E E<|c j t);clear A N z F hb b s hl;cases r
 case' error x =>
  obtain⟨f,o⟩:=x;have y:=ae f o Z;have v:(f==0)=AQ:=kfk;have P:(f != 0)=AP:=kfk;cases w:(o==(K l:J))
  case' false=>rw[show PE (.error (f,o)) (K l)=f from Cl keE]
  case' true =>
   obtain rfl:o=K l:=keE;rw[show PE (.error (f,(K l:J))) (K l)=0 from Cp rfl]
 case' ok d=>rw[show PE (.ok d) (K l)=0 from rfl]
 all_goals
  go_enter func36,ntmps36
  go_wp2_with(first
   |(go_at_call 74;refine Ce ac ?_;rintro e w3 ⟨i,m,rfl,H1,cR⟩)
   |(go_at_call 75;refine Ce cR ?_;rintro e p ⟨h,hF⟩;(first|obtain rfl:=hF|obtain⟨an,ao,rfl,_⟩:=hF);obtain⟨hz,ai⟩:=H1.out p h;have HZ:=T hz))
  go_ret;exact HZ _
def qpu(W:X)(L:I)(g:Gt)(f:g.e.size=40)(c b:Aq)(d:A7 W L (Di g c AP) 135):Ar As 36 #[A8 L,b] W λe a=>e=Ak (C Y 15)/\a=W:=by have h:A6 W L 46<|Ah AP:=Ca (Cc d 46)<|LJ f 2;go_enter func36,ntmps36;go_wp2;go_ret;exact⟨Z,Z⟩
theorem Ol{P:Program}{fn:Func}{p u u2 u3:Tmp}{ty:AN}(h:fn.results=#[.tmp u,.cell p ty,.tmp u2,.tmp u3]){tmps:A3}{w:X}{g:I}{t:AN}{cs:A3}{fr:I×I}{d:TypeDesc}(f:tmps.getD p AO=A8 g)(c:w.heap[g]?=H (M cs t fr))(i:P.underlying ty=H d)(b:(match d with|.struct _|.array _ _=>AP|_=>AQ)=AP)(hi:(P.info? ty).map (·.size)=H cs.size){v v2 v3:Aq}(j:tmps.getD u AO=v)(k:tmps.getD u2 AO=v2)(l:tmps.getD u3 AO=v3):(results fn tmps).run P w=.ok (Af #[v,.agg cs,v2,v3]) w:=by have e:(results fn tmps).run P w=((asAddr<|tmps.getD p AO).run P w).andThen λa m=>((loadVar ty a).run P m).andThen λv n=>.ok (Af #[tmps.getD u AO,v,tmps.getD u2 AO,tmps.getD u3 AO]) n:=Bm;subst j;subst k;subst l;rw[e,f];simp only[asAddr,Gf,G0,Jz w g t ty cs fr d c i b hi]
def No:(prog.info? 82).map (·.size)=H (#[Value.int Y 0,C Y 0,C Y 0,C Y 0]).size:=B6
theorem qo7(W:X)(L:I)(g:Gt)(h:g.e.size=40)(d:Aq)(a:A7 W L (Di g d AP) 135):Ar As 38 #[A8 L] W λe c=>e=Ak (Af #[G Ao 0 0,Ag #[C Y 0,C Y 0,C Y 0,C Y 0],C Y 15,C Y 0])/\A0 W c:=by
 have f:=Cd a;have i:(Az W<|M #[C Y 0,C Y 0,C Y 0,C Y 0] 82).cell? ⟨L,46,Ao⟩=H (Ah AP):=Ca (Cc (Ca (CB _ _ _ f) a) 46)<|LJ h 2;have b:D<|(Az W<|M #[C Y 0,C Y 0,C Y 0,C Y 0] 82).heap[O<|U W]?=H (M #[C Y 0,C Y 0,C Y 0,C Y 0] 82):=Cj W;go_enter func38,ntmps38
 go_wp2_with(first
  |(refine D8 Z 82 _ _ Z (O<|U W) #[C Y 0,C Y 0,C Y 0,C Y 0] Z Z 82 _ b No Z Z ?_))
 refine CS (Ol results38 (t:=82) (fr:=(0,0)) Z ?hh underlying82 Z No Z Z Z) Z ⟨Z,?hb⟩<;>grind [D,Cm]
theorem mB{P:Program}{fn:Func}{p u:Tmp}{ty:AN}(h:fn.results=#[.tmp u,.cell p ty]){tmps:A3}{w:X}{g:I}{t:AN}{cs:A3}{fr:I×I}{d:TypeDesc}(f:tmps.getD p AO=A8 g)(c:w.heap[g]?=H (M cs t fr))(i:P.underlying ty=H d)(b:(match d with|.struct _|.array _ _=>AP|_=>AQ)=AP)(hi:(P.info? ty).map (·.size)=H cs.size){v:Aq}(j:tmps.getD u AO=v):(results fn tmps).run P w=.ok (Af #[v,.agg cs]) w:=by have e:(results fn tmps).run P w=((asAddr<|tmps.getD p AO).run P w).andThen λa k=>((loadVar ty a).run P k).andThen λv l=>.ok (Af #[tmps.getD u AO,v]) l:=Bm;subst j;rw[e,f];simp only[asAddr,Gf,G0,Jz w g t ty cs fr d c i b hi]
def Iv(c:Rc):A3:=c.O++#[Ab Al c.v.d,Ab Al c.v.key,A8 c.A]
def CI(R:Cy):A3:=#[Ab Al R.1,Ab Al R.2.1,Ab Al R.2.2.1,Ab Al R.2.2.2]
def K3:A3:=Dp 0 (λ_ _=>AQ)++#[Ab Al 0,Ab Al 0,Ad Ao,Ab Al 0,Ab Al 0,Ab Al 0,Ab Al 0]
def qoN(a:o.op=.alloc 264):(execOp ρ o).run As w=.ok (.value<|A8<|O<|U w) (Az w<|M K3 264):=BL
def qiW{a:Act}(e:o.guard=Ao)(f:o.op=.alloc 264){d:Option Tmp}(c:o.dst=d)(N:I)(b:O (U w)=N)(h:wpList As ops Q rest (a.put d<|A8 N)<|Az w<|M K3 264):wpList As ops Q (o::rest) a w:=by subst b;exact R8 e d c _ _ (qoN f) h
theorem qvR(n:I)(m:I->I->AK)(x y:J)(p:A4):prog.built 264 [(0,.agg<|Dp n m++#[C Y x,C Y y,.pointer p])]=H (Dp n m++#[C Y x,C Y y,.pointer p,C Y 0,C Y 0,C Y 0,C Y 0]):=B6
def q3r{A:A3}(h:A.size=40):(prog.info? 132).map (·.size)=H A.size:=ke1
def q3o{A:A3}(h:A.size=44):(prog.info? 264).map (·.size)=H A.size:=ke1
def Fh{R:Cy}:(prog.info? 82).map (·.size)=H (CI R).size:=B6
theorem qzi(h:CA k V F v d):CA k {V with drawn:=V.drawn+1} F v d:=by have a:∀j,F j->({V with drawn:=V.drawn+1}:X).heap[j]?=V.heap[j]?:=λ_ _=>rfl;grind [CA.same]
def q7Y(c:Rc)(k:AH)(F:AH->Prop)(r:Option (AM Unit)×Cy)(W:Ap)(e:Ending)(V':Ap):Prop :=
 ∃t y,e=Ak (Af #[Ai t y,.agg<|CI r.2])/\Dx W V'/\Below (Au<|Av c.a) c.a V'/\(∀j,j<Au (Av W)->j≠c.A->j≠c.q.d->j≠c.q.b->An j≠c.b->V'.heap[j]?=W.heap[j]?)/\CA k V' (λj=>F j\/(Au (Av W)<=j/\j<Au (Av V'))) (Ai t y) (r.1.getD .nil)
theorem qw3{c:Rc}(ok:IY c)(hO:c.O=Dp c.n c.v.m)(hG:c.G=W)(hB:c.B=O (U W)+2){D:A2->Prop}(bg:Vn D c k [])(bf:D d)(hA:Dv c.a c.A c.q sts (G sa (K sts) sc) nf mn mf W)(hM:KW c.q sts mf)(a6:mn<=N)(a8:K sts<=N+1)(ho:Ax (AX sa (K sts) sc)=c.b)(hs:IZ c sts 0 [])(hF:∀j,F j->j<O (U W))(hd:CA k W F x d)(hc:K (Du k d)<=999999999)(hN:N+D3 k d<=90000):Ar As 107 #[.agg<|Iv c,x] W<|q7Y c k F (D6 c.v k [] d (0,0,0,0)) W:=by
 have a7:EK c (0,0,0,0)=Dp c.n c.v.m++#[C Y c.v.d,C Y c.v.key,A8 c.A,C Y 0,C Y 0,C Y 0,C Y 0]:=by grind [EK]
 have ak:AL<|prog.built 264 [(0,.agg<|Iv c)]=H (EK c (0,0,0,0)):=by grind [AL,Iv,qvR]
 have ap:AL<|(Iv c).size=40:=by grind [AL,Iv,Dc]
 have aq:AL<|(EK c (0,0,0,0)).size=44:=lz ok;have ar:AL<|K3.size=(EK c (0,0,0,0)).size:=by grind [lz,K3,Dc]
 have au:AL ((EK c (0,0,0,0)).all (·.oneCell')=AP):=by show _=_;rw[a7,SS,Hm];simp[Value.oneCell']
 have ac:AL (∀V,A0 W V->A7 V (O (U W)+2) (EK c (0,0,0,0)) 264->Ar As 146 #[A8<|O (U W)+2,x,C Y 0] V (Vm c k F (D6 c.v k [] d (0,0,0,0)) (N+D3 k d) sts V)):=λV L h2=>by have:=bg V F x d 0 (0,0,0,0) N sts bf ⟨by rw[hB];exact h2,⟨sa,sc,nf,mn,mf,hA.next L,hM,a6,a8,AF ho⟩,⟨by rw[hG];exact L.size,λj a _ _ _ _=>by rw[hG];exact L.block j<|hG▸a⟩,Ex _⟩ hs (λj p=>CQ (hF j p) L.size) (hd.same (λ_ h=>h) λj p=>L.block j<|hF j p) hc hN;grind
 have a0:∀V aj,CA k V aj (Ai 268<|Ag #[]) .nil:=λV aj=>by
  obtain _|k:=k
  .exact hd.elim
  rfl
 obtain⟨t,bk,rfl⟩:=hd.iface;have HF:=T hF;have bh:O (U c.a)<=O (U W)+1:=VG hA.ac.size;clear hA hM a6 a8 ho hs hF hd hc hN a7;obtain⟨⟨o,R⟩,hr⟩:∃bj,D6 c.v k [] d (0,0,0,0)=bj:=⟨_,rfl⟩
 rw[hr]at ac ⊢;clear hr;have ay:AL<|(Az (Az W<|M (Iv c) 132)<|M #[C Y 0,C Y 0,C Y 0,C Y 0] 82).heap[O<|U W]?=H (M (Iv c) 132):=(CB _ _ _ Ba).trans<|Cj W;have ad:AL<|(Az (Az (Az W<|M (Iv c) 132)<|M #[C Y 0,C Y 0,C Y 0,C Y 0] 82)<|M K3 264).heap[O (U W)+2]?=H (M K3 264):=by grind [AL,Cj,World.size_alloc]
 have al:AL<|A0 W<|Az (Az (Az W<|M (Iv c) 132)<|M #[C Y 0,C Y 0,C Y 0,C Y 0] 82)<|M K3 264:=((Cm).alloc Ba _).alloc B7 _;have az:AL<|(Az (Az (Az W<|M (Iv c) 132)<|M #[C Y 0,C Y 0,C Y 0,C Y 0] 82)<|M K3 264).heap[O (U W)+1]?=H (M (CI (0,0,0,0)) 82):=by have h:=Cj (Az W<|M (Iv c) 132) (o:=(M #[C Y 0,C Y 0,C Y 0,C Y 0] 82));show _=_;rw[CL]at h;exact(CB _ _ _ Ba).trans h
 go_enter func107,ntmps107
 go_wp2_with(first
  |(refine qiW Z Z Z (O (U W)+2) ?hN ?_;case hN=>grind [World.size_alloc])
  |(refine CO Z 132 _ Z (O<|U W) Z _ _ _ _ ay underlying132 Z (q3r ap) ?_)
  |(refine D8 Z 264 _ _ Z (O (U W)+2) (EK c (0,0,0,0)) Z Z 264 K3 ad (q3o aq) ar au ?_)
  |(refine Jh Z Z Z ?hl ak ?_;case hl=>simp[go_sem]))
 have aw:AL<|A0 W<|(Az (Az (Az W<|M (Iv c) 132)<|M #[C Y 0,C Y 0,C Y 0,C Y 0] 82)<|M K3 264).setRow (O (U W)+2)<|EK c (0,0,0,0):=Dq al E;have bb:AL<|((Az (Az (Az W<|M (Iv c) 132)<|M #[C Y 0,C Y 0,C Y 0,C Y 0] 82)<|M K3 264).setRow (O (U W)+2)<|EK c (0,0,0,0)).heap[O (U W)+2]?=H (M (EK c (0,0,0,0)) 264):=CR _ _ _ _ _ _ ad;have bc:AL<|((Az (Az (Az W<|M (Iv c) 132)<|M #[C Y 0,C Y 0,C Y 0,C Y 0] 82)<|M K3 264).setRow (O (U W)+2)<|EK c (0,0,0,0)).heap[O (U W)+1]?=H (M (CI (0,0,0,0)) 82):=sx E az;have bd:AL<|O (U W)+3<=O (U<|(Az (Az (Az W<|M (Iv c) 132)<|M #[C Y 0,C Y 0,C Y 0,C Y 0] 82)<|M K3 264).setRow (O (U W)+2)<|EK c (0,0,0,0)):=kfV;generalize(Az (Az (Az W<|M (Iv c) 132)<|M #[C Y 0,C Y 0,C Y 0,C Y 0] 82)<|M K3 264).setRow (O (U W)+2) (EK c (0,0,0,0))=V at *;clear ay ad az al ak ap aq ar au;have cR:=ac.out V aw bb;clear ac;have ax:=T bh;have ao:=T ok;have HG:=T hG;have HB:=T hB;clear ok hG hB hO;obtain⟨N4,a9⟩:=CC<|N+D3 k d;rw[AE a9]at cR;have ba:=T a0;have aa:Ar As 146 #[A8<|O (U W)+2,Ai t bk,C Y 0] V λab g=>∃v',ab=Ak (Af #[v',Ah o.isSome])/\AL (A7 g (O (U W)+2) (EK c R) 264)/\AL (A7 g (O (U W)+1) (CI (0,0,0,0)) 82)/\AL (Dx W g)/\AL (Below (O<|U c.a) c.a g)/\AL (∀j,j<O (U W)->j≠c.A->j≠c.q.d->j≠c.q.b->H j≠c.b->g.heap[j]?=W.heap[j]?)/\(o=Ao->v'=.nilIface)/\∀P,o=H P->CA k g (λj=>F j\/(O (U W)+3<=j/\j<O (U g))) v' P:=cR.mono (by
  rintro ab g ⟨v',bl,rfl,L,h2,h3,h4,h5⟩;refine⟨v',Z,?_,h2.ad _ _ _ _ bc B8 B8 B8,(Dx.of_below aw).trans h2,L.ac,λj b u e a4 a5=>?_,h4,λP bi=>(h5 P bi).same (λj p=>p.imp id λh=>⟨CE bd h.1,h.2⟩) λ_ _=>rfl⟩
  .have:=L.h;grind [AL]
  have:=L.fr.2 j (by rw[AE HG];exact b) u e a4 a5;grind [AL])
 clear cR a0;have an:AL (∀(g:X),A7 g (O (U W)+2) (EK c R) 264->∀(j:I) (ai:Aq),(CI R)[j]?=H ai->A6 g (O (U W)+2) (40+j) ai):=λg h j ai s=>by
  refine(Cc h<|40+j).trans ?_;unfold EK;rw[Nv<|by rw[ao.a.size];omega,ao.a.size,show 40+j-37=j+3 by omega];have p:j<4:=Cd s
  match j,p,s with
  |0,_,s=>exact s
  |1,_,s=>exact s
  |2,_,s=>exact s
  |3,_,s=>exact s
 have av:AL (∀R:Cy,(CI R).all (·.oneCell')=AP):=λR=>Bw;obtain _|P:=o
 .go_wp2_with(first
   |(go_at_call 146;refine aa.mono ?_;clear aa;rintro ab f ⟨v4,rfl,y,w,z,Q,r,h6,_⟩;obtain rfl:=h6 rfl;clear h6;simp only[VQ]))
  refine Dl (S:=λi=>A7 i (O (U W)+2) (EK c R) 264) (y) B6 ?_;intro l;have w:AL<|({f with drawn:=f.drawn+1}:X).heap[O (U W)+1]?=H (M (CI (0,0,0,0)) 82):=w;have z:AL<|Dx W {f with drawn:=f.drawn+1}:=⟨z.size,z.ad⟩
  have Q:AL<|Below (O<|U c.a) c.a {f with drawn:=f.drawn+1}:=Q.drew;have r:AL (∀j,j<O (U W)->j≠c.A->j≠c.q.d->j≠c.q.b->H j≠c.b->({f with drawn:=f.drawn+1}:X).heap[j]?=W.heap[j]?):=r;clear y;generalize({f with drawn:=f.drawn+1}:X)=w5 at *;refine Cb 0 20 (Ai 268<|Ag #[]) l <| Cb 1 21 (A9 (O (U W)+2) 40) l <| Ch 2 22 (.agg<|CI R) Z (λi hZ=>C4) l <| Cb 3 4 (Ai 268<|Ag #[]) l ?_;have ag:(λi:X=>A7 i (O (U W)+2) (EK c R) 264)<|World.setRow w5 (O (U W)+1)<|CI R:=sx E l;refine CH 4 λbe hK=>?_;refine Ks B6 ?_;refine Jf 82 (.tmp 5) (.tmp 22) Z (O (U W)+1) (CI R) Z Z 82 (CI (0,0,0,0)) w (Fh) Z (av R) ?_;refine hK.out _ _ ag λ_=>?_;clear hK;refine CK ?_;go_simp
  go_wp2_with fail
  refine CS (mB results107 Z (CR _ _ _ _ _ _ w) underlying82 Z (Fh) Z) Z ?_;have af:Dx W<|World.setRow w5 (O (U W)+1)<|CI R:=⟨B9,λj cs t fr a ae c d=>(Do _ _ _ _<|AY<|Cd a).trans<|z.ad j cs t fr a ae c d⟩
  have ah:=AE ax;refine⟨_,_,Z,af,Dq Q ah,λj b u e a4 a5=>sx E<|r j b u e a4 a5,?_⟩;exact ba _ _
 go_wp2_with(first
  |(go_at_call 146;refine aa.mono ?_;clear aa;rintro ab f ⟨v4,rfl,y,w,z,Q,r,_,h7⟩;obtain⟨t4,y4,rfl⟩:=(h7 P rfl).iface;have H7:=T<|h7 P Z;clear h7;simp only[am]))
 refine Dl (S:=λi=>A7 i (O (U W)+2) (EK c R) 264) (y) B6 ?_;intro l;have w:AL<|({f with drawn:=f.drawn+1}:X).heap[O (U W)+1]?=H (M (CI (0,0,0,0)) 82):=w;have z:AL<|Dx W {f with drawn:=f.drawn+1}:=⟨z.size,z.ad⟩
 have Q:AL<|Below (O<|U c.a) c.a {f with drawn:=f.drawn+1}:=Q.drew;have r:AL (∀j,j<O (U W)->j≠c.A->j≠c.q.d->j≠c.q.b->H j≠c.b->({f with drawn:=f.drawn+1}:X).heap[j]?=W.heap[j]?):=r;have H7:AL<|CA k {f with drawn:=f.drawn+1} (λj=>F j\/(O (U W)+3<=j/\j<O (U ({f with drawn:=f.drawn+1}:X)))) (Ai t4 y4) P:=qzi H7;clear y;generalize({f with drawn:=f.drawn+1}:X)=w5 at *;refine Cb 0 20 (Ai t4 y4) l <| Cb 1 21 (A9 (O (U W)+2) 40) l <| Ch 2 22 (.agg<|CI R) Z (λi hZ=>C4) l <| Cb 3 4 (Ai t4 y4) l ?_;have ag:(λi:X=>A7 i (O (U W)+2) (EK c R) 264)<|World.setRow w5 (O (U W)+1)<|CI R:=sx E l;refine CH 4 λbe hK=>?_;refine Ks B6 ?_;refine Jf 82 (.tmp 5) (.tmp 22) Z (O (U W)+1) (CI R) Z Z 82 (CI (0,0,0,0)) w (Fh) Z (av R) ?_;refine hK.out _ _ ag λ_=>?_;clear hK;refine CK ?_;go_simp
 go_wp2_with fail
 refine CS (mB results107 Z (CR _ _ _ _ _ _ w) underlying82 Z (Fh) Z) Z ?_;have af:Dx W<|World.setRow w5 (O (U W)+1)<|CI R:=⟨B9,λj cs t fr a ae c d=>(Do _ _ _ _<|AY<|Cd a).trans<|z.ad j cs t fr a ae c d⟩
 have ah:=AE ax;refine⟨_,_,Z,af,Dq Q ah,λj b u e a4 a5=>sx E<|r j b u e a4 a5,?_⟩;exact H7.same (λj p=>p.imp id λh=>⟨E,by simpa using h.2⟩) (λj p=>Do _ _ _ _<|by grind [AL])
def LK(fm:AI)(k:AH)(d:A2)(B:AJ AI):AS AI A1 :=
 if fm=1/\F7 k d=AP then .error 13 else match J0 fm (Fs fm k d) B with
  |none=>.error 14
  |some l=>.ok l
def mC(h:fm=1/\F7 k d=AP):LK fm k d B=.error 13:=Cp h
theorem mD(h:¬(fm=1/\F7 k d=AP))(a:J0 fm (Fs fm k d) B=Ao):LK fm k d B=.error 14:=by grind [LK]
theorem mE(h:¬(fm=1/\F7 k d=AP))(a:J0 fm (Fs fm k d) B=H l):LK fm k d B=.ok l:=by grind [LK]
structure Eh(X:AH->Prop)(W V:Ap):Prop where
 a:V.os=W.os/\V.tape=W.tape/\V.output=W.output
 b:Dx W V
 block:∀j,j<Au (Av W)->X j->V.heap[j]?=W.heap[j]?
def Eh.of_below{X:I->Prop}{W V:Ap}(h:A0 W V):Eh X W V:=⟨⟨h.os,h.tape,h.output⟩,Dx.of_below h,λj a _=>Co h j a⟩
def Eh.trans{X:I->Prop}{W V Z:Ap}(h:Eh X W V)(g:Eh X V Z):Eh X W Z:=⟨⟨Ca g.a.1 h.a.1,Ca g.a.2.1 h.a.2.1,Ca g.a.2.2 h.a.2.2⟩,h.b.trans g.b,λj a b=>Ca (g.block j (CQ a h.b.size) b)<|h.block j a b⟩
def Eh.set{X:I->Prop}{W V:Ap}(h:Eh X W V)(e:O (U W)<=g)(cs:A3):Eh X W<|AD V g cs:=by refine⟨h.a,⟨B2 h.b.size,λj cs t fr a b c d=>Ca (Do _ _ _ _<|AY<|Cd a)<|h.b.ad j cs t fr a b c d⟩,λj a b=>sx E<|h.block j a b⟩
def Eh.alloc{X:I->Prop}{W V:Ap}(h:Eh X W V)(o:Obj):Eh X W<|Az V o:=h.trans<|Eh.of_below Cm
theorem Eh.drew{X:I->Prop}{W V:Ap}(h:Eh X W V):Eh X W {V with drawn:=V.drawn+1}:=⟨h.a,⟨h.b.size,h.b.ad⟩,h.block⟩
theorem Zp{P:Program}{fn:Func}{p u u2:Tmp}{ty:AN}(h:fn.results=#[.tmp u,.cell p ty,.tmp u2]){tmps:A3}{w:X}{g:I}{t:AN}{cs:A3}{fr:I×I}{d:TypeDesc}(f:tmps.getD p AO=A8 g)(c:w.heap[g]?=H (M cs t fr))(i:P.underlying ty=H d)(b:(match d with|.struct _|.array _ _=>AP|_=>AQ)=AP)(hi:(P.info? ty).map (·.size)=H cs.size){v v2:Aq}(j:tmps.getD u AO=v)(k:tmps.getD u2 AO=v2):(results fn tmps).run P w=.ok (Af #[v,.agg cs,v2]) w:=by have e:(results fn tmps).run P w=((asAddr<|tmps.getD p AO).run P w).andThen λa l=>((loadVar ty a).run P l).andThen λv m=>.ok (Af #[tmps.getD u AO,v,tmps.getD u2 AO]) m:=Bm;subst j;subst k;rw[e,f];simp only[asAddr,Gf,G0,Jz w g t ty cs fr d c i b hi]
def Zq(R:Cy)(r:AS AI A1):Cy:=match r with
 |.ok _=>R
 |.error _=>(0,0,0,0)
def Zr(r:AS AI A1):AI:=match r with
 |.ok _=>0
 |.error en=>en
def Om(V:Ap)(base:AH)(v:Aq)(r:AS AI A1):Prop:=match r with
 |.ok l=>Cn V base v l
 |.error _=>v=Ac Ao 0 0
def mF(X:AH->Prop)(W:Ap)(R:Cy)(r:AS AI A1)(e:Ending)(V':Ap):Prop :=
 ∃va vn vc,e=Ak (Af #[Ac va vn vc,.agg<|CI<|Zq R r,Ab Al<|Zr r])/\Eh X W V'/\Om V' (Au<|Av W) (Ac va vn vc) r
def Zs(X:AH->Prop)(N k:AH)(U:Ap)(R:Cy)(d:A2)(e:Ending)(V':Ap):Prop :=
 ∃t' y',e=Ak (Af #[Ai t' y',.agg<|CI R])/\Eh X U V'/\CA k V' (λj=>j<N\/(Au (Av U)<=j/\j<Au (Av V'))) (Ai t' y') d
structure SK(X:AH->Prop)(W:Ap)(L:AH)(gr:A3)(N8 k:AH)(R:Cy)(t:AN)(y:Aq)(d:A2)(V:Ap):Prop where
 fr:Eh X W V
 b:V.heap[L]?=An (Aj gr 135)
 a:V.heap[Au (Av W)]?=An (Aj (CI (0,0,0,0)) 82)
 e:V.heap[N8]?=An (Aj (CI R) 82)
 lt:Au (Av W)<N8
 c:CA k V (λj=>j<Au (Av V)) (Ai t y) d
def SK.aq{X:I->Prop}{W:Ap}{N8:I}{R:Cy}{V V':Ap}(h:SK X W L gr N8 k R t y d V)(hb:A0 V V'):SK X W L gr N8 k R t y d V' :=
 ⟨h.fr.trans<|Eh.of_below hb,Ca (Co hb _<|Cd h.b) h.b,Ca (Co hb _<|Cd h.a) h.a,Ca (Co hb _<|Cd h.e) h.e,h.lt,h.c.same (λ_ a=>CQ a hb.size) λj a=>Co hb j a⟩
theorem q8t{X:I->Prop}{W V':Ap}{R:Cy}(a:A7 W L gr 135)(hF:Eh X (Az W<|M #[C Y 0,C Y 0,C Y 0,C Y 0] 82) V')(f:CA k V' (λj=>j<O (U W)\/(O (U<|Az W<|M #[C Y 0,C Y 0,C Y 0,C Y 0] 82)<=j/\j<O (U V'))) (Ai t y) d):SK X W L gr (O<|U V') k R t y d<|Az V'<|M (CI R) 82:=by
 have e:O (U W)<O (U V'):=by have h:=hF.b.size;grind [World.size_alloc]
 have b:=Cd a;refine⟨?_,?_,?_,Cj V',e,?_⟩
 .exact((Eh.of_below Cm).trans hF).alloc _
 .exact Ca (CB _ _ _ E)<|hF.b.ad L _ _ _ (Ca (CB W _ _ b) a) B8 B8 B8
 .exact Ca (CB _ _ _ E)<|hF.b.ad (O<|U W) _ _ _ (Cj W) B8 B8 B8
 refine f.same (λj c=>?_) (λj c=>CB _ _ _ ?_)<;>grind [World.size_alloc]
theorem q3u(k:I)(d:A2):Fs 1 k d=Fe k d:=Cp rfl
theorem q2E(k:I)(d:A2):Fs 2 k d=Du k d:=by grind [Fs]
theorem q4X(k:I)(d:A2):Fs 3 k d=Ip k d:=by grind [Fs]
theorem q7g(g:fm=1\/fm=2\/fm=3)(c:CA k V (λj=>j<O (U V)) (Ai t y) d)(h:K (Fs fm k d)<=999999999)(f:Jr (O<|U V) V):Ar As 82 #[C Y fm,Ai t y] V λe a=>∃b,e=Ak b/\Cn a (O<|U V) b (Fs fm k d)/\A0 V a:=by grind [q3u,zd,q2E,ij,q4X,wo]
def q0J(l:fm=1\/fm=2\/fm=3)(g:CA k V (λj=>j<O (U V)) (Ai t y) d)(n:K (Fs fm k d)<=999999999)(i:∀a,A0 V a->Jr (O<|U a) a)(m:¬(fm=1/\F7 k d=AP)):Ar As 44 #[C Y fm,Ai t y] V λe f=>∃h,e=Ak (Af #[h,C Y 0])/\Cn f (O<|U V) h (Fs fm k d)/\A0 V f :=
 quf g m λa b=>q7g l (g.same (λ_ c=>CQ c b.size) λj c=>b.block j c) n<|i a b
structure mG(fm:AI)(k:AH)(d:A2):Prop where
 ok:∀V t y,CA k V (λj=>j<Au (Av V)) (Ai t y) d->(∀U,A0 V U->Jr (Au (Av U)) U)->¬(fm=1/\F7 k d=AP)->Ar As 44 #[Ab Al fm,Ai t y] V λe V'=>∃v',e=Ak (Af #[v',Ab Al 0])/\Cn V' (Au (Av V)) v' (Fs fm k d)/\A0 V V'
 f:F7 k d=AP->∀V t y,CA k V (λj=>j<Au (Av V)) (Ai t y) d->Ar As 44 #[Ab Al 1,Ai t y] V λe V'=>e=Ak (Af #[Ac Ao 0 0,Ab Al 13])/\A0 V V'
 len:∀V t y,CA k V (λj=>j<Au (Av V)) (Ai t y) d->At (Fs fm k d)<=999999999
def mH(e:fm=1\/fm=2\/fm=3)(b:K (Fs fm k d)<=999999999):mG fm k d :=
 ⟨λV t y a c g=>q0J (k:=k) (V:=V) (t:=t) (y:=y) e a b c g,λf V t y a=>qj3 (V:=V) (t:=t) (y:=y) (dd:=d) a f,λ_ _ _ _=>b⟩
def Zt:(#[Value.int Y 0,C Y 0,C Y 0,C Y 0]).all (·.oneCell')=AP:=BK
def SL{R:Cy}:(CI R).all (·.oneCell')=AP:=Bw
def mI{R S:Cy}:(CI R).size=(CI S).size:=rfl
theorem q9b{g:Gt}(b:g.e.size=40)(a:A7 V L (Di g fed cl) 135):∀(j:I) (u:Aq),g.e[j]?=H u->A6 V L (4+j) u:=by intro j u c;refine(Cc a<|4+j).trans ?_;grind [Di]
theorem mJ{cs':A3}(h:Cn W base v l)(j:A7 W N cs 82):Cn (AD W N cs') base v l:=by
 refine⟨⟨h.1.1,?_⟩,B2 h.2.1,h.2.2⟩;rcases h.1.2 with a|⟨g,b,c,a,d,i,f⟩
 .exact AF a
 refine AG ⟨g,b,c,a,d,(Do _ _ _ _ λe=>?_).trans i,f⟩;grind
def q7e{g:Gt}(a:g.e.size=40):(prog.info? 132).map (·.size)=H g.e.size:=by rw[a];kernel_rfl
theorem qsI(X:I->Prop){W:Ap}{g:Gt}(a7:g.e.size=40)(hg:A7 W L (Di g fed cl) 135)(t:AN)(y:Aq){R:Cy}{bc:I}(a6:g.d=G ba (K B) bc)(az:mx g.out B)(wp:mG g.out k d)(hI:∀V,Eh X W V->G4 V ba B)(hT:∀V,Eh X W V->Jr (O<|U V) V)(cR:∀v,A0 W v->Ar As 107 #[.agg g.e,Ai t y] v (Zs X (O<|U W) k v R d)):Ar As 76 #[A8 L,Ai t y] W<|mF X W R<|LK g.out k d B:=by
 have hL:=Cd hg;have F:=T a7;have a0:Ar As 107 #[.agg g.e,Ai t y] (Az W<|M #[C Y 0,C Y 0,C Y 0,C Y 0] 82) λe V'=>∃q r,e=Ak (Af #[Ai q r,.agg<|CI R])/\D (SK X W L (Di g fed cl) (O<|U V') k R q r d<|Az V'<|M (CI R) 82):=(cR _ Cm).mono (by rintro e V' ⟨q,r,rfl,h1,h2⟩;grind [q8t]);have HI:=T hI;have HT:=T hT;have ap:=T az;have ac:=T wp;have af:=T a6;have av:D<|(Az W<|M #[C Y 0,C Y 0,C Y 0,C Y 0] 82).heap[L]?=H (M (Di g fed cl) 135):=(CB W _ _ hL).trans hg;go_enter func76,ntmps76
 go_wp2_with(first
  |(refine QI (.tmp 16) Z Z Z (q9b F av) underlying132 Z (q7e F) ?_)
  |fail)
 refine a0.mono ?_;rintro e z ⟨q,r,rfl,b⟩;obtain⟨i,aw⟩:=CC<|Az z<|M (CI R) 82;obtain⟨o,s⟩:=CC<|O<|U z;rw[AE aw,AE s]at b;have ah:D<|(Az z<|M #[C Y 0,C Y 0,C Y 0,C Y 0] 82).heap[o]?=H (M (CI (0,0,0,0)) 82):=by show _=_;rw[<-AE s];exact Cj z
 have aj:D<|(Az z<|M #[C Y 0,C Y 0,C Y 0,C Y 0] 82).setRow o (CI R)=i:=by grind [D,World.setRow_alloc_new]
 have c1:A6 i L 1<|C Y g.out:=(Cc b.b 1).trans<|QR 1 E;by_cases x:g.out=1/\F7 k d=AP
 .have u:D<|LK g.out k d B=.error 13:=mC x;have P:=ac.f x.2 i q r b.c;rw[x.1]at c1
  go_wp2_with(first
   |(refine D8 Z 82 _ _ Z o (CI R) (congrArg (λn=>Value.pointer<|Aa n) s) Z 82 _ ah (Fh) Z (SL) ?_;rw[AE aj])
   |(go_at_call 44;refine P.mono ?_;rintro e j ⟨rfl,ad⟩;have h:=T<|b.aq ad)
   |(refine D8 Z 82 _ _ Z (O<|U W) #[C Y 0,C Y 0,C Y 0,C Y 0] Z Z 82 _ h.a No Z Zt ?_))
  refine CS (Zp results76 Z (CR _ _ _ _ _ _ h.a) underlying82 Z No Z Z) Z ?_;rw[AE u];exact⟨Ao,0,0,Z,h.fr.set (Cr _) _,Z⟩
 have ai:=T x;have ag:=T<|ac.len _ _ _ b.c;have P:=ac.ok i q r b.c (λv hU=>HT.out v<|b.fr.trans<|Eh.of_below hU) x;obtain⟨ys,HY⟩:=CC<|Fs g.out k d;rw[AE HY]at ag P;obtain⟨fr,aa⟩:=CC<|J0 g.out ys B
 go_wp2_with(first
  |(refine D8 Z 82 _ _ Z o (CI R) (congrArg (λn=>Value.pointer<|Aa n) s) Z 82 _ ah (Fh) Z (SL) ?_;rw[AE aj])
  |(go_at_call 44;refine P.mono ?_;rintro e j ⟨v3,rfl,ak,ad⟩;obtain⟨a3,n3,k3,rfl⟩:=ak.2.2;have ao:=T ad;have aq:=T ak))
 have ae:D<|A0 i ({j with drawn:=j.drawn+1}:Ap):=ao.drew;have A:D<|Cn ({j with drawn:=j.drawn+1}:Ap) (O<|U i) (G a3 n3 k3) ys:=AE aq;have h:=T<|b.aq ae;refine Dl (S:=λa=>A6 a L 1 (C Y g.out)/\A6 a L 44 (G ba (K B) bc)) (⟨(Cc h.b 1).trans<|QR 1 E,((Cc h.b 44).trans<|LJ F 0).trans<|congrArg H af⟩) B6 ?_;intro f;generalize({j with drawn:=j.drawn+1}:Ap)=w5 at *;have cF:=ap.out w5 (O<|U i) (G a3 n3 k3) ys ba bc A (HI w5 h.fr) ag;rw[AE aa]at cF;refine Cb 0 36 (A8 L) f <| Cb 1 37 (A8 L) f <| Cb 2 38 (A9 L 1) f <| Ch 3 39 (C Y g.out) Z (λa w=>by have z1:=w.1;go_simp) f <| Cb 4 40 (G a3 n3 k3) f <| Cb 5 41 (A8 L) f <| Cb 6 42 (A8 L) f <| Cb 7 43 (A9 L 44) f <| Ch 8 44 (G ba (K B) bc) rfl (λa w=>by have z1:=w.2;go_simp) f <| CH 9 λay hK=>?_;go_simp;refine cF.mono ?_;rintro e m ⟨⟨v4,rfl,a1,a2⟩,a5⟩;have c:=T<|b.aq<|ae.trans a5;have ax:=T b.fr.b.size;have p:(λa:Ap=>A6 a L 1 (C Y g.out)/\A6 a L 44 (G ba (K B) bc)) m:=⟨(Cc c.b 1).trans<|QR 1 E,((Cc c.b 44).trans<|LJ F 0).trans<|congrArg H af⟩
 simp only[];refine hK.out _ _ p λ_=>?_;refine Cb 10 35 (Af #[v4,Ah fr.isSome]) p <| Cb 11 46 v4 p <| Cb 12 47 (Ah fr.isSome) p <| Cb 13 11 v4 p <| Cb 14 12 (Ah fr.isSome) p <| CK ?_;go_simp;obtain _|an:=fr
 .have u:=T (mD ai<|by rw[AE HY];exact aa);obtain rfl:=a1 rfl;simp only[VQ]
  go_wp2_with(first
   |(refine D8 Z 82 _ _ Z (O<|U W) #[C Y 0,C Y 0,C Y 0,C Y 0] Z Z 82 _ c.a No Z Zt ?_))
  refine CS (Zp results76 Z (CR _ _ _ _ _ _ c.a) underlying82 Z No Z Z) Z ?_;rw[AE u];exact⟨Ao,0,0,Z,c.fr.set (Cr _) _,Z⟩
 have u:=T (mE ai<|by rw[AE HY];exact aa);have A:=T<|a2 an Z;obtain⟨N,n4,l,rfl⟩:=A.2.2;simp only[am]
 go_wp2_with fail
 refine Dl (S:=λa=>A7 a o (CI R) 82) (c.e) B6 ?_;intro Q;have au:=T c.fr.drew;have ab:D<|({m with drawn:=m.drawn+1}:Ap).heap[O<|U W]?=H (M (CI (0,0,0,0)) 82):=c.a;have ar:D<|Cn {m with drawn:=m.drawn+1} (O<|U W) (G N n4 l) an:=(A).mono ax;have a8:=c.lt;generalize({m with drawn:=m.drawn+1}:Ap)=w6 at *;refine Cb 0 51 (G N n4 l) Q <| Ch 1 52 (.agg<|CI R) Z (λa w=>by exact KU (.tmp 8) B6 (congrArg (λn=>Value.pointer<|Aa n) s) w underlying82 B6<|Fh) Q <| Cb 2 4 (G N n4 l) Q <| CH 3 λay hK=>?_;refine Ks B6 ?_;refine Jf 82 (.tmp 5) (.tmp 52) Z (O<|U W) (CI R) B6 B6 82 (CI (0,0,0,0)) ab (Fh) (mI) (SL) ?_;have al:(λa:Ap=>A7 a o (CI R) 82)<|AD w6 (O<|U W)<|CI R:=sx E Q;refine hK.out _ _ al λ_=>?_;refine Cb 4 6 (C Y 0) al <| CK ?_;go_simp
 go_wp2_with fail
 refine CS (Zp results76 Z (CR _ _ _ _ _ _ ab) underlying82 Z (Fh) Z Z) Z ?_;rw[AE u];exact⟨N,n4,l,Z,au.set (Cr _) _,mJ ar ab⟩
theorem mM{f:A2->Cy->Option (AM Unit)×Cy}{d':A2}:∀(ds:AJ<|AM Unit) (acc:AJ<|AM Unit) (R:Cy),d'∈(ds.foldl (λa d=>(a.1++(f d a.2).1.toList,(f d a.2).2)) (acc,R)).1->d'∈acc\/∃d∈ds,∃b,(f d b).1=H d'
 |[],_,_,h=>AF h
 |d::ds,acc,R,h=>by rcases mM ds _ _ h with h|⟨x,c,h⟩<;>grind
theorem mN{f:A1->A2->Cy->Option (AM Unit)×Cy}{e':Lit×AM Unit}:∀(es:AJ<|Lit×AM Unit) (acc:AJ<|Lit×AM Unit) (R:Cy),e'∈(es.foldl (λa e=>(a.1++((f (D9 e.1) e.2 a.2).1.map λd=>(e.1,d)).toList,(f (D9 e.1) e.2 a.2).2)) (acc,R)).1->e'∈acc\/∃e∈es,e'.1=e.1/\∃b,(f (D9 e.1) e.2 b).1=H e'.2
 |[],_,_,h=>AF h
 |e::es,acc,R,h=>by
  rcases mN es _ _ h with h|⟨x,c,h⟩
  .rcases Rb.1 h with h|h
   .exact AF h
   refine AG ⟨e,Mn ..,?_⟩;simp at h;grind
  grind
def mO:∀l:A1,(l.map λb=>[b]).flatten=l
 |[]=>rfl
 |b::l=>by rw[I8,an,mO l];rfl
theorem mP:∀{l:A1},(∀b∈l,b.toNat<128)->FK l:=λ{l} h=>⟨l.map λb=>[b],λw d=>(by obtain⟨b,c,rfl⟩:=Kx.1 d;have:=h b c;exact Y7 (a:=[]) Z<|by grind [WG,Dh]),(mO l).symm⟩
theorem q46(x:I):(Ep x).toNat<128:=by
 unfold Ep;by_cases h:x<16
 .have:∀x,x<16->(([48,49,50,51,52,53,54,55,56,57,97,98,99,100,101,102]:A1).getD x 0).toNat<128:=B8;exact this x h
 simp_all
theorem q5a:∀b∈JX key label l,b.toNat<128:=by
 have h:∀u,∀b∈hxL u,b.toNat<128:=λu=>by induction u using Nat.strongRecOn<;>grind [Sq,q46,UC]
 intro b a;rcases Rb.1 a with a|a
 .simp_all
 exact h _ b a
theorem Zy(c:Rv):∀(k:I) (p:AJ<|A1×AK) (d:A2) (R:Cy) (d':A2),F8 k d->(D6 c k p d R).1=H d'->F8 k d'
 |0,_,_,_,_,_,_=>trivial
 |k+1,p,d,R,d',h,e=>by
  rw[D6]at e;split at e
  .cases e
   cases d with
   |agg ds =>
    intro x a;rcases mM ds [] _ a with a|⟨y,b,g,a⟩
    .cases a
    exact Zy c k _ y g x (h y b) a
   |map es =>
    intro x a;rcases mN (f:=λkey=>D6 c k ((key,AQ)::p)) es [] _ a with a|⟨y,b,i,g,a⟩
    .cases a
    rw[i];exact⟨(h y b).1,Zy c k _ y.2 g x.2 (h y b).2 a⟩
   |_=>exact h
  split at e
  .cases e;exact mP B8
  split at e
  .cases e;exact mP q5a
  cases e
theorem Zz{c:Rv}{R:Cy}(h:F8 k d):F8 k<|(D6 c k [] d R).1.getD .nil:=by
 rcases e:(D6 c k [] d R).1 with _|a
 .cases k<;>trivial
 grind [Zy]
def Gx:Gt:=⟨0,0,0,0,Dp 0 (λ_ _=>AQ)++#[Ab Al 0,Ab Al 0,Ad Ao],Ac Ao 0 0⟩
theorem Vw:Gx.e.size=40:=B6
theorem ZA{g:Gt}(a:g.e.size=40):(Di g fed cl).size=47:=by unfold Di;simp[a]
def qqh(a:o.op=.alloc 135):(execOp ρ o).run As w=.ok (.value<|A8<|O<|U w) (Az w<|M (Di Gx (G Ao 0 0) AQ) 135):=BL
def mQ{a:Act}(e:o.guard=Ao)(f:o.op=.alloc 135){d:Option Tmp}(c:o.dst=d)(N:I)(b:O (U w)=N)(h:wpList As ops Q rest (a.put d<|A8 N)<|Az w<|M (Di Gx (G Ao 0 0) AQ) 135):wpList As ops Q (o::rest) a w:=by subst b;exact R8 e d c _ _ (qqh f) h
def qx0:prog.built 135 [(6,Ah AP)]=H (Di Gx (G Ao 0 0) AP):=B6
def QS{A:A3}(h:A.size=47):(prog.info? 135).map (·.size)=H A.size:=ke1
abbrev Cz:=AS (AI×AI) (Cy×AS AI A1)
def QT(z:Cz):Cy:=match z with
 |.ok (R,r)=>Zq R r
 |.error _=>(0,0,0,0)
def PH(z:Cz):AI:=match z with
 |.ok (_,r)=>Zr r
 |.error (en,_)=>en
def QU(z:Cz):AI:=match z with
 |.ok _=>0
 |.error (_,pl)=>pl
def Vx(V:Ap)(base:AH)(v:Aq)(z:Cz):Prop:=match z with
 |.ok (_,r)=>Om V base v r
 |.error _=>v=Ac Ao 0 0
def GS(W:Ap)(L:AH)(g:Gt)(fv:Aq):Ap:=(Az (Az W<|Aj #[Ab Al 0,Ab Al 0,Ab Al 0,Ab Al 0] 82)<|Aj (Di g fv AQ) 135).setRow L<|Di Gx (Ac Ao 0 0) AP
structure Oo(X:AH->Prop)(L:AH)(W V:Ap):Prop where
 a:V.os=W.os/\V.tape=W.tape/\V.output=W.output
 size:Au (Av W)<=Au (Av V)
 b:∀(k:AH) (cs:A3) (t:AN) (fr:AH×AH),k≠L->W.heap[k]?=An (Aj cs t fr)->t≠187->t≠203->t≠264->V.heap[k]?=An (Aj cs t fr)
 block:∀j,j<Au (Av W)->j≠L->X j->V.heap[j]?=W.heap[j]?
def Oo.set{X:I->Prop}{W V:Ap}(h:Oo X L W V)(f:O (U W)<=g)(cs:A3):Oo X L W (AD V g cs) :=
 ⟨h.a,B2 h.size,λk cs t fr a b c d e=>Ca (Do _ _ _ _<|AY<|Cd b)<|h.b k cs t fr a b c d e,λj a b c=>sx E<|h.block j a b c⟩
def q7S(X:AH->Prop)(W:Ap)(L:AH)(z:Cz)(e:Ending)(V':Ap):Prop :=
 ∃va vn vc,e=Ak (Af #[Ac va vn vc,.agg<|CI<|QT z,Ab Al<|PH z,Ab Al<|QU z])/\Oo X L W V'/\V'.heap[L]?=An (Aj (Di Gx (Ac Ao 0 0) AP) 135)/\Vx V' (Au<|Av W) (Ac va vn vc) z
def Vy{g:Gt}(a:Aq):O (U<|GS W L g a)=O (U W)+2:=by simp[GS]
def q5i{g:Gt}(a:L<O (U W)):(GS W L g fv).heap[O<|U W]?=H (M (CI (0,0,0,0)) 82):=sx E<|Ca (CB _ _ _ Ba)<|Cj W
def mR{g:Gt}(a:Aq)(b:L<O (U W)):(GS W L g a).heap[O (U W)+1]?=H (M (Di g a AQ) 135):=by have h:=Cj (Az W<|M #[C Y 0,C Y 0,C Y 0,C Y 0] 82) (o:=(M (Di g a AQ) 135));rw[CL]at h;exact sx E h
def qyV{g:Gt}(a:A7 W L (Di g fv AQ) 135):(GS W L g fv).heap[L]?=H (M (Di Gx (G Ao 0 0) AP) 135):=by have b:=Cd a;exact CR _ _ _ _ _ _<|Ca (CB _ _ _ kfD)<|Ca (CB _ _ _ b) a
def ZB{g:Gt}{j:I}(a:j<O (U W))(b:j≠L):(GS W L g fv).heap[j]?=W.heap[j]?:=Ca (Do _ _ _ _ b)<|Ca (CB _ _ _ kfD)<|CB _ _ _ a
def qvH{g:Gt}:(GS W L g fv).os=W.os/\(GS W L g fv).tape=W.tape/\(GS W L g fv).output=W.output:=⟨rfl,rfl,rfl⟩
def Oo.of{X:I->Prop}{W:Ap}{g:Gt}{V:Ap}(h:Eh X (GS W L g fv) V):Oo X L W V:=by
 have i:=h.b.size;rw[Vy]at i;refine⟨h.a,E,λk cs t fr a b c d e=>?_,λj a b c=>?_⟩
 .have f:=Cd b;exact h.b.ad k cs t fr (Ca (ZB f a) b) c d e
 exact Ca (h.block j (by rw[Vy];omega) c)<|ZB a b
structure mS(X:AH->Prop)(W W3:Ap)(L N11:AH)(R:Cy)(v:Aq)(r:AS AI A1)(V:Ap):Prop where
 fr:Eh X W3 V
 a:V.heap[Au (Av W)]?=An (Aj (CI (0,0,0,0)) 82)
 e:V.heap[N11]?=An (Aj (CI R) 82)
 lt:Au (Av W)<N11
 b:V.heap[L]?=An (Aj (Di Gx (Ac Ao 0 0) AP) 135)
 val:Om V (Au (Av W)) v r
theorem Om.same{b:I}{r:AS J A1}(h:Om V b v r)(a:∀l,Cn V b v l->Cn V' b' v l):Om V' b' v r:=by
 obtain e|l:=r
 .exact h
 exact a l h
def q8I{X:I->Prop}{W W3 U V':Ap}{R:Cy}{r:AS J A1}(e:O (Av W)<O (Av U))(b:Eh X W3 U)(hF:Eh X U V')(c:A7 U (O<|Av W) (CI (0,0,0,0)) 82)(a:A7 U L (Di Gx (G Ao 0 0) AP) 135)(d:Om V' (O<|Av U) v r):mS X W W3 L (O<|Av V') R v r<|Az V'<|M (CI R) 82:=by have f:=hF.b.size;exact⟨(b.trans hF).alloc _,Ca (CB _ _ _ E)<|hF.b.ad _ _ _ _ c B8 B8 B8,Cj V',E,Ca (CB _ _ _<|AY<|Cd a)<|hF.b.ad _ _ _ _ a B8 B8 B8,d.same λl h=>MM (h.mono E) Cm⟩
theorem qta(X:I->Prop)(k:I){W:Ap}{g:Gt}(ad:g.e.size=40)(a1:(Di g (G fa fn fc) AQ).all (·.oneCell')=AP)(j:A7 W L (Di g (G fa fn fc) AQ) 135)(an:∀P pl,r=.error (P,pl)->P≠0)(z:Cz)(cD:∀n,Below (O<|U<|GS W L g<|G fa fn fc) (GS W L g<|G fa fn fc) n->Ar As 43 #[C Y g.a,Ag #[C Y g.b,C Y g.bytes],G fa fn fc] n (KJ k n r))(hz:∀e,r=.error e->z=.error e)(F:∀ac,r=.ok ac->∃ab o,z=.ok (ab,o)/\∀V ae af,Below (O<|U<|GS W L g<|G fa fn fc) (GS W L g<|G fa fn fc) V->CA k V (λa2=>O (U<|GS W L g<|G fa fn fc)<=a2/\a2<O (U V)) (Ai ae af) ac->∀n,A0 V n->Ar As 76 #[A8<|O (U W)+1,Ai ae af] n (mF X n ab o)):Ar As 38 #[A8 L] W<|q7S X W L z:=by
 have hL:=Cd j;have ax:(Az W<|M #[C Y 0,C Y 0,C Y 0,C Y 0] 82).cell? ⟨L,46,Ao⟩=H (Ah AQ):=(Cc ((CB _ _ _ hL).trans j) 46).trans<|LJ ad 2;have p:D<|(Az W<|M #[C Y 0,C Y 0,C Y 0,C Y 0] 82).heap[L]?=H (M (Di g (G fa fn fc) AQ) 135):=(CB _ _ _ hL).trans j;have v:D<|(Az (Az W<|M #[C Y 0,C Y 0,C Y 0,C Y 0] 82)<|M (Di g (G fa fn fc) AQ) 135).heap[L]?=H (M (Di g (G fa fn fc) AQ) 135):=(CB _ _ _<|by grind [D]).trans p;have aa:D<|(Az (Az W<|M #[C Y 0,C Y 0,C Y 0,C Y 0] 82)<|M (Di Gx (G Ao 0 0) AQ) 135).heap[O (U W)+1]?=H (M (Di Gx (G Ao 0 0) AQ) 135):=by grind [D,Cj,World.size_alloc]
 have B:D<|(Az (Az W<|M #[C Y 0,C Y 0,C Y 0,C Y 0] 82)<|M (Di Gx (G Ao 0 0) AQ) 135).setRow (O (U W)+1) (Di g (G fa fn fc) AQ)=Az (Az W<|M #[C Y 0,C Y 0,C Y 0,C Y 0] 82) (M (Di g (G fa fn fc) AQ) 135):=by grind [D,World.setRow_alloc_new,World.size_alloc]
 have x:D<|(Di g (G fa fn fc) AQ).size=47:=ZA ad;have al:D<|(Di Gx (G Ao 0 0) AP).size=47:=ZA Vw;have A:D<|(Di Gx (G Ao 0 0) AQ).size=(Di g (G fa fn fc) AQ).size:=by grind [ZA,Vw]
 have q:D<|(Di g (G fa fn fc) AQ).size=(Di Gx (G Ao 0 0) AP).size:=by grind [D]
 have ai:=T a1;have aj:D ((Di Gx (G Ao 0 0) AP).all (·.oneCell')=AP):=by show _=_;kernel_rfl
 have m:D<|GS W L g (G fa fn fc)=(Az (Az W<|M #[C Y 0,C Y 0,C Y 0,C Y 0] 82)<|M (Di g (G fa fn fc) AQ) 135).setRow L (Di Gx (G Ao 0 0) AP):=rfl;have l:D<|(GS W L g<|G fa fn fc).heap[O<|U W]?=H (M (CI (0,0,0,0)) 82):=q5i hL;have f:=T<|qyV j;have a5:D<|O (U<|GS W L g<|G fa fn fc)=O (U W)+2:=Vy _;have N:=mz ad (mR _ hL) cD;have HP:=T F;clear j ad cD F a1;have ag:=T qx0;obtain⟨W3,aw⟩:=CC<|GS W L g<|G fa fn fc;have ah:D (∀V,Eh X (GS W L g<|G fa fn fc) V->Oo X L W V):=λV h=>Oo.of h;rw[AE aw]at m l f a5 N HP ah;clear aw;have bc:L≠O (U W):=E;obtain⟨GA,a3⟩:=CC<|Di g (G fa fn fc) AQ;obtain⟨GZ,aq⟩:=CC<|Di Gx (G Ao 0 0) AP;rw[AE a3]at p v B x A q ai m;rw[AE aq]at m f al q aj ag;rcases r with⟨P,pl⟩|ac
 .obtain rfl:=hz _ rfl;have a9:=an P pl Z;have e2:(P != 0)=AP:=by simpa using a9
  clear hz an HP;go_enter func38,ntmps38
  go_wp2_with(first
   |(refine CO Z 135 _ Z L Z _ _ _ _ p underlying135 Z (QS x) ?_)
   |(refine mQ Z Z Z (O (U W)+1) ?hN ?_;case hN=>grind [World.size_alloc])
   |(refine D8 Z 135 _ _ Z (O (U W)+1) GA Z Z 135 _ aa (QS x) A ai ?_;rw[AE B];clear aa B)
   |(refine Jh Z Z Z ?hl ag ?_;case hl=>simp[go_sem])
   |(refine D8 Z 135 _ _ Z L GZ Z Z 135 _ v (QS al) q aj ?_;rw[<-AE m];clear ax p v A q m)
   |(go_at_call 75;refine N.mono ?_;clear N;rintro e u ⟨c,hF⟩;obtain rfl:=hF;have R:D<|Eh X W3 u:=Eh.of_below c;have w:=T<|(c.block _<|Cd l).trans l;have ap:=T<|(c.block _<|Cd f).trans f;clear c l f)
   |(refine D8 Z 82 _ _ Z (O<|U W) #[C Y 0,C Y 0,C Y 0,C Y 0] Z Z 82 _ w No Z Zt ?_))
  refine CS (Ol results38 Z (CR _ _ _ _ _ _ w) underlying82 Z No Z Z Z) Z ?_;exact⟨Ao,0,0,Z,(ah _ R).set (Cr _) _,by grind [D,setRow_other],Z⟩
 obtain⟨ab,o,rfl,az⟩:=HP.out ac rfl;have ar:=T az;clear hz an HP az;obtain⟨a,au⟩:=CC<|Zq ab o;obtain⟨E1,ao⟩:=CC<|Zr o;go_enter func38,ntmps38
 go_wp2_with(first
  |(refine CO Z 135 _ Z L Z _ _ _ _ p underlying135 Z (QS x) ?_)
  |(refine mQ Z Z Z (O (U W)+1) ?hN ?_;case hN=>grind [World.size_alloc])
  |(refine D8 Z 135 _ _ Z (O (U W)+1) GA Z Z 135 _ aa (QS x) A ai ?_;rw[AE B];clear aa B)
  |(refine Jh Z Z Z ?hl ag ?_;case hl=>simp[go_sem])
  |(refine D8 Z 135 _ _ Z L GZ Z Z 135 _ v (QS al) q aj ?_;rw[<-AE m];clear ax p v A q m)
  |(go_at_call 75;refine N.mono ?_;clear N;rintro e u ⟨c,hF⟩;obtain⟨ae,af,rfl,hT⟩:=hF;have F:=ar.out u ae af c hT u CT;have R:D<|Eh X W3 u:=Eh.of_below c;have w:=T<|(c.block _<|Cd l).trans l;have ap:=T<|(c.block _<|Cd f).trans f;have av:D<|O (U W)<O (U u):=by{grind [D]};clear c l f ar hT)
  |(go_at_call 76;refine F.mono ?_;clear F;rintro e b ⟨d,y,t,rfl,ay,a0⟩;have i:D<|mS X W W3 L (O<|U b) a (G d y t) o<|Az b<|M (CI a) 82:=q8I av R ay w (by grind [D]) a0;clear ay a0 R w ap av;rw[AE au,AE ao])
  |(refine D8 Z 82 _ _ Z (O<|U b) (CI a) Z Z 82 _ (Cj b) (Fh) Z (SL) ?_;rw[Ge]))
 have Q:(λs:Ap=>A7 s (O<|U b) (CI a) 82) { (Az b<|M (CI a) 82)with drawn:=(Az b<|M (CI a) 82).drawn+1}:=i.e;refine Ei (S:=λs=>A7 s (O<|U b) (CI a) 82) B6 ?_;have a4:D<|Eh X W3 { (Az b<|M (CI a) 82)with drawn:=(Az b<|M (CI a) 82).drawn+1}:=i.fr.drew;have ak:D<|({ (Az b<|M (CI a) 82)with drawn:=(Az b<|M (CI a) 82).drawn+1}:Ap).heap[O<|U W]?=H (M (CI (0,0,0,0)) 82):=i.a;have ba:D<|({ (Az b<|M (CI a) 82)with drawn:=(Az b<|M (CI a) 82).drawn+1}:Ap).heap[L]?=H (M GZ 135):=by show _=_;rw[<-AE aq];exact i.b
 have a6:D<|Om { (Az b<|M (CI a) 82)with drawn:=(Az b<|M (CI a) 82).drawn+1} (O<|U W) (G d y t) o:=i.val.same λ_ h=>h;have bd:=i.lt;clear i;generalize({ (Az b<|M (CI a) 82)with drawn:=(Az b<|M (CI a) 82).drawn+1}:Ap)=w6 at *;generalize O (U b)=N8 at *;refine Cb 0 39 (G d y t) Q <| Ch 1 40 (.agg<|CI a) Z (λs hZ=>by exact KU (.tmp 11) B6 B6 hZ underlying82 B6<|Fh) Q <| Cb 2 41 (C Y E1) Q <| Cb 3 2 (G d y t) Q <| CH 4 λbb hK=>?_;refine Ks B6 ?_;refine Jf 82 (.tmp 3) (.tmp 40) Z (O<|U W) (CI a) B6 B6 82 (CI (0,0,0,0)) ak (Fh) (mI) (SL) ?_;have am:(λs:Ap=>A7 s N8 (CI a) 82)<|AD w6 (O<|U W)<|CI a:=sx E Q;refine hK.out _ _ am λ_=>?_;clear hK;refine Cb 5 4 (C Y E1) am <| Cb 6 5 (C Y 0) am <| CK ?_;go_simp
 go_wp2_with fail
 refine CS (Ol results38 Z (CR _ _ _ _ _ _ ak) underlying82 Z (Fh) Z Z Z) Z ?_;have a8:=AE au;have a7:=AE ao;subst a8;subst a7;exact⟨d,y,t,Z,(ah _ a4).set (Cr _) _,by grind [D,setRow_other],a6.same λ_ h=>mJ h ak⟩
end
end Go.Proofs.YtaehkdnabiccnaaGreatDoor


