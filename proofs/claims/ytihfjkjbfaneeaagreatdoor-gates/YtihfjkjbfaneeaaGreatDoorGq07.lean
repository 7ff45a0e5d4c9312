import Derived.Lib.MakeNoZero
import Derived.Laws.CopyOwn
import Derived.Test.YtihfjkjbfaneeaaGreatDoorGq06
set_option maxRecDepth 100000
set_option maxHeartbeats 8000000
set_option linter.all false
namespace Go.Proofs.YtihfjkjbfaneeaaGreatDoor
open Go.Proofs.Tryz
open _root_ renaming Nat->I,Int->J
open Go.Value renaming int->C,slice->T
open _root_.List renaming length->O
open Go.World renaming heap->U
open _root_.Array renaming size->K
open Go.IntKind renaming i64->Y
open Go.RowKit renaming Hid->D
open Go renaming World->X
open Option renaming some->H
open Go.Obj renaming cells->M
open Go.Value renaming slice->AX,int->Ab,slice->Ac,pointer->Ad,string->Ae,tuple->Af,agg->Ag,bool->Ah,iface->Ai,ownBlock->Ax
open Go.Obj renaming cells->Aj
open Go.Ending renaming returned->Ak
open Go.IntKind renaming i64->Al,u8->Am
open Option renaming some->An,none->Ao
open Go renaming DataW->AM,TypeId->AN,World->Ap,Value->Aq,Calls->Ar
open Go.Proofs.Tryz renaming prog->As
open _root_.List renaming replicate->AV,length->At,toArray->Aw
open Go.World renaming setCell->AB,cell?->AC,setRow->AD,heap->Av,alloc->Az
open Go.RowKit.Hid renaming out->AE
open Or renaming inl->AF,inr->AG
open _root_ renaming Nat->AH,Int->AI,List->AJ,Bool->AK,Except->AS,ByteArray->AT,UInt8->AU
open _root_.Bool renaming true->AP,false->AQ
variable{P:Program}{kl kl':AJ A1}{ds ds':AJ (AM Unit)}{B L N N' b base bp cap f fc fn g i j k last mn n p p3 q:I}{d:A2}{V V' V0 W W' W0 w5:X}{F ex:I->Prop}{t:AN}{fed kv sv u v v':Aq}{cur xs:AJ Aq}{acc bs:A1}{fm kd l lim:J}{R r:AS (J×J) (AM Unit×I)}{x:Option I}{rd:I->AS (J×J) (AM Unit×I)}{A cs y z:A3}{o:Obj}{fa ia:A4}{cl m:AK}{e:Ending}{sts sts':AJ ((I->I)×J×J)}{fr:I×I}{mf nf:Lit->Option I}{es:AJ (Lit×AM Unit)}
section
open Go.RowKit Go.Lib
def Fo(kl:AJ A1)(ds:AJ (AM Unit)):AJ (Lit×AM Unit):=(kl.zip ds).map λx=>(.string x.1,x.2)
theorem Wv(h:O kl=O ds)(l:A1)(d:A2):Fo (kl++[l]) (ds++[d])=Fo kl ds++[(.string l,d)]:=by unfold Fo;rw[List.zip_append h,JP];rfl
theorem T0(h:O kl=O ds):O (Fo kl ds)=O ds:=by grind [Fo]
theorem Ww:∀{kl:AJ A1} {ds:AJ (AM Unit)},O kl=O ds->(Fo kl ds).map N9=kl.map CQ
 |[],[],_=>rfl
 |[],_::_,h=>Bx
 |_::_,[],h=>Bx
 |l::kl,d::ds,h=>by have a:=Ww Bw;unfold Fo at a ⊢;rw[List.zip_cons_cons,GO,GO,GO,a];rfl
theorem dk{key:Lit}(h:(Fo kl ds)[i]?=H (key,d)):ds[i]?=H d/\∃l,key=.string l:=by grind [Fo]
structure FM(k:Nat)(V:World)(b:Nat)(kv u:Value)(ex:Nat->Prop)(kl:List A1)(ds:List (DataW Unit)):Prop where
 keys:V.ownsRow b 9 1 kv kl.length (kl.map CQ)
 kids:Iw k V b u (λj=>some j=kv.ownBlock\/ex j) ds
 len:kl.length=ds.length
 apart:∀g,kv.ownBlock=some g->¬u.ownBlock=some g
 exk:∀g,kv.ownBlock=some g->¬ex g
 exu:∀g,u.ownBlock=some g->¬ex g
theorem se:FM k V b Cm Cm ex [] []:=⟨Fa _ _ _ _,Wn,rfl,(λg h=>Bo),(λg h=>Bo),(λg h=>Bo)⟩
theorem Nl{size:I}(h:V.ownsRow b t size u n xs)(l:∀j,Ax u=H j->b<=j->j<K (U V)->V'.heap[j]?=V.heap[j]?):V'.ownsRow b t size u n xs:=by
 refine⟨h.1,?_⟩;rcases h.2 with i|⟨g,d,f,e,a,c,k⟩
 .exact AF i
 exact AG ⟨g,d,f,e,a,(l g keG a (Cc c)).trans c,k⟩
theorem FM.next(h:FM k V b kv u ex kl ds)(t:K (U V)<=K (U V'))(l:∀j,b<=j->j<K (U V)->¬ex j->V'.heap[j]?=V.heap[j]?):FM k V' b kv u ex kl ds:=by refine⟨Nl h.keys (λj e f g=>l j f g (h.exk j e)),?_,h.len,h.apart,h.exk,h.exu⟩;obtain⟨s,f,g⟩:=h.kids;refine⟨s,Nl f (λj e o p=>l j o p (h.exu j e)),λi d q=>?_⟩;obtain⟨a,m,n⟩:=g i d q;exact⟨a,m,n.same (λj c=>⟨c.1,AY c.2.1,c.2.2⟩) (λj c=>l j c.1 c.2.1 (λr=>c.2.2.2 (AG r)))⟩
theorem FM.other{ex':I->Prop}(h:FM k V b kv u ex kl ds)(hx:∀j,ex' j->ex j\/K (U V)<=j):FM k V b kv u ex' kl ds:=by
 refine⟨h.keys,?_,h.len,h.apart,λg e l=>?_,λg e l=>?_⟩
 .obtain⟨n,f,q⟩:=h.kids;refine⟨n,f,λi d r=>?_⟩;obtain⟨a,o,p⟩:=q i d r;refine⟨a,o,p.same (λj m=>⟨m.1,m.2.1,m.2.2.1,λs=>?_⟩) (λ_ _=>rfl)⟩;grind
 .rcases hx g l with c|c
  .exact h.exk g e c
  have:=Ek h.keys e;omega
 obtain⟨n,f,_⟩:=h.kids;rcases hx g l with c|c
 .exact h.exu g e c
 have:=Ek f e;omega
theorem FM.map(h:FM k V b kv u ex kl ds)(t:B<=b):CP (k+1) V (λj=>B<=j/\j<K (U V)) (.agg (Ce 7 0 ⟨#[]⟩ kv u)) (.map (Fo kl ds)):=by
 obtain⟨s,o,p⟩:=h.kids;have hF:∀g,b<=g->g<K (U V)->B<=g/\g<K (U V):=λg v r=>⟨E,r⟩
 refine⟨kv,u,s,Z,?_,?_,λi key d q=>?_⟩
 .rw[T0 h.len,Ww h.len,<-h.len];exact Oi h.keys hF
 .rw[T0 h.len];exact Oi o hF
 obtain⟨e,l,f⟩:=dk q;obtain⟨a,m,n⟩:=p i d e;exact⟨l,a,f,m,n.same (λj c=>⟨AY c.1,c.2.1⟩) (λ_ _=>rfl)⟩
def PD(kl:AJ A1)(ds:AJ (AM Unit))(l:A1)(r:AS (AI×AI) (AM Unit×AH)):AS (AI×AI) ((AJ A1×AJ (Lit×AM Unit))×AH):=match r with
 |.error e=>.error e
 |.ok (d,q)=>.ok ((l::kl.reverse,Fo kl ds++[(.string l,d)]),q)
theorem dl{l:A1}{r':AS (J×J) (AM Unit×I)}(h:Gh bs lim r r'):Gh bs lim (PD kl ds l r) (PD kl ds l r'):=by
 rcases h with rfl|⟨q,a,b,c,x,d⟩
 .exact AF Z
 rw[a,d];exact AG ⟨q,Z,b,c,_,Z⟩
theorem sf{x:AU}(hl:Lm bs l lim)(hi:Ct bs lim p):(CH bs l p=AQ/\Dn bs lim [x] p=.error (CU bs l p 9))\/(∃c,bs[p]?=H c/\CH bs l p=AP/\¬(p:J)=lim/\((¬c=x/\Dn bs lim [x] p=.error (CU bs l p 9))\/(c=x/\Ct bs lim (p+1)/\Dn bs lim [x] p=.ok ((),p+1)))):=by
 rw[Dn];rcases hc:bs[p]? with _|c
 .exact AF ⟨Hs hc,by rw[It hi.1 hc]⟩
 simp only[];by_cases a:(p:J)=lim
 .grind [GW,FY]
 rw[Ci a];refine AG ⟨c,Z,IM hl hi hc a,a,?_⟩;by_cases b:c=x
 .rw[Cn b];exact AG ⟨b,Ed hi hc a,Z⟩
 grind [Ht]
theorem sj(hl:Lm bs l lim)(S:∀p:I,(p:J)=lim->p<O bs->rd p=.error (8,(p:J)))(hi:Ct bs lim p){R:AS (J×J) ((AJ A1×AJ (Lit×AM Unit))×I)}(a:Fk bs lim rd (kl.reverse,Fo kl ds) p=R):(CH bs l p=AQ/\R=.error (CU bs l p 9))\/∃c,bs[p]?=H c/\CH bs l p=AP/\((¬c.toNat=34/\R=.error (CU bs l p 9))\/(c.toNat=34/\Ct bs lim (p+1) /\
   ((∃f,Dr bs lim (O bs+1-(p+1)) (p+1) [] 0=.error f/\R=.error f)\/∃t r,Dr bs lim (O bs+1-(p+1)) (p+1) [] 0=.ok (t,r)/\Ct bs lim r/\p+1<r /\
    ((t∈kl/\R=.error (CU bs l (r-1) 12))\/(¬t∈kl/\Ct bs lim (Es bs l (O bs+1-r) r) /\
     ((∃f,Dn bs lim [58] (Es bs l (O bs+1-r) r)=.error f/\R=.error f)\/∃b,Dn bs lim [58] (Es bs l (O bs+1-r) r)=.ok ((),b)/\Ct bs lim b/\r<b/\Ct bs lim (Es bs l (O bs+1-b) b)/\b<=Es bs l (O bs+1-b) b/\∀h,Gh bs lim (rd (Es bs l (O bs+1-b) b)) h->Gh bs lim R (PD kl ds t h))))))):=by
 unfold Fk J2 at a;rcases sf (x:=34) hl hi with⟨i,d⟩|⟨c,v,i,V,⟨d,g⟩|⟨d,g,B⟩⟩
 .grind
 .rw[g]at a;exact AG ⟨c,v,i,AF ⟨λe=>d (P3.1 (e.trans kek)),a.symm⟩⟩
 rw[B]at a;simp only[]at a;refine AG ⟨c,v,i,AG ⟨by rw[d];rfl,g,?_⟩⟩;rcases ht:Dr bs lim (O bs+1-(p+1)) (p+1) [] 0 with f|x
 .grind
 obtain⟨t,r⟩:=x;rw[ht]at a;have y:=SQ _ _ _ _ _ _ g ht;have L:=(Pu _ _ _ _ _ _ ht).1;refine AG ⟨t,r,Z,y,L,?_⟩;simp only[Z2]at a;by_cases w:t∈kl
 .grind [QQ]
 rw[Ci w]at a;simp only[]at a;refine AG ⟨w,?_⟩;rcases Ma hl (O bs+1-r) r y with⟨q,k,m,n,N,_⟩|⟨q,k,m,n,N⟩
 .rw[k]at a;rw[m];simp only[]at a;refine⟨n,?_⟩;rcases hw:Dn bs lim [58] q with f|x
  .grind
  obtain⟨_,b⟩:=x;rw[hw]at a;obtain⟨P,o⟩:=QP _ _ _ n hw;simp only[FU,Je]at P;refine AG ⟨b,Z,o,E,?_⟩;simp only[]at a;rcases Ma hl (O bs+1-b) b o with⟨Q,s,u,z,A,_⟩|⟨Q,s,u,z,A⟩
  .rw[s]at a;rw[u];refine⟨z,A,λh j=>?_⟩;have F:=dl (kl:=kl) (ds:=ds) (l:=t) j;grind [PD]
  rw[s]at a;rw[u];refine⟨⟨E,E⟩,AY o.2,λh j=>?_⟩;have F:=dl (kl:=kl) (ds:=ds) (l:=t) j;grind [PD]
 rw[k]at a;rw[m];refine⟨⟨E,E⟩,AF ⟨_,?_,a.symm⟩⟩;grind [Dn]
structure PE(W W':World)(kv u:Value):Prop where
 os:W'.os=W.os
 tape:W'.tape=W.tape
 output:W'.output=W.output
 size:W.heap.size<=W'.heap.size
 block:∀j,j<W.heap.size->some j≠kv.ownBlock->some j≠u.ownBlock->W'.heap[j]?=W.heap[j]?
theorem T6(h:A0 W W'):PE W W' kv u:=⟨h.os,h.tape,h.output,h.size,λj a _ _=>h.block j a⟩
def dm(k:AH)(bs:A1)(lim:AI)(W:Ap)(b:AH)(kv u:Aq)(ex:AH->Prop)(kl:AJ A1)(ds:AJ (AM Unit))(r:AS (AI×AI) ((AJ A1×AJ (Lit×AM Unit))×AH))(e:Ending)(W':Ap):Prop :=
 PE W W' kv u/\∃r',Gh bs lim r r'/\match r' with
 |.ok (x,q)=>Ct bs lim q/\∃l dd a n c a' n' c',x=(l::kl.reverse,Fo kl ds++[(.string l,dd)])/\e=Ak (Af #[.agg (Ce 7 0 ⟨#[]⟩ (Ac a n c) (Ac a' n' c')),Ab Al q,.agg (Cd (0,0))])/\FM k W' b (Ac a n c) (Ac a' n' c') ex (kl++[l]) (ds++[dd])
 |.error f=>∃kd n s a i j b p m z,e=Ak (Af #[.agg (Ce kd n s (Ac a i j) (Ac b p m)),Ab Al z,.agg (Cd f)])
structure Fp(W:World)(A y:A3)(V:World):Prop where
 box:V.heap[W.heap.size]?=some (.cells A 115)
 mv:V.heap[W.heap.size+1]?=some (.cells y 101)
 th:V.heap[W.heap.size+2]?=some (.cells Cr 101)
 flt:V.heap[W.heap.size+3]?=some (.cells (Cd (0,0)) 103)
 below:A0 W V
structure JY(W:World)(A y:A3)(Z:World):Prop where
 box:Z.heap[W.heap.size]?=some (.cells A 115)
 mv:Z.heap[W.heap.size+1]?=some (.cells y 101)
theorem Fp.s(h:Fp W A y V):JY W A y V:=⟨h.box,h.mv⟩
theorem JY.set(h:JY W A y V)(j:I)(cs:A3)(a:K (U W)+2<=j):JY W A y (AD V j cs):=⟨sx E h.box,sx E h.mv⟩
theorem JY.lt(h:JY W A y V):K (U W)+1<K (U V):=Cc h.mv
theorem JY.new(h:JY W A y V)(o:Obj):JY W A y (Az V o):=⟨(Cx _ _ _ (AY h.lt)).trans h.box,(Cx _ _ _ h.lt).trans h.mv⟩
theorem Fp.next(h:Fp W A y V)(hb:A0 V V'):Fp W A y V' :=
 ⟨(hb.block _ (Cc h.box)).trans h.box,(hb.block _ (Cc h.mv)).trans h.mv,(hb.block _ (Cc h.th)).trans h.th,(hb.block _ (Cc h.flt)).trans h.flt,h.below.trans (hb.mono h.below.size)⟩
theorem Fp.drew(h:Fp W A y V):Fp W A y V.drew:=⟨h.box,h.mv,h.th,h.flt,h.below.drew⟩
theorem Fp.size(h:Fp W A y V):K (U W)+4<=K (U V):=Cc h.flt
theorem Fp.set(h:Fp W A y V)(j:I)(cs:A3)(a:K (U W)+4<=j):Fp W A y (AD V j cs) :=
 ⟨sx E h.box,sx E h.mv,sx E h.th,sx E h.flt,Dj h.below E⟩
theorem sr(W:X):Fp W A y (Az (Az (Az (Az W (M A 115)) (M y 101)) (M Cr 101)) (M (Cd (0,0)) 103)):=by have e:=Cj W (o:=(M A 115));have b:=Cj (Az W (M A 115)) (o:=(M y 101));have c:=Cj (Az (Az W (M A 115)) (M y 101)) (o:=(M Cr 101));have a:=Cj (Az (Az (Az W (M A 115)) (M y 101)) (M Cr 101)) (o:=(M (Cd (0,0)) 103));simp only[CI,A0]at b c a;have d:Below _ W (Az (Az (Az (Az W (M A 115)) (M y 101)) (M Cr 101)) (M (Cd (0,0)) 103)):=(((Cl).alloc Ba _).alloc B7 _).alloc B7 _;refine⟨?_,?_,?_,a,d⟩<;>grind [Below.heap_alloc]
theorem Fp.fin(h:Fp W A y V)(z:A3)(x:J×J):(AD (AD V (K (U W)+2) z) (K (U W)+3) (Cd x)).heap[K (U W)+2]?=H (M z 101)/\(AD (AD V (K (U W)+2) z) (K (U W)+3) (Cd x)).heap[K (U W)+3]?=H (M (Cd x) 103)/\A0 W (AD (AD V (K (U W)+2) z) (K (U W)+3) (Cd x)):=by
 refine⟨?_,?_,Dj (Dj h.below E) E⟩
 .rw[Dg _ _ _ _ E];exact CM _ _ _ _ _ _ h.th
 exact CM _ _ _ _ _ _ (sx E h.flt)
theorem Fp.map(h:Fp W A y V)(c:FM k W b kv u ex kl ds):FM k V b kv u ex kl ds:=c.next h.below.size (λj _ a _=>h.below.block j a)
structure I3(W:World)(y:A3)(kv u:Value)(V:World):Prop where
 mv:V.heap[W.heap.size+1]?=some (.cells y 101)
 th:V.heap[W.heap.size+2]?=some (.cells Cr 101)
 flt:V.heap[W.heap.size+3]?=some (.cells (Cd (0,0)) 103)
 two:PE W V kv u
theorem I3.size(h:I3 W y kv u V):K (U W)+4<=K (U V):=Cc h.flt
theorem Fp.w(h:Fp W A y V)(a u:Aq):I3 W y a u V:=⟨h.mv,h.th,h.flt,T6 h.below⟩
theorem I3.drew(h:I3 W y kv u V):I3 W y kv u V.drew:=⟨h.mv,h.th,h.flt,⟨h.two.os,h.two.tape,h.two.output,h.two.size,h.two.block⟩⟩
theorem I3.grow(h:I3 W y kv u V)(hx:∀g,x=H g->g<K (U W)/\(x=Ax kv\/x=Ax u))(a:(Az V o).grownBy w5 x):I3 W y kv u w5:=by have l:=h.size;have k:K (U V)+1<=K (U w5):=C3;have b:∀j,K (U W)<=j->j<K (U V)->w5.heap[j]?=V.heap[j]?:=λj c i=>(a.block j B7 (λe=>B9)).trans (Cx _ _ _ i);refine⟨(b _ E E).trans h.mv,(b _ E E).trans h.th,(b _ E E).trans h.flt,a.os.trans h.two.os,a.tape.trans h.two.tape,a.output.trans h.two.output,E,λj c d f=>?_⟩;refine(a.block j B7 (λe=>?_)).trans ((Cx _ _ _ E).trans (h.two.block j c d f));grind
theorem I3.cell{n:J}{s:AT}{kx ux:Aq}(h:I3 W (Ce kd n s kx ux) kv u V)(a:Aq):I3 W (Ce kd n s a ux) kv u (AB V ⟨K (U W)+1,3,Ao⟩ a)/\I3 W (Ce kd n s kx a) kv u (AB V ⟨K (U W)+1,4,Ao⟩ a):=by
 have b:∀i j,j≠K (U W)+1->(AB V ⟨_,i,Ao⟩ a).heap[j]?=V.heap[j]?:=λi j c=>CY V _ _ _ BP;have d:∀i,PE W (AB V _ a) kv u:=λi=>⟨h.two.os,h.two.tape,h.two.output,by have:=h.two.size;grind [World.setCell],λj c e f=>(b i j E).trans (h.two.block j c e f)⟩
 refine⟨⟨?_,(b _ _ E).trans h.th,(b _ _ E).trans h.flt,d 3⟩,⟨?_,(b _ _ E).trans h.th,(b _ _ E).trans h.flt,d 4⟩⟩
 .rw[DQ _ _ _ _ _ _ h.mv];rfl
 rw[DQ _ _ _ _ _ _ h.mv];rfl
theorem I3.fin(h:I3 W y kv u V)(z:A3)(x:J×J):(AD (AD V (K (U W)+2) z) (K (U W)+3) (Cd x)).heap[K (U W)+2]?=H (M z 101)/\(AD (AD V (K (U W)+2) z) (K (U W)+3) (Cd x)).heap[K (U W)+3]?=H (M (Cd x) 103)/\PE W (AD (AD V (K (U W)+2) z) (K (U W)+3) (Cd x)) kv u:=by
 refine⟨?_,?_,h.two.os,h.two.tape,h.two.output,B2 h.two.size,λj c a b=>?_⟩
 .rw[Dg _ _ _ _ E];exact CM _ _ _ _ _ _ h.th
 .exact CM _ _ _ _ _ _ (sx E h.flt)
 rw[Dg _ _ _ _ E,Dg _ _ _ _ E];exact h.two.block j c a b
theorem su{S:I}{V12 w13 w13' w14 wf:X}{u':Aq}{t:A1}{a:A3}(o:FM k W b kv u ex kl ds)(ah:∀j,ex j->j<K (U W))(r:W.ownsRow b 101 5 u (O ds) xs)(h2:∀(i:I) (d:A2),ds[i]?=H d->∃a,Ha xs i a/\CP k W (λj=>b<=j/\j<K (U W)/\H j≠Ax u/\¬(H j=Ax kv\/ex j)) (.agg a) d)(hb:b<=K (U W))(aa:∀j,j<K (U W)->V12.heap[j]?=W.heap[j]?)(ac:CP k V12 (λj=>L<=j/\j<S) (.agg a) d)(hL:K (U W)+4<=L)(hS:S<=K (U V12))(h4:K (U W)+4<=K (U V12))(ha:a.size=5)(x:w13.ownsRow b 9 1 v' (O kl+1) (kl.map CQ++[CQ t]))(ai:∀j,j<K (U V12)->H j≠Ax kv->w13.heap[j]?=V12.heap[j]?)(Q:Ax v'=Ax kv\/Ax v'=H (K (U V12)+1))(an:K (U V12)+1<=K (U w13))(af:∀j,j≠K (U W)+1->w13'.heap[j]?=w13.heap[j]?)(ar:K (U w13')=K (U w13))(A:w14.ownsRow b 101 5 u' (O ds+1) (xs++a.toList))(aj:∀j,j<K (U w13')->H j≠Ax u->w14.heap[j]?=w13'.heap[j]?)(ae:Ax u'=Ax u\/Ax u'=H (K (U w13')+1))(ao:K (U w13')+1<=K (U w14))(hf:∀j,(j<K (U W)\/K (U W)+4<=j)->wf.heap[j]?=w14.heap[j]?)(au:K (U w14)<=K (U wf)):FM k wf b v' u' ex (kl++[t]) (ds++[d]):=by
 have am:∀g,Ax kv=H g->g<K (U W):=λg e=>Ek o.keys e;have ap:∀g,Ax u=H g->g<K (U W):=λg e=>Ek r e;have aq:∀g,Ax v'=H g->g<K (U w13):=λg e=>Ek x e;have y:∀j,(j<K (U W)\/K (U W)+4<=j)->j<K (U V12)->H j≠Ax kv->H j≠Ax u->wf.heap[j]?=V12.heap[j]?:=λj c al m n=>B9;have B:∀j,j<K (U V12)->H j≠Ax kv->¬H j=Ax v':=λj c m e=>B9;have F:∀j,j<K (U V12)->H j≠Ax u->H j≠Ax u':=λj c m e=>B9;have ag:∀g,Ax v'=H g->¬(Ax u)=H g:=λg e n=>by
  rcases Q with h|h
  .exact o.apart g (h.symm.trans e) n
  grind
 refine⟨?_,⟨xs++a.toList,?_,λi V f=>?_⟩,by rw[Dc,Dc,o.len];rfl,λg m n=>?_,λg e l=>?_,λg e l=>?_⟩
 .rw[Dc,JP];refine⟨x.1,?_⟩;rcases x.2 with h|⟨g,p,q,e,v,l,s⟩
  .exact AF h
  have ak:=Cc l;have ab:Ax v'=H g:=keG;have ad:g<K (U W)\/K (U W)+4<=g:=B9;refine AG ⟨g,p,q,e,v,?_,s⟩;grind
 .rw[Dc];refine⟨A.1,?_⟩;rcases A.2 with h|⟨g,p,q,e,v,l,s⟩
  .exact AF h
  have ab:Ax u'=H g:=keG;have ad:g<K (U W)\/K (U W)+4<=g:=B9;refine AG ⟨g,p,q,e,v,?_,s⟩;grind
 .by_cases z:i<O ds
  .rw[GM z]at f;obtain⟨R,m,n⟩:=h2 i V f;exact⟨R,Wl r.1 z m,n.same (λj c=>⟨c.1,AY c.2.1,F j (AY c.2.1) c.2.2.1,λw=>w.elim (B j (AY c.2.1) (λe=>c.2.2.2 (AF e))) (λe=>c.2.2.2 (AG e))⟩) (λj c=>(y j (AF c.2.1) (AY c.2.1) (λe=>c.2.2.2 (AF e)) c.2.2.1).trans (aa j c.2.1))⟩
  have e:i=O ds:=B9;subst e;rw[IU (Co _),Ql]at f;injection f with f;subst f;have N:∀j,K (U W)<=j->H j≠Ax kv:=λj c e=>B9;have P:∀j,K (U W)<=j->H j≠Ax u:=λj c e=>B9;exact⟨a,Wm r.1 ha,ac.same (λj c=>⟨AY c.1,AY c.2,F j (AY c.2) (P j (AY c.1)),λw=>w.elim (B j (AY c.2) (N j (AY c.1))) (λe=>B9)⟩) (λj c=>y j (AG (AY c.1)) (AY c.2) (N j (AY c.1)) (P j (AY c.1)))⟩
 .grind
 .rcases Q with h|h
  .exact o.exk g (h.symm.trans e) l
  grind
 rcases ae with h|h
 .exact o.exu g (h.symm.trans e) l
 grind
theorem Tryz.infoStrR:(prog.info? 9).map (λi=>(i.zero,i.size,i.bytes))=H (H (.string ByteArray.empty),1,16):=B6
theorem dt{l:AT}:∀u∈[Value.string l],u.oneCell'=AP:=λu a=>by simp at a;subst a;rfl
theorem LA(a:(Az V o).grownBy w5 x)(b:j<K (U V))(hx:H j≠x):w5.heap[j]?=V.heap[j]?:=(a.block j B7 hx).trans (Cx _ _ _ b)
theorem sw{d:J}{dp:J}{ka ua:A4}{kn kc un uc:I}(hl:Lm bs l lim)(hi:Ct bs lim i)(hb:O bs<=281474976710656)(dn:lim<=200000000)(hm:FM k W b (Ac ka kn kc) (Ac ua un uc) ex kl ds)(dl:O kl<=200000000)(ct:∀aj:I,(aj:J)=lim->aj<O bs->rd aj=.error (8,(aj:J)))(dj:b<=K (U W))(cr:∀j,ex j->j<K (U W))(d5:0<=dp)(d6:dp<=100000)(cJ:∀V (aj:I),Ct bs lim aj->Ar As 90 #[.agg (Cp bs fm d l),C Y aj,C Y (dp+1)] V (F5 k bs lim V (rd aj))):Ar As 164 #[.agg (Cp bs fm d l),.agg (Ce 7 0 ⟨#[]⟩ (Ac ka kn kc) (Ac ua un uc)),C Y i,C Y dp] W (dm k bs lim W b (Ac ka kn kc) (Ac ua un uc) ex kl ds (Fk bs lim rd (kl.reverse,Fo kl ds) i)):=by
 obtain⟨dh,hR⟩:=Dx (Fk bs lim rd (kl.reverse,Fo kl ds) i);rw[hR];have HM:=G hm;have HX:D (Fp W (Cp bs fm d l) (Ce 7 0 ⟨#[]⟩ (Ac ka kn kc) (Ac ua un uc)) (Az (Az (Az (Az W (Aj #[Ae ⟨Aw bs⟩,C Y fm,C Y d,C Y l] 115)) (Aj #[C Y 7,C Y 0,Ae ⟨#[]⟩,Ac ka kn kc,Ac ua un uc] 101)) (Aj #[C Y 0,C Y 0,Ae ⟨#[]⟩,Ac Ao 0 0,Ac Ao 0 0] 101)) (Aj #[C Y 0,C Y 0] 103))):=sr W;have b4:=λV (h:FM k V b (Ac ka kn kc) (Ac ua un uc) ex kl ds) t=>af (F:=(λ_=>True)) t (Oi h.keys (λ_ _ _=>trivial)) dl;rcases sj hl ct hi hR with⟨h1,h2⟩|⟨co,hc,h1,⟨hv,h2⟩|⟨hv,cs,h⟩⟩
 case' inr.inr=>have dk:=Ej hc;have d3:((co.toNat:J) != 34)=AQ:=by rw[hv];rfl
 case' inr.inr=>have cQ:=λV=>bJ V fm d hl cs hb dn;unfold Cp at cQ;rcases h with⟨F,hr,h2⟩|⟨tt,ac,hr,bo,d8,⟨bn,h2⟩|⟨bn,hq,⟨F,hw,h2⟩|⟨p3,hw,cw,du,cx,dq,cq⟩⟩⟩
 case' inr.inr.inr.inr.inr =>
  have br:D (∀V (aj:I),Ct bs lim aj->Ar As 90 #[Ag #[Ae ⟨Aw bs⟩,C Y fm,C Y d,C Y l],C Y aj,C Y (dp+1)] V (F5 k bs lim V (rd aj))):=cJ;obtain⟨si,dy,dv,dw,dx⟩:=DD Tryz.infoStrR;obtain⟨ti,d2,dz,d0,d1⟩:=DD Tryz.infoThR;have bx:=G cx;have db:=G cq;have bq:=G dj;have c7:=G cr;obtain⟨xs,cz,cy⟩:=hm.kids;have bb:=G cz;have dg:=G cy;have cp:=λV=>Sx V fm d l hb cw.1;have d7:=cw.1;generalize Es bs l (O bs+1-p3) p3=p4 at *;obtain⟨F,bg⟩:∃F:J×J,D (F=(0,0)):=⟨_,show _=_ from rfl⟩
  have h2:True:=trivial;clear cz cy cx cq dq du
 case' inl=>have cB:=N2 fm d (rfl:CU bs l i 9=_)
 case' inr.inl=>have dk:=Ej hc;have cB:=N2 fm d (rfl:CU bs l i 9=_);have d3:((co.toNat:J) != 34)=AP:=B7
 case' inr.inr.inl =>
  have cu:(F.1==0)=AQ:=B2 (QK (bs:=bs) (lim:=lim) _ _ _ _ F.1 F.2 hr);obtain⟨ap,HG⟩:∃ap,D (ap=F):=⟨_,show _=_ from rfl⟩
  rw[<-AE HG]at hr cu;rw[hr]at cQ;dsimp only[Ng]at cQ;let zb:I:=40
 case' inr.inr.inr.inl =>
  have dr:=bo.1;rw[hr]at cQ;have cK:=λV h=>b4 V h tt;rw[F4 bn]at cK;have cB:∀V,Ar As 84 #[Ag #[Ae ⟨Aw bs⟩,C Y fm,C Y d,C Y l],C Y ((ac:J)-1),C Y 12] V λe W'=>e=Ak (.agg (Cd (CU bs l (ac-1) 12)))/\A0 V W':=λV=>by have h:=Lt V bs fm d l (ac-1) 12;rw[show((ac-1:I):J)=(ac:J)-1 by omega]at h;exact h
 all_goals try
  have h:=hw;clear h;rw[hr]at cQ;have cK:=λV h=>b4 V h tt;rw[Fv bn]at cK;have cS:=λV=>Sx V fm d l hb bo.1;have cW:∀V,Ar As 127 #[Ag #[Ae ⟨Aw bs⟩,C Y fm,C Y d,C Y l],C Y (Es bs l (O bs+1-ac) ac),Ae ⟨#[58]⟩] V λe W'=>e=Ak (Sy (Dn bs lim [58] (Es bs l (O bs+1-ac) ac)))/\A0 V W':=λV=>VG V fm d [58] B8 hl hq hb;rw[hw]at cW;dsimp only[Cp,Sy]at cW
  first
   |have cv:(F.1==0)=AQ:=by have:=Md (bs:=bs) (lim:=lim) _ _ F.1 F.2 hw;simpa using this
    let zb:I:=63;let z0:J:=0
   |have cv:(F.1==0)=AP:=by rw[AE bg];rfl
    rw[<-AE bg]at cW;let z0:J:=p3
  have dr:=bo.1;generalize Es bs l (O bs+1-ac) ac=q2 at *
 all_goals
  try
   dsimp only[Ng]at cQ;obtain⟨ap,HG⟩:∃ap:J×J,D (ap=(0,0)):=⟨_,show _=_ from rfl⟩
   rw[<-AE HG]at cQ;have cu:(ap.1==0)=AP:=by rw[AE HG];rfl
  have HE:=G h2;have cH:=Gi fm d h1;clear h2 hR h1 b4 hl hi ct cJ hm cr
  try clear hc
  try clear hr hv cs
  try clear bn bo
  try clear hw hq
  unfold Cp Ce;go_enter func164,ntmps164
  go_wp2_with(first
   |(go_at_call 116;refine DW (cH _) HX.next (λ_ h=>h.box) ?_;clear cH;intro w2 o c0 c1 c2 c3;have k3:A6 w2 (K (U W)+1) 3 (Ac ka kn kc):=Cb o.mv 3)
   |(go_at_call 128;refine ck (cQ _) o.next ?_;clear cQ;intro w3 cm)
   |(go_at_call 169;refine(cK _ (o.map HM)).mono ?_;clear cK;rintro e V4 ⟨rfl,rfl⟩)
   |((with_reducible refine zF 12 36 rfl rfl (K (U w3)) ap ?_ ?_);exact⟨Z,Z,Cj w3⟩;refine Gx ?_;intro V4 bp;clear o;have o:=G (bp▸cm.next (Kl));have ak:=G (bp▸CM _ _ _ _ _ _ (Cj _));have ao:=G cm.size;have ch:=G (Cc ak);clear bp;generalize K (U w3)=M at *;clear c0 c1 c2 c3 k3;obtain⟨c0,c1,c2,c3⟩:=DV o.box;have k3:A6 V4 (K (U W)+1) 3 (Ac ka kn kc):=Cb o.mv 3;have u0:A6 V4 M 0 (C Y ap.1):=Cb ak 0))
 all_goals try
  have h:=cW;clear h;refine Dl (S:=λn=>JY W (Cp bs fm d l) (Ce 7 0 ⟨#[]⟩ (Ac ka kn kc) (Ac ua un uc)) n) o.drew.s B6 ?_;intro m;refine Cf 0 53 (Ag #[Ae ⟨Aw bs⟩,C Y fm,C Y d,C Y l]) Z (λn u=>yI 4 u.box Z Z) m ?_;refine Cf 1 54 (Ag #[Ae ⟨Aw bs⟩,C Y fm,C Y d,C Y l]) Z (λn u=>yI 4 u.box Z Z) m ?_;refine Ca 2 55 (C Y ac) m ?_;refine CC 3 (λal a=>?_);go_simp;refine(cS _).mono ?_;rintro e w5 ⟨rfl,b5⟩;simp only[];have b2:=G (o.drew.next b5);have bt:=G ((b5.block _ ch).trans ak);refine a.out _ _ b2.s (λ_=>?_);refine CC 4 (λal a=>?_);go_simp;refine(cW _).mono ?_;rintro e w6 ⟨rfl,b6⟩;simp only[];have cn:=G (b2.next b6);have bu:=G ((b6.block _ (Cc bt)).trans bt);have aw:=cn.s;refine a.out _ _ aw (λ_=>?_);refine Ca 5 52 (Af #[C Y z0,.agg (Cd F)]) aw ?_;refine Ca 6 58 (C Y z0) aw ?_;refine Ca 7 59 (.agg (Cd F)) aw ?_;refine Ca 8 2 (C Y z0) aw ?_;rw[AE HG]at bu;refine sF 9 12 59 B6 bu (aw.set M (Cd F) (AY (AE ao))) ?_;refine CG ?_;dsimp only[z0];go_simp;clear o ak u0 c0 c1 c2 c3 k3 m aw b2 bt ch b5 b6;have o:=G (cn.set M (Cd F) ao);have ak:=G (show(AD w6 M (Cd F)).heap[M]?=_ from CM _ _ _ _ _ _ bu);generalize AD w6 M (Cd F)=V7 at *;clear HG;have u0:A6 V7 M 0 (C Y F.1):=Cb ak 0;go_wp2
 all_goals try
  have h:=ak
  try rw[AE HG]at ak
  refine Dl (S:=λn=>JY W (Cp bs fm d l) (Ce 7 0 ⟨#[]⟩ (Ac ka kn kc) (Ac ua un uc)) n/\A7 n M (Cd F) 103) ⟨o.drew.s,ak⟩ B6 ?_;intro m;refine Cf 0 zb (.agg (Ce 7 0 ⟨#[]⟩ (Ac ka kn kc) (Ac ua un uc))) Z (λn u=>yT 5 u.1.mv Z Z) m ?_;refine Cf 1 (zb+1) (.agg (Cd F)) Z (λn u=>yF 12 u.2 Z Z) m ?_;have ai:=NZ (m.1.set (K (U W)+2) (Ce 7 0 ⟨#[]⟩ (Ac ka kn kc) (Ac ua un uc)) (Co _)) ((Dg _ (K (U W)+2) M (Ce 7 0 ⟨#[]⟩ (Ac ka kn kc) (Ac ua un uc)) (AY (AE ao))).trans m.2);refine Hy 2 8 zb B6 o.drew.th thg ai ?_;refine Ca 3 9 (C Y 0) ai ?_;refine sF 4 10 (zb+1) (F:=F) B6 (sx E o.drew.flt) ⟨ai.1.set (K (U W)+3) (Cd F) E,sx (AY (AE ao)) ai.2⟩ ?_;refine CG ?_;dsimp only[zb];go_simp;go_wp2;refine ER results164 (o.drew.fin (Ce 7 0 ⟨#[]⟩ (Ac ka kn kc) (Ac ua un uc)) F) (C Y 0) Z Z Z Z ⟨T6 (o.drew.fin (Ce 7 0 ⟨#[]⟩ (Ac ka kn kc) (Ac ua un uc)) F).2.2,?_⟩;exact⟨.error F,AF HE,_,_,_,_,_,_,_,_,_,_,Z⟩
 rotate_right
 next =>
  have b3:=o;have az:=ak;rw[AE bg]at az;clear o ak bg cv u0 HE;refine Dl (S:=λn=>JY W (Cp bs fm d l) (Ce 7 0 ⟨#[]⟩ (Ac ka kn kc) (Ac ua un uc)) n) (b3.drew.s) B6 ?_;intro m;refine Cf 0 66 (Ag #[Ae ⟨Aw bs⟩,C Y fm,C Y d,C Y l]) Z (λn u=>yI 4 u.box Z Z) m ?_;refine Cf 1 67 (Ag #[Ae ⟨Aw bs⟩,C Y fm,C Y d,C Y l]) Z (λn u=>yI 4 u.box Z Z) m ?_;refine Ca 2 68 (C Y p3) m ?_;refine Ca 4 70 (C Y dp) m ?_;refine Cf 5 71 (C Y (dp+1)) Z (λn u=>?y5) m ?_
  case y5=>(go_simp;exact Hu E)
  refine GP 3 11 (λal a=>?_) (λal a=>?_)
  focus
   go_simp;refine(cp _).mono ?_;rintro e w8 ⟨rfl,a6⟩;simp only[];have a5:=G (b3.drew.next a6);have an:=G ((a6.block _ (Cc (show V7.heap[M]?=_ from az))).trans az);have b8:=a5.s;refine a.out _ _ b8 (λ_=>?_);clear a;refine GP 6 11 (λal a=>?_) (λal a=>?_)
   focus
    go_simp;refine(br _ p4 bx).mono ?_;rintro e f ar;obtain⟨ag,r',N,Q,s,v,A,B,y,q1,P,ae,F,aq,rfl,hA,hF⟩:=Ni ar;simp only[];have bw:=G aq;have bv:=G hF;have p:=G (a5.next ag);have bf:=G ((ag.block _ (Cc (show w8.heap[M]?=_ from an))).trans an);have a7:=G hA;have ci:=G (Cc (show w8.heap[M]?=_ from an));clear ar aq hA hF ag;have bd:=p.s;refine a.out _ _ bd (λ_=>?_);clear a;refine Ca 7 65 (Af #[.agg (Ce N Q s (Ac v A B) (Ac y q1 P)),C Y ae,.agg (Cd F)]) bd ?_;refine Ca 8 73 (.agg (Ce N Q s (Ac v A B) (Ac y q1 P))) bd ?_;refine Ca 9 74 (C Y ae) bd ?_;refine Ca 10 75 (.agg (Cd F)) bd ?_;refine CC 11 (λal a=>?_);go_simp;have av:D (Fp W (Cp bs fm d l) (Ce 7 0 ⟨#[]⟩ (Ac ka kn kc) (Ac ua un uc)) (Az f (Aj Cr 101))):=p.next Cl
    have a8:D ((Az f (Aj Cr 101)).heap[M]?=H (Aj (Cd (0,0)) 103)):=(Cx _ _ _ (Cc (show f.heap[M]?=_ from bf))).trans bf;have ba:D ((Az f (Aj Cr 101)).heap[K (U f)]?=H (Aj Cr 101)):=Cj _;have a9:=G (Cc (show f.heap[M]?=_ from bf));have am:D (∀R q,r'=.ok (R,q)->Ct bs lim q/\ae=(q:J)/\F=(0,0)/\CP k (Az f (Aj Cr 101)) (λj=>K (U w8)<=j/\j<K (U f)) (.agg (Ce N Q s (Ac v A B) (Ac y q1 P))) R):=λR q h=>⟨(a7 R q h).1,(a7 R q h).2.1,(a7 R q h).2.2.1,(a7 R q h).2.2.2.same (λ_ h=>h) (λj hj=>Cx _ _ _ hj.2)⟩
    have a3:D (K (U f)<K (U w8)\/K (U f)<=K (U f)):=AG (Co _);have a2:D (K (U f)<=K (U (Az f (Aj Cr 101)))):=kfo;have aa:=av.s;refine a.out _ (Az f (Aj Cr 101)) aa (λ_=>?_);clear a;generalize Az f (Aj Cr 101)=z at *;obtain⟨S,ax⟩:=IX (K (U f));rw[<-ax]at am a3 a2;generalize K (U f)=T at *;clear p bf a7;generalize K (U w8)=L at *
   rotate_left
   focus
    go_simp;have bc:D (Fp W (Cp bs fm d l) (Ce 7 0 ⟨#[]⟩ (Ac ka kn kc) (Ac ua un uc)) (Az w8 (Aj Cr 101))):=a5.next Cl
    have a0:D ((Az w8 (Aj Cr 101)).heap[M]?=H (Aj (Cd (0,0)) 103)):=(Cx _ _ _ (Cc (show w8.heap[M]?=_ from an))).trans an;have a4:D ((Az w8 (Aj Cr 101)).heap[K (U w8)]?=H (Aj Cr 101)):=Cj _;have a9:=G (Cc (show w8.heap[M]?=_ from an));have b9:=bc.s;refine a.out _ (Az w8 (Aj Cr 101)) b9 (λ_=>?_);clear a;generalize Az w8 (Aj Cr 101)=Va at *;generalize K (U w8)=T at *;refine CC 6 (λal a=>?_);go_simp;refine(br _ p4 bx).mono ?_;rintro e z ar;obtain⟨ag,r',N,Q,s,v,A,B,y,q1,P,ae,F,aq,rfl,hA,hF⟩:=Ni ar;simp only[];have bw:=G aq;have bv:=G hF;have av:=G (bc.next ag);have a8:=G ((ag.block _ (Cc (show Va.heap[M]?=_ from a0))).trans a0);have am:=G hA;have ci:=G (Cc (show Va.heap[M]?=_ from a0));have ba:=G ((ag.block _ (Cc (show Va.heap[T]?=_ from a4))).trans a4);have a3:D (T<K (U Va)\/K (U z)<=T):=AF (Cc (show Va.heap[T]?=_ from a4));have a2:D (K (U z)<=K (U z)):=Co _;clear ar aq hA hF ag;have aa:=av.s;refine a.out _ _ aa (λ_=>?_);clear a;obtain⟨S,ax⟩:=IX (K (U z));rw[<-ax]at am a3;have a2:=G (NY ax);generalize K (U Va)=L at *;refine Ca 7 65 (Af #[.agg (Ce N Q s (Ac v A B) (Ac y q1 P)),C Y ae,.agg (Cd F)]) aa ?_;refine Ca 8 73 (.agg (Ce N Q s (Ac v A B) (Ac y q1 P))) aa ?_;refine Ca 9 74 (C Y ae) aa ?_;refine Ca 10 75 (.agg (Cd F)) aa ?_
  rotate_left 2
  focus
   go_simp;have bc:D (Fp W (Cp bs fm d l) (Ce 7 0 ⟨#[]⟩ (Ac ka kn kc) (Ac ua un uc)) (V7.drew.alloc (Aj Cr 101))):=b3.drew.next Cl
   have a0:D ((V7.drew.alloc (Aj Cr 101)).heap[M]?=H (Aj (Cd (0,0)) 103)):=(Cx _ _ _ (Cc (show V7.drew.heap[M]?=_ from az))).trans az;have a4:D ((V7.drew.alloc (Aj Cr 101)).heap[K (U V7)]?=H (Aj Cr 101)):=Cj _;have a9:D (M<K (U V7)):=Cc (show V7.drew.heap[M]?=_ from az);have b9:=bc.s;refine a.out _ (V7.drew.alloc (Aj Cr 101)) b9 (λ_=>?_);clear a;generalize V7.drew.alloc (Aj Cr 101)=Va at *;generalize K (U V7)=T at *;refine CC 3 (λal a=>?_);go_simp;refine(cp _).mono ?_;rintro e w8 ⟨rfl,a6⟩;simp only[];have a5:=G (bc.next a6);have an:=G ((a6.block _ (Cc (show Va.heap[M]?=_ from a0))).trans a0);have bz:=G ((a6.block _ (Cc a4)).trans a4);have b8:=a5.s;refine a.out _ _ b8 (λ_=>?_);clear a;refine CC 6 (λal a=>?_);go_simp;refine(br _ p4 bx).mono ?_;rintro e z ar;obtain⟨ag,r',N,Q,s,v,A,B,y,q1,P,ae,F,aq,rfl,hA,hF⟩:=Ni ar;simp only[];have bw:=G aq;have bv:=G hF;have av:=G (a5.next ag);have a8:=G ((ag.block _ (Cc (show w8.heap[M]?=_ from an))).trans an);have am:=G hA;have ci:=G (Cc (show w8.heap[M]?=_ from an));have ba:=G ((ag.block _ (Cc (show w8.heap[T]?=_ from bz))).trans bz);have a3:D (T<K (U w8)\/K (U z)<=T):=AF (Cc (show w8.heap[T]?=_ from bz));have a2:D (K (U z)<=K (U z)):=Co _;clear ar aq hA hF ag;have aa:=av.s;refine a.out _ _ aa (λ_=>?_);clear a;obtain⟨S,ax⟩:=IX (K (U z));rw[<-ax]at am a3;have a2:=G (NY ax);generalize K (U w8)=L at *;refine Ca 7 65 (Af #[.agg (Ce N Q s (Ac v A B) (Ac y q1 P)),C Y ae,.agg (Cd F)]) aa ?_;refine Ca 8 73 (.agg (Ce N Q s (Ac v A B) (Ac y q1 P))) aa ?_;refine Ca 9 74 (C Y ae) aa ?_;refine Ca 10 75 (.agg (Cd F)) aa ?_
  all_goals
   have bm:=aa.set T (Ce N Q s (Ac v A B) (Ac y q1 P)) (by grind [D]);refine Hy 12 14 73 B6 (ba) thg (bm) ?_;refine Ca 13 2 (C Y ae) bm ?_;refine sF 14 12 75 B6 (sx (AY (AE a9)) a8) (bm.set M (Cd F) (AY (AE ao))) ?_;refine CG ?_;go_simp;have au:D (Fp W (Cp bs fm d l) (Ce 7 0 ⟨#[]⟩ (Ac ka kn kc) (Ac ua un uc)) (AD (AD z T (Ce N Q s (Ac v A B) (Ac y q1 P))) M (Cd F))):=(av.set T _ (by grind [D])).set M _ ao;have cj:D ((AD (AD z T (Ce N Q s (Ac v A B) (Ac y q1 P))) M (Cd F)).heap[T]?=H (Aj #[C Y N,C Y Q,.string s,Ac v A B,Ac y q1 P] 101)):=sx (AY (AE a9)) (CM _ _ _ _ _ _ ba);have ce:D ((AD (AD z T (Ce N Q s (Ac v A B) (Ac y q1 P))) M (Cd F)).heap[M]?=H (Aj (Cd F) 103)):=CM _ _ _ _ _ _ (sx (AY (AE a9)) a8);have c6:D (∀R q,r'=.ok (R,q)->Ct bs lim q/\ae=(q:J)/\F=(0,0)/\CP k (AD (AD z T (Ce N Q s (Ac v A B) (Ac y q1 P))) M (Cd F)) (λj=>L<=j/\j<S) (.agg (Ce N Q s (Ac v A B) (Ac y q1 P))) R):=λR q h=>⟨(am R q h).1,(am R q h).2.1,(am R q h).2.2.1,(am R q h).2.2.2.same (λ_ h=>h) (λj hj=>by grind [D,setRow_other])⟩
   have dc:D (S<=K (U (AD (AD z T (Ce N Q s (Ac v A B) (Ac y q1 P))) M (Cd F)))):=Br;generalize AD (AD z T (Ce N Q s (Ac v A B) (Ac y q1 P))) M (Cd F)=V12 at *;have cg:=G ((au.map HM).keys);clear aa bm av a8 ba am a2 a3;have k3:A6 V12 (K (U W)+1) 3 (Ac ka kn kc):=Cb au.mv 3
   go_wp2_with(first
    |(at_builtin;(refine Jl Z Z underlying98 dy dv dw dx Z B8 Z (cg.alloc _) 1 1 Z Z (EI) (dt) B8 Bc E (by have:=au.size;have:=AE bq;simp;omega) ?_);intro v' c ca ay c4;obtain⟨r,x,rfl⟩:=ownsRow_succ ca;have bj:D (I3 W (Ce 7 0 ⟨#[]⟩ (Ac ka kn kc) (Ac ua un uc)) (Ac ka kn kc) (Ac ua un uc) c):=(au.w _ _).grow (λg e=>⟨Ek HM.keys e,AF Z⟩) ay;have d4:=G ((LA ay (Cc cj) (λe=>by have:=Ek HM.keys e.symm;grind [D])).trans cj);have c8:=G ((LA ay (Cc ce) (λe=>B3 (Ek HM.keys e.symm) (AE ao))).trans ce);have de:=G (Nl bb (λj e h1 h2=>(LA ay (by grind [D]) (λe2=>HM.apart j e2.symm e)).trans (au.below.block j h2)));have bh:D (c.ownsRow b 9 1 (Ac (Aa r) (O kl+1) x) (O kl+1) (kl.map CQ++[CQ tt])/\(∀j,j<K (U V12)->H j≠Ax (AX ka kn kc)->c.heap[j]?=V12.heap[j]?)/\(Ax (AX (Aa r) (O kl+1) x)=Ax (AX ka kn kc)\/Ax (AX (Aa r) (O kl+1) x)=H (K (U V12)+1))/\K (U V12)+1<=K (U c)):=⟨ca,λj h1 h2=>LA ay h1 h2,c4.imp_right (λh=>Br),by have:=ay.size;simp_all⟩;clear ca ay c4 k3 cg;have k3:A6 c (K (U W)+1) 3 (Ac ka kn kc):=Cb bj.mv 3;have f3:=Dq c (K (U W)+1) 3 _ _ bj.mv;have k4:(AB c ⟨K (U W)+1,3,Ao⟩ (Ac (Aa r) (O kl+1) x)).cell? ⟨K (U W)+1,4,Ao⟩=H (Ac ua un uc):=Cb (bj.cell _).1.mv 4)
    |((with_reducible refine CT rfl 101 (.tmp 14) rfl (T) ?hx 101 (#[C Y N,C Y Q,.string s,Ac v A B,Ac y q1 P]) (0,0) _ ?hg underlying101 rfl ?hi ?_);(case hx=>exact rfl);(case hg=>grind [D,heap_setCell_other]);(case hi=>exact Kf);have cl:D (I3 W (Ce 7 0 ⟨#[]⟩ (Ac (Aa r) (O kl+1) x) (Ac ua un uc)) (Ac ka kn kc) (Ac ua un uc) (AB c ⟨K (U W)+1,3,Ao⟩ (Ac (Aa r) (O kl+1) x))):=(bj.cell _).1;have cf:D ((AB c ⟨K (U W)+1,3,Ao⟩ (Ac (Aa r) (O kl+1) x)).heap[M]?=H (Aj (Cd F) 103)):=(CY c _ _ _ (by grind [D])).trans c8;have df:D ((AB c ⟨K (U W)+1,3,Ao⟩ (Ac (Aa r) (O kl+1) x)).ownsRow b 101 5 (Ac ua un uc) (O ds) xs):=Nl de (λj e h1 h2=>CY c _ _ _ (B0 (Ek bb e)));have cc:D ((∀j,j≠K (U W)+1->(AB c ⟨K (U W)+1,3,Ao⟩ (Ac (Aa r) (O kl+1) x)).heap[j]?=c.heap[j]?)/\K (U (AB c ⟨K (U W)+1,3,Ao⟩ (Ac (Aa r) (O kl+1) x)))=K (U c)):=⟨λj hj=>CY c _ _ _ keO,Bd⟩;generalize AB c ⟨K (U W)+1,3,Ao⟩ (Ac (Aa r) (O kl+1) x)=V13 at *;clear k3 f3)
    |(at_builtin;(refine Jl Z Z underlying99 d2 dz d0 d1 Z B8 Z (df.alloc _) 1 1 Z Z (EI) (T5) B8 (B4 HM.len) (AY HM.len) (by have:=cl.size;have:=AE bq;simp;omega) ?_);intro d9 ad cb be c5;obtain⟨g2,ab,rfl⟩:=ownsRow_succ cb;have b0:=G (cl.grow (λg e=>⟨Ek bb e,AG Z⟩) be);have c9:=G ((LA be (Cc cf) (λe=>B3 (Ek bb e.symm) (AE ao))).trans cf);have bi:D (ad.ownsRow b 101 5 (Ac (Aa g2) (O ds+1) ab) (O ds+1) (xs++[C Y N,C Y Q,.string s,Ac v A B,Ac y q1 P])/\(∀j,j<K (U V13)->H j≠Ax (AX ua un uc)->ad.heap[j]?=V13.heap[j]?)/\(Ax (AX (Aa g2) (O ds+1) ab)=Ax (AX ua un uc)\/Ax (AX (Aa g2) (O ds+1) ab)=H (K (U V13)+1))/\K (U V13)+1<=K (U ad)):=⟨cb,λj h1 h2=>LA be h1 h2,c5.imp_right (λh=>Br),by have:=be.size;simp_all⟩;clear cb be c5 k4;have k4:A6 ad (K (U W)+1) 4 (Ac ua un uc):=Cb b0.mv 4;have f4:=Dq ad (K (U W)+1) 4 _ _ b0.mv))
   have bk:D (I3 W (Ce 7 0 ⟨#[]⟩ (Ac (Aa r) (O kl+1) x) (Ac (Aa g2) (O ds+1) ab)) (Ac ka kn kc) (Ac ua un uc) (AB ad ⟨K (U W)+1,4,Ao⟩ (Ac (Aa g2) (O ds+1) ab))):=(b0.cell _).2;have da:D ((AB ad ⟨K (U W)+1,4,Ao⟩ (Ac (Aa g2) (O ds+1) ab)).heap[M]?=H (Aj (Cd F) 103)):=(CY ad _ _ _ (by grind [D])).trans c9;have cd:D ((∀j,j≠K (U W)+1->(AB ad ⟨K (U W)+1,4,Ao⟩ (Ac (Aa g2) (O ds+1) ab)).heap[j]?=ad.heap[j]?)/\K (U (AB ad ⟨K (U W)+1,4,Ao⟩ (Ac (Aa g2) (O ds+1) ab)))=K (U ad)):=⟨λj hj=>CY ad _ _ _ keO,Bd⟩
   generalize AB ad ⟨K (U W)+1,4,Ao⟩ (Ac (Aa g2) (O ds+1) ab)=V15 at *;clear k4 f4;refine Dl (S:=λn=>A7 n (K (U W)+1) (Ce 7 0 ⟨#[]⟩ (Ac (Aa r) (O kl+1) x) (Ac (Aa g2) (O ds+1) ab)) 101/\A7 n M (Cd F) 103) (⟨bk.mv,da⟩) B6 ?_;intro m;refine Cf 0 88 (.agg (Ce 7 0 ⟨#[]⟩ (Ac (Aa r) (O kl+1) x) (Ac (Aa g2) (O ds+1) ab))) Z (λn u=>yT 5 u.1 Z Z) m ?_;refine Ca 1 89 (C Y ae) m ?_;refine Cf 2 90 (.agg (Cd F)) Z (λn u=>yF 12 u.2 Z Z) m ?_;have bl:=NZ ((Dg _ (K (U W)+2) (K (U W)+1) (Ce 7 0 ⟨#[]⟩ (Ac (Aa r) (O kl+1) x) (Ac (Aa g2) (O ds+1) ab)) E).trans m.1) ((Dg _ (K (U W)+2) M (Ce 7 0 ⟨#[]⟩ (Ac (Aa r) (O kl+1) x) (Ac (Aa g2) (O ds+1) ab)) (AY (AE ao))).trans m.2);refine Hy 3 8 88 B6 (bk.drew.th) thg (bl) ?_;refine Ca 4 9 (C Y ae) bl ?_;refine sF 5 10 90 (g:=(K (U W)+3)) (F:=F) B6 (sx E bk.drew.flt) (⟨sx E bl.1,sx (AY (AE ao)) bl.2⟩) ?_;refine CG ?_;go_simp;go_wp2;have hf:=bk.drew.fin (Ce 7 0 ⟨#[]⟩ (Ac (Aa r) (O kl+1) x) (Ac (Aa g2) (O ds+1) ab)) (F);refine ER results164 hf (C Y ae) Z Z Z Z ⟨hf.2.2,?_⟩;refine⟨PD kl ds tt r',db r' bw,?_⟩;obtain di|ah:=r'
   .obtain rfl:=bv.out di rfl;exact⟨_,_,_,_,_,_,_,_,_,_,Z⟩
   obtain⟨R,q⟩:=ah;obtain⟨hq,rfl,rfl,hA⟩:=c6.out R q rfl;refine⟨hq,tt,R,_,_,_,_,_,_,Z,Z,?_⟩;exact su HM c7 bb dg bq (λj hj=>au.below.block j hj) hA (by grind [D]) dc au.size Z bh.1 bh.2.1 bh.2.2.1 bh.2.2.2 cc.1 cc.2 bi.1 bi.2.1 bi.2.2.1 bi.2.2.2 (λj hj=>by rw[Dg _ _ _ _ E,Dg _ _ _ _ E];exact cd.1 j E) (B0 cd.2)
 all_goals
  obtain⟨ah,hx⟩:∃ah,D (dh=.error ah)/\∀V,Ar As 84 _ V λe W'=>e=Ak (.agg (Cd ah))/\A0 V W':=⟨_,HE,cB⟩
  obtain⟨HE,cB⟩:=hx;refine Dl (S:=λn=>JY W (Cp bs fm d l) (Ce 7 0 ⟨#[]⟩ (Ac ka kn kc) (Ac ua un uc)) n) o.drew.s B6 ?_;intro m;refine IY 0 (.agg (Ce 7 0 ⟨#[]⟩ (Ac ka kn kc) (Ac ua un uc))) Z (λn u=>yT 5 u.mv Z Z) m ?_;refine IY 1 (Ag #[Ae ⟨Aw bs⟩,C Y fm,C Y d,C Y l]) Z (λn u=>yI 4 u.box Z Z) m ?_
 next =>
  refine Ca 2 49 (C Y ac) m ?_;refine Cf 3 50 (C Y ((ac:J)-1)) Z (λn u=>?y3) m ?_
  case y3=>(go_simp;exact Hu E)
  refine CC 4 (λal a=>?_);go_simp;refine(cB _).mono ?_;rintro e f ⟨rfl,b7⟩;simp only[];have p:=G (o.drew.next b7);refine a.out _ _ p.s (λ_=>?_);have ai:=p.s.set (K (U W)+2) (Ce 7 0 ⟨#[]⟩ (Ac ka kn kc) (Ac ua un uc)) (Co _);refine Hy 5 8 47 B6 p.th thg ai ?_;refine Ca 6 9 (C Y 0) ai ?_;refine sF 7 10 51 B6 (sx E p.flt) (ai.set (K (U W)+3) (Cd ah) E) ?_;refine CG ?_;go_simp;go_wp2;refine ER results164 (p.fin (Ce 7 0 ⟨#[]⟩ (Ac ka kn kc) (Ac ua un uc)) ah) (C Y 0) Z Z Z Z ⟨T6 (p.fin (Ce 7 0 ⟨#[]⟩ (Ac ka kn kc) (Ac ua un uc)) ah).2.2,?_⟩;exact⟨.error ah,AF HE,_,_,_,_,_,_,_,_,_,_,Z⟩
 all_goals
  refine Ca 2 28 (C Y i) m ?_;refine CC 3 (λal a=>?_);go_simp;refine(cB _).mono ?_;rintro e f ⟨rfl,b7⟩;simp only[];have p:=G (o.drew.next b7);refine a.out _ _ p.s (λ_=>?_);have ai:=p.s.set (K (U W)+2) (Ce 7 0 ⟨#[]⟩ (Ac ka kn kc) (Ac ua un uc)) (Co _);refine Hy 4 8 26 B6 p.th thg ai ?_;refine Ca 5 9 (C Y 0) ai ?_;refine sF 6 10 29 B6 (sx E p.flt) (ai.set (K (U W)+3) (Cd ah) E) ?_;refine CG ?_;go_simp;go_wp2;refine ER results164 (p.fin (Ce 7 0 ⟨#[]⟩ (Ac ka kn kc) (Ac ua un uc)) ah) (C Y 0) Z Z Z Z ⟨T6 (p.fin (Ce 7 0 ⟨#[]⟩ (Ac ka kn kc) (Ac ua un uc)) ah).2.2,?_⟩;exact⟨.error ah,AF HE,_,_,_,_,_,_,_,_,_,_,Z⟩
theorem du{α:Type}{itF:α->I->A5 α}{acc:α}{R:A5 α}{f:J×J}(h:Om bs lim itF last g p acc R)(c:Gh bs lim (itF acc p) (.error f))(i:(p:J)=lim->p<O bs->itF acc p=.error (8,(p:J))):R=.error f:=by
 have j:itF acc p=.error f:=by rcases c with h|⟨q,_,_,_,x,b⟩<;>grind
 rcases h.2 with⟨d,_,a⟩|⟨a,e,b⟩<;>grind [Py]
theorem dv{α:Type}(hl:Lm bs l lim){itF:α->I->A5 α}{acc acc':α}{R:A5 α}(h:Om bs lim itF last g p acc R)(A:Gh bs lim (itF acc p) (.ok (acc',q)))(S:(p:J)=lim->p<O bs->itF acc p=.error (8,(p:J)))(z:∀x q,itF acc p=.ok (x,q)->p<q)(r:Ct bs lim q)(Q:O bs+1<=p+g)(i:p3=Es bs l (O bs+1-q) q):Ct bs lim p3/\((CH bs l p3=AQ/\R=.error (CU bs l p3 9))\/∃c,bs[p3]?=H c/\CH bs l p3=AP/\((c.toNat=last/\R=.ok (acc',p3+1)/\Ct bs lim (p3+1))\/(¬c.toNat=last/\c.toNat=44/\Ct bs lim (p3+1)/\∃a,g=a+2/\p<p3/\Fy bs lim itF last (a+1) (p3+1) acc'=R)\/(¬c.toNat=last/\¬c.toNat=44/\R=.error (CU bs l p3 9)))):=by
 rcases A with s|⟨q',P,m,n,x,d⟩
 .have V:=z acc' q s;rcases h.2 with⟨a,e,o⟩|⟨m,n,d⟩
  .obtain⟨t,B,f⟩:=s9 hl r i s o;refine⟨t,?_⟩;rcases f with f|⟨c,j,u,b⟩
   .exact AF f
   refine AG ⟨c,j,u,?_⟩;rcases b with b|⟨F,c2,L,N⟩|b
   .exact AF b
   .have:=Dh j;obtain⟨k,rfl⟩:∃k,a=k+1:=⟨a-1,E⟩
    grind
   exact AG (AG b)
  grind
 injection d with d;injection d with h5 h6;subst h6;obtain⟨v,w,y⟩:=sd hl m n;rw[v]at i;subst i;refine⟨r,AF ⟨w,?_⟩⟩;rw[y];rcases h.2 with⟨a,_,o⟩|⟨W,k3,k4⟩<;>grind [Py]
theorem dw{a:AJ A1×AJ (Lit×AM Unit)}(b:(p:J)=lim)(hl:p<O bs):Fk bs lim rd a p=.error (8,(p:J)):=by grind [Fk,J2,Dn]
def dx(r:AS (AI×AI) ((AJ A1×AJ (Lit×AM Unit))×AH)):AS (AI×AI) (AM Unit×AH):=match r with
 |.error e=>.error e
 |.ok (es,q)=>.ok (.map es.2,q)
theorem sy{n:J}{s:AT}(h:Fz W A (Ce kd n s kv u) V)(x:J):Fz W A (Ce x n s kv u) (AB V ⟨K (U W)+3,0,Ao⟩ (C Y x)):=by have a:∀j,j≠K (U W)+3->(AB V ⟨K (U W)+3,0,Ao⟩ (C Y x)).heap[j]?=V.heap[j]?:=λj b=>CY V _ _ _ BB;refine⟨(a _ E).trans h.box,(a _ E).trans h.th,(a _ E).trans h.flt,?_,h.below.trans ⟨Z,Z,Z,Bd,λj b=>a j E⟩⟩;rw[DQ _ _ _ _ _ _ h.tv];rfl
theorem sA(h:Fz W A y V)(b:PE V V' kv u)(d:∀g,Ax kv=H g->K (U W)+4<=g)(i:∀g,Ax u=H g->K (U W)+4<=g):Fz W A y V':=by have f:=h.size;have a:∀j,j<K (U W)+4->V'.heap[j]?=V.heap[j]?:=λj c=>b.block j E (λe=>B9) (λe=>B9);exact⟨(a _ E).trans h.box,(a _ E).trans h.th,(a _ E).trans h.flt,(a _ E).trans h.tv,h.below.trans ⟨b.os,b.tape,b.output,b.size,λj c=>a j E⟩⟩
theorem sB(h:Fz W A y V):Fz W A z (AD V (K (U W)+3) z) :=
 ⟨sx E h.box,sx E h.th,sx E h.flt,CM _ _ _ _ _ _ h.tv,Dj h.below E⟩
theorem sC(h:Fz W A y V)(a:K (U W)+4<=j):Fz W A y (AD V j z) :=
 ⟨sx E h.box,sx E h.th,sx E h.flt,sx E h.tv,Dj h.below E⟩
def Fq(m:AK):AI:=bif m then 7 else 6
def T8(m:AK)(kl:AJ A1)(ds:AJ (AM Unit)):A2:=bif m then .map (Fo kl ds)else .agg ds
def Nm(m:AK):AH:=bif m then 125 else 93
def QY(m:AK)(bs:A1)(lim:AI)(rd:AH->AS (AI×AI) (AM Unit×AH))(p:AH):AS (AI×AI) (AM Unit×AH):=bif m then dx (G3 bs lim (Fk bs lim rd) 125 p ([],[]))else Wu (G3 bs lim (FL rd) 93 p [])
def Nn(m:AK)(bs:A1)(lim:AI)(rd:AH->AS (AI×AI) (AM Unit×AH))(g p:AH)(kl:AJ A1)(ds:AJ (AM Unit))(R:AS (AI×AI) (AM Unit×AH)):Prop :=
 bif m then∃R',Om bs lim (Fk bs lim rd) 125 g p (kl.reverse,Fo kl ds) R'/\dx R'=R else∃R',Om bs lim (FL rd) 93 g p ds R'/\Wu R'=R
theorem sJ{p1:I}(hl:Lm bs l lim)(hi:Ct bs lim p)(h:p1=Es bs l (O bs+1-p) p)(i:QY m bs lim rd p=R):Ct bs lim p1/\((∃c,bs[p1]?=H c/\CH bs l p1=AP/\c.toNat=Nm m/\R=.ok (T8 m [] [],p1+1)/\Ct bs lim (p1+1))\/((CH bs l p1=AQ\/∃c,bs[p1]?=H c/\CH bs l p1=AP/\¬c.toNat=Nm m)/\Nn m bs lim rd (O bs+1-p1) p1 [] [] R)):=by
 subst i;cases m
 .obtain⟨d,⟨c,a,b,e,f,g⟩|⟨a,b⟩⟩:=dj (itF:=FL rd) (last:=93) (acc:=[]) hl hi h rfl
  .exact⟨d,AF ⟨c,a,b,e,by simp only[QY,cond,f];rfl,g⟩⟩
  exact⟨d,AG ⟨a,_,b,Z⟩⟩
 obtain⟨d,⟨c,a,b,e,f,g⟩|⟨a,b⟩⟩:=dj (itF:=Fk bs lim rd) (last:=125) (acc:=([],[])) hl hi h rfl
 .exact⟨d,AF ⟨c,a,b,e,by simp only[QY,cond,f];rfl,g⟩⟩
 exact⟨d,AG ⟨a,_,b,Z⟩⟩
def Ot(m:AK)(bs:A1)(lim:AI)(rd:AH->AS (AI×AI) (AM Unit×AH))(p:AH)(kl:AJ A1)(ds:AJ (AM Unit))(r:AS (AI×AI) ((AJ A1×AJ (AM Unit))×AH)):Prop :=
 bif m then At kl=At ds/\∃r',Gh bs lim (Fk bs lim rd (kl.reverse,Fo kl ds) p) r'/\match r with
  |.error e=>r'=.error e
  |.ok (x,q)=>∃lk dd,r'=.ok ((lk::kl.reverse,Fo kl ds++[(.string lk,dd)]),q)/\x=(kl++[lk],ds++[dd])
 else∃r',Gh bs lim (rd p) r'/\match r with
  |.error e=>r'=.error e
  |.ok (x,q)=>∃dd,r'=.ok (dd,q)/\x=(kl,ds++[dd])
theorem dD(h:Gh bs lim (rd p) r):Gh bs lim (FL rd ds p) (match r with|.error e=>.error e|.ok (d,q)=>.ok (ds++[d],q)):=by grind [Gh,FL]
theorem dE(c:(p:J)=lim->p<n->rd p=.error (8,(p:J)))(a:(p:J)=lim)(b:p<n):FL rd ds p=.error (8,(p:J)):=by simp only[FL,c a b]
theorem dF{f:J×J}(h:Nn m bs lim rd g p kl ds R)(hi:Ot m bs lim rd p kl ds (.error f))(e:(p:J)=lim->p<O bs->rd p=.error (8,(p:J)))(b:∀p,Dz (rd p)):R=.error f/\(f.1==0)=AQ:=by
 cases m
 .obtain⟨c,h,rfl⟩:=h;obtain⟨i,a,rfl⟩:=hi;have:=aV a (b p) f.1 f.2 Z;exact⟨by rw[du h (dD a) (dE e)];rfl,by simpa using this⟩
 obtain⟨c,h,rfl⟩:=h;obtain⟨_,i,a,rfl⟩:=hi;have:=aV a (aU b _ p) f.1 f.2 Z;exact⟨by rw[du h a (λd a=>dw d a)];rfl,by simpa using this⟩
theorem dG(hl:Lm bs l lim)(hi:Ct bs lim p):p<=Es bs l g p:=by
 rcases Ma hl g p hi with⟨c,_,a,_,b,_⟩|⟨c,_,a,d,_⟩
 .rw[a];exact b
 rw[a];have:=hi.2;omega
theorem sK{p4:I}(hl:Lm bs l lim)(h:Nn m bs lim rd g p kl ds R)(hi:Ot m bs lim rd p kl ds (.ok ((kl',ds'),q)))(B:(p:J)=lim->p<O bs->rd p=.error (8,(p:J)))(A:∀p x q,rd p=.ok (x,q)->p<q)(v:Ct bs lim q)(t:O bs+1<=p+g)(u:p3=Es bs l (O bs+1-q) q)(L:p4=Es bs l (O bs+1-(p3+1)) (p3+1)):Ct bs lim p3/\((CH bs l p3=AQ/\R=.error (CU bs l p3 9))\/∃c,bs[p3]?=H c/\CH bs l p3=AP/\((c.toNat=Nm m/\R=.ok (T8 m kl' ds',p3+1)/\Ct bs lim (p3+1))\/(¬c.toNat=Nm m/\c.toNat=44/\Ct bs lim (p3+1)/\∃j,g=j+2/\p<p3/\p3+1<=p4/\Nn m bs lim rd (j+1) p4 kl' ds' R)\/(¬c.toNat=Nm m/\¬c.toNat=44/\R=.error (CU bs l p3 9)))):=by
 subst L;cases m
 .obtain⟨w,h,rfl⟩:=h;obtain⟨N,k,y,rfl,e⟩:=hi;cases e;obtain⟨r,a⟩:=dv hl h (dD k) (dE B) (λx q e=>by unfold FL at e;grind) v t u;refine⟨r,?_⟩;rcases a with⟨a,rfl⟩|⟨c,a,f,⟨b,rfl,d⟩|⟨b,d,i,j,s,n,o⟩|⟨b,d,rfl⟩⟩
  .exact AF ⟨a,Z⟩
  .exact AG ⟨c,a,f,AF ⟨b,Z,d⟩⟩
  .exact AG ⟨c,a,f,AG (AF ⟨b,d,i,j,s,n,dG hl i,_,bT hl i o,Z⟩)⟩
  exact AG ⟨c,a,f,AG (AG ⟨b,d,Z⟩)⟩
 obtain⟨w,h,rfl⟩:=h;obtain⟨F,N,k,P,y,rfl,e⟩:=hi;cases e;obtain⟨r,a⟩:=dv hl h k (λz k=>dw z k) (λx q h=>VN A _ _ _ _ h) v t u;refine⟨r,?_⟩;rw[<-Wv F]at a;rcases a with⟨a,rfl⟩|⟨c,a,f,⟨b,rfl,d⟩|⟨b,d,i,j,s,n,o⟩|⟨b,d,rfl⟩⟩
 .exact AF ⟨a,Z⟩
 .exact AG ⟨c,a,f,AF ⟨b,Z,d⟩⟩
 .exact AG ⟨c,a,f,AG (AF ⟨b,d,i,j,s,n,dG hl i,_,Ux▸bT hl i o,Z⟩)⟩
 exact AG ⟨c,a,f,AG (AG ⟨b,d,Z⟩)⟩
def KM(m:AK)(k:AH)(V:Ap)(b:AH)(kv u:Aq)(kl:AJ A1)(ds:AJ (AM Unit)):Prop:=bif m then FM k V b kv u (λ_=>False) kl ds else(kl=[]/\kv=Cm)/\Iw k V b u (λ_=>False) ds
theorem KM.next(h:KM m k V b kv u kl ds)(d:K (U V)<=K (U V'))(c:∀j,b<=j->j<K (U V)->V'.heap[j]?=V.heap[j]?):KM m k V' b kv u kl ds:=by
 cases m
 .exact⟨h.1,Iw.next h.2 d c⟩
 exact FM.next h d λj a b _=>c j a b
theorem KM.fin(h:KM m k V b kv u kl ds)(a:B<=b):CP (k+1) V (λj=>B<=j/\j<K (U V)) (.agg (Ce (Fq m) 0 ⟨#[]⟩ kv u)) (T8 m kl ds):=by
 cases m
 .obtain⟨⟨rfl,rfl⟩,h⟩:=h;exact Iw.list h a
 exact FM.map h a
theorem sL{n:J}{s:AT}(h:Fz W A (Ce kd n s kv u) V)(a:Aq):Fz W A (Ce kd n s kv a) (AB V ⟨K (U W)+1+1+1,4,Ao⟩ a):=sq h
theorem sM(h:Ot m bs lim rd p kl ds (.ok ((kl',ds'),q))):O ds'=O ds+1:=by
 cases m
 .obtain⟨_,_,_,_,h⟩:=h;cases h;simp
 obtain⟨_,_,_,_,_,_,h⟩:=h;cases h;simp
theorem sN(h:Nn m bs lim rd g p kl ds R):Ct bs lim p:=by cases m<;>(obtain⟨_,h,_⟩:=h;exact h.1)
theorem dH(c:AU)(L:J)(h:L=n):(c.toNat=n->((c.toNat:J)==L)=AP/\((c.toNat:J) != L)=AQ)/\(¬c.toNat=n->((c.toNat:J)==L)=AQ/\((c.toNat:J) != L)=AP):=by subst h;simp;omega
theorem Wz:KM m k V b Cm Cm [] []:=by
 cases m
 .exact⟨⟨Z,Z⟩,Wn⟩
 exact se
theorem sO(t:m=AQ)(h:F5 k bs lim W (rd p) e W'):∃c n s a i j b d x z F,e=Ak (Af #[.agg (Ce c n s (T a i j) (T b d x)),C Y z,.agg (Cd F)])/\(Ot m bs lim rd p kl ds (.error F)\/F=(0,0)/\∃(g:A2) (q:I),z=q/\Ct bs lim q/\CP k W' (λj=>K (U W)<=j/\j<K (U W')) (.agg (Ce c n s (T a i j) (T b d x))) g/\Ot m bs lim rd p kl ds (.ok ((kl,ds++[g]),q))):=by
 subst t;obtain⟨_,u,l,h⟩:=h;obtain f|y:=u
 .obtain⟨c,n,s,a,i,j,b,d,x,z,h⟩:=h;exact⟨c,n,s,a,i,j,b,d,x,z,f,h,AF ⟨_,l,Z⟩⟩
 obtain⟨o,c,n,s,a,i,j,b,d,x,h,r⟩:=h;exact⟨c,n,s,a,i,j,b,d,x,y.2,(0,0),h,AG ⟨Z,y.1,y.2,Z,o,r,_,l,_,Z,Z⟩⟩
theorem sP(B:m=AP){b0:I}(h:dm k bs lim W b0 kv u ex kl ds (Fk bs lim rd (kl.reverse,Fo kl ds) p) e W')(o:O kl=O ds):∃d n s a i j b c x z F,e=Ak (Af #[.agg (Ce d n s (T a i j) (T b c x)),C Y z,.agg (Cd F)])/\(Ot m bs lim rd p kl ds (.error F)\/F=(0,0)/\(d=7/\n=0/\s=⟨#[]⟩)/\∃r g,∃q:I,z=q/\Ct bs lim q/\FM k W' b0 (T a i j) (T b c x) ex r g/\Ot m bs lim rd p kl ds (.ok ((r,g),q))):=by
 subst B;obtain⟨_,N,l,h⟩:=h;obtain f|y:=N
 .obtain⟨d,n,s,a,i,j,b,c,x,z,h⟩:=h;exact⟨d,n,s,a,i,j,b,c,x,z,f,h,AF ⟨o,_,l,Z⟩⟩
 obtain⟨v,L,t,a,i,j,b,c,x,w,h,A⟩:=h;exact⟨7,0,⟨#[]⟩,a,i,j,b,c,x,y.2,(0,0),h,AG ⟨Z,⟨Z,Z,Z⟩,_,_,y.2,Z,v,A,o,_,l,L,t,by rw[<-w],Z⟩⟩
theorem dI(k:I)(W:X){d:J}(dp:J){c:AU}(hc:bs[i]?=H c)(hv:c.toNat=bif m then 123 else 91)(hp:¬(i:J)=lim)(hl:Lm bs l lim)(hi:Ct bs lim i)(hb:O bs<=281474976710656)(cm:lim<=200000000)(c8:0<=dp)(dm:dp<d)(dn:d<=100000)(ch:∀p,Dz (rd p))(cn:∀p:I,(p:J)=lim->p<O bs->rd p=.error (8,(p:J)))(cj:∀p dl ah,rd p=.ok (dl,ah)->p<ah)(cJ:∀V (p:I),Ct bs lim p->Ar As 90 #[.agg (Cp bs fm d l),C Y p,C Y (dp+1)] V (F5 k bs lim V (rd p))):Ar As 129 #[.agg (Cp bs fm d l),C Y i,C Y dp] W (F5 (k+1) bs lim W (QY m bs lim rd (i+1))):=by
 obtain⟨ti,dh,de,df,dg⟩:=DD Tryz.infoThR;obtain⟨a4,HR⟩:=CA (QY m bs lim rd (i+1));rw[AE HR];have dr:=Dh hc;have dt:=Ej (bs:=bs) (k:=i) (c:=c) hc;have dk:((c.toNat:J)==123)=m:=by rw[hv];cases m<;>rfl
 have ck:=Ed hi hc hp;have HL:=G hl;have cH:=N5 bs fm d l;have cB:=Oa bs fm d l;have cS:=λV p hp=>Sx V (bs:=bs) fm d l (i:=p) hb hp;have bz:D (∀V (p:I),Ct bs lim p->Ar As 90 #[Ag #[Ae ⟨Aw bs⟩,C Y fm,C Y d,C Y l],C Y p,C Y (dp+1)] V (F5 k bs lim V (rd p))):=cJ;have bw:=G ch;have az:=G cn;have cs:=G cj;have a5:=λV=>cS V (i+1) E;obtain⟨A,bq⟩:=IX (Es bs l (O bs+1-(i+1)) (i+1));obtain⟨br,bv⟩:=sJ (m:=m) hl ck bq HR;rw[<-bq]at a5;have dx:=br.1;have bi:=λV=>cH V A;have dq:_root_.Decidable.decide (d<=dp)=AQ:=B7;have bv:(CH bs l A=AQ/\D (Nn m bs lim rd (O bs+1-A) A [] [] a4))\/∃B,bs[A]?=H B/\CH bs l A=AP/\(((B.toNat:J)==bif m then 125 else 93)=AQ/\D (Nn m bs lim rd (O bs+1-A) A [] [] a4)\/((B.toNat:J)==bif m then 125 else 93)=AP/\D (a4=.ok (T8 m [] [],A+1)/\Ct bs lim (A+1))):=by unfold D;cases m<;>simp only[Nm,cond]at bv ⊢<;>grind
 have ct:=G br;clear hc hv hp hl hi ck cJ cj ch cn bq HR br;rcases bv with⟨hh,N⟩|⟨B,ag,hh,h⟩
 case' inr=>have dv:=λV=>Ej (bs:=bs) (k:=A) (c:=B) ag V;have d2:=Dh ag;clear ag;rcases h with⟨au,N⟩|⟨au,a2⟩
 all_goals
  rw[hh]at bi;clear hh;rcases Bool.eq_false_or_eq_true m with P|P
  case' inl=>have bn:Fq m=7:=by rw[P];rfl
  case' inl=>have b6:=G P;have a3:=G (λc=>dH c 125 (show(125:J)=Nm m by rw[P];rfl))
  case' inr=>have bn:Fq m=6:=by rw[P];rfl
  case' inr=>have be:=G P;have a3:=G (λc=>dH c 93 (show(93:J)=Nm m by rw[P];rfl))
 all_goals
  rw[P]at dk
  try(simp only[P,cond]at au)
  have an:=G bn;clear P bn;unfold Cp;go_enter func129,ntmps129
  go_wp2_with(first
   |(go_at_call 83;(first|refine Mb (a5 _) w.next ?_|refine Mb (a5 _) (sy w 7).next ?_);clear a5 n r c2 u k0 f0;intro w2 c7 Q;obtain⟨n,r,c2,u⟩:=DV Q.box)
   |(go_at_call 116;refine Mb (bi _) Q.next ?_;clear bi n r c2 u;intro w3 al a;rw[<-AE an]at a;obtain⟨n,r,c2,u⟩:=DV a.box)
   |((with_reducible refine zT 9 21 rfl rfl (K (U W)+3) (Ce 6 0 ⟨#[]⟩ Cm Cm) ?_ ?_);exact⟨Z,Z,s7 W,thg⟩;refine Z6 (rZ W (Ce 6 0 ⟨#[]⟩ Cm Cm)) ?_;intro V0 w;obtain⟨n,r,c2,u⟩:=DV w.box;have k0:A6 V0 (K (U W)+1+1+1) 0 (C Y 6):=Cb w.tv 0;have f0:=Dq V0 (K (U W)+3) 0 _ _ w.tv)
   |((with_reducible refine CT rfl 101 (.tmp 9) rfl (K (U W)+3) ?hx 101 (Ce (Fq m) 0 ⟨#[]⟩ Cm Cm) (0,0) _ ?hg underlying101 rfl ?hi ?_);(case hx=>exact rfl);(case hg=>exact a.tv);(case hi=>exact Oc))
   |((with_reducible refine zT 6 43 rfl rfl (K (U W)+1) (Ce (Fq m) 0 ⟨#[]⟩ Cm Cm) ?_ ?_);exact⟨Z,Z,a.th,thg⟩)
   |((with_reducible refine zF 8 46 rfl rfl (K (U W)+2) (0,0) ?_ ?_);exact⟨Z,Z,FZ a.rth CO⟩))
 all_goals try
  have hr:=AE a2;refine ER results129 (EB a.rth CO _ (0,0)) (C Y ((A:J)+1)) Z Z Z Z ⟨(EB a.rth CO _ (0,0)).2.2,?_⟩;refine⟨_,AF hr.1,hr.2,_,_,_,_,_,_,_,_,_,Z,?_⟩;exact(Wz (m:=m) (k:=k) (b:=K (U W))).fin (Co _)
 all_goals
  go_loopg[1] (O bs+1-A) (λg z wr=>∃(p:I) (kl:AJ A1) (ds:AJ (AM Unit)) (ka:A4) (kn kc:I) (ua:A4) (un uc:I),z=C Y p/\D (O bs+1<=p+g)/\D (Nn m bs lim rd g p kl ds a4)/\D (O ds<=p)/\D (Ct bs lim p)/\D (Fz W (Cp bs fm d l) (Ce (Fq m) 0 ⟨#[]⟩ (Ac ka kn kc) (Ac ua un uc)) wr)/\D (KM m k wr (K (U W)+4) (Ac ka kn kc) (Ac ua un uc) kl ds))
  case atStart=>exact⟨A,[],[],Ao,0,0,Ao,0,0,rfl,Bp,N,En _,ct,a,Wz⟩
  case round =>
   clear N w Q a c7 al n r c2 u;obtain⟨p,kl,ds,ka,kn,kc,ua,un,uc,rfl,hg,N,a8,HI,w,aj⟩:=hrel;have d1:=Int.le_trans HI.2 cm;have dw:=HI.1;have d6:=w.size;rw[AE an]at w;obtain⟨n,r,c2,u⟩:=DV w.box;have k0:A6 wr (K (U W)+1+1+1) 0 (C Y (Fq m)):=AE an▸Cb w.tv 0;have k4:A6 wr (K (U W)+1+1+1) 4 (Ac ua un uc):=Cb w.tv 4;have n0:K (U W)+1+1+1<K (U wr):=E;have n2:K (U W)+3<K (U wr):=E;have n1:K (U W)<K (U wr):=E;rw[AE an]at k0
   go_wp2_with(first
    |((with_reducible refine CT rfl 101 (.tmp 9) rfl (K (U W)+3) ?hx 101 (#[C Y 7,C Y 0,Ae ⟨#[]⟩,Ac ka kn kc,Ac ua un uc]) (0,0) _ ?hg underlying101 rfl ?hi ?_);(case hx=>exact rfl);(case hg=>exact(Cx _ _ _ E).trans w.tv);(case hi=>exact Kf)))
   clear n r c2 u k0 k4 n0 n1 n2
   try
    have aj:KM AQ k wr (K (U W)+4) (Ac ka kn kc) (Ac ua un uc) kl ds:=AE be▸AE aj;refine(bz _ p HI).mono ?_;rintro e w2 R;obtain⟨kk,nn,s,f,q,j1,x,q1,m1,z,F,rfl,y⟩:=sO be (kl:=kl) (ds:=ds) R;have d5:K (U wr)+2<=K (U w2):=by have:=R.1.size;simp only[CI,A0]at this;omega
    have al:Below (K (U wr)+2) (Az (Az wr (M (Cd (0,0)) 103)) (M Cr 101)) w2:=by have h:=R.1;simp only[CI,A0]at h;exact h
    have HV:=G (λcz c6=>s8 (wr:=wr) (w2:=w2) cz c6 al);have HK:D (A7 w2 (K (U wr)+1) Cr 101):=(al.block _ E).trans (by have:=Cj (Az wr (M (Cd (0,0)) 103)) (o:=(M Cr 101));simpa only[CI]using this);have HF:=G ((al.block _ E).trans ((Cx _ _ _ Ba).trans (Cj _)));have bg:D (∀g,Ax (AX ua un uc)=H g->g<K (U wr)):=by obtain⟨xs,ho,_⟩   := aj.2;exact λg hg=>Ek ho hg
    rcases y with y|⟨hF,dd,ah,rfl,ar,hA,y⟩
    case' inl=>obtain⟨hE,ba⟩:=dF N y (az p) bw;have HE:=G hE;clear hE y
    case' inr =>
     have ba:(F.1==0)=AP:=kfe;have ay:=G y;have a0:=G ar;have HA:D (CP k w2 (λj=>K (U wr)+2<=j/\j<K (U w2)) (Ag #[C Y kk,C Y nn,.string s,Ac f q j1,Ac x q1 m1]) dd):=hA.same (λj v=>⟨by have:=v.1;simp only[CI,A0]at this;omega,v.2⟩) (λ_ _=>rfl);clear hA ar y hF
    all_goals
     clear R al;simp only[]
     go_wp2_with(first
      |((with_reducible refine zT 12 65 rfl rfl (K (U wr)+1) (Ce kk nn s (Ac f q j1) (Ac x q1 m1)) ?_ ?_);exact⟨Z,Z,HK,thg⟩)
      |((with_reducible refine zF 11 67 rfl rfl (K (U wr)) F ?_ ?_);exact⟨Z,Z,sx E HF⟩;refine Gx ?_;intro V2 ai;have Q:=G (ai▸w.next (HV _ _));have bb:D (K (U V2)=K (U w2)/\∀j,K (U wr)+2<=j->V2.heap[j]?=w2.heap[j]?):=ai▸⟨Ba,λj v=>BJ⟩;have b4:=G (ai▸Iw.next aj.2 (HV _ _).size (λj _ v=>(HV _ _).block j v));have b3:D (A7 V2 (K (U wr)+1) #[C Y kk,C Y nn,.string s,Ac f q j1,Ac x q1 m1] 101):=ai▸sx E (CM _ _ _ _ _ _ HK);have aw:=G (ai▸CM _ _ _ _ _ _ (sx E HF));clear ai;obtain⟨xs,ho,ci⟩:=AE b4;have HO:=G ho;have bx:=G ci;clear ho ci b4;obtain⟨n,r,c2,u⟩:=DV Q.box;have k4:A6 V2 (K (U W)+1+1+1) 4 (Ac ua un uc):=Cb Q.tv 4)
      |((with_reducible refine CT rfl 101 (.tmp 12) rfl (K (U wr)+1) ?hx 101 (#[C Y kk,C Y nn,.string s,Ac f q j1,Ac x q1 m1]) (0,0) _ ?hg underlying101 rfl ?hi ?_);(case hx=>exact rfl);(case hg=>exact b3);(case hi=>exact Kf))
      |(at_builtin;(refine Jl Z (t:=99) Z (base:=(K (U W)+4)) (e:=101) (i:=ti) (z:=(.agg Cr)) (size:=5) (bytes:=80) underlying99 dh de df dg Z B8 Z (HO.alloc _) (ad:=⟨K (U V2),0,Ao⟩) 1 1 (news:=[C Y kk,C Y nn,.string s,Ac f q j1,Ac x q1 m1]) Z Z (EI) (T5) B8 (B4 (AE a8)) (AY (AE a8)) (B0 Q.size) ?_);intro v' w5 bp a9 cp;obtain⟨g5,ap,rfl⟩:=ownsRow_succ bp;have ao:=G (sm Q HO a9);have bd:=G ((a9.block _ (B1 (Cc aw)) (λe=>AY (bg.out _ e.symm))).trans ((Cx _ _ _ (Cc aw)).trans aw));have b9:=G bp;have b2:=G a9;have cb:=G cp;clear bp a9 cp n r c2 u k4;have k4:A6 w5 (K (U W)+1+1+1) 4 (Ac ua un uc):=Cb ao.tv 4;have f4:=Dq w5 (K (U W)+3) 4 _ _ ao.tv;have u0:A6 w5 (K (U wr)) 0 (C Y F.1):=Cb bd 0;obtain⟨n,r,c2,u⟩:=DV ao.box))
     have aa:=G (sL ao (Ac (Aa g5) (O ds+1) ap));have ax:=G ((CY w5 ⟨K (U W)+1+1+1,4,Ao⟩ (K (U wr)) (Ac (Aa g5) (O ds+1) ap) B7).trans bd)
     try
      have bf:D (KM m k (AB w5 ⟨K (U W)+1+1+1,4,Ao⟩ (Ac (Aa g5) (O ds+1) ap)) (K (U W)+4) (Ac ka kn kc) (Ac (Aa g5) (O ds+1) ap) kl (ds++[dd])):=KM.next (AE be▸(⟨aj.1,Iw.push (L:=K (U wr)+2) HO bx (HA.same (λj v=>⟨v.1,by rw[bb.1];exact v.2⟩) (λj v=>bb.2 j v.1)) (λg hg=>AY (bg.out g hg)) E (λ_ _ h=>h) Z b9 b2 cb⟩:KM AQ k w5 _ _ _ _ _)) Bd (λj da db=>CY w5 _ _ _ B7)
     generalize AB w5 ⟨K (U W)+1+1+1,4,Ao⟩ (Ac (Aa g5) (O ds+1) ap)=V6 at *;clear ao bd k4 f4 HO bx Q b3 aw HK HF HV w b9 b2 cb bb bg n r c2 u u0
   try
    have bo:=AE b6;have ae:FM k wr (K (U W)+4) (Ac ka kn kc) (Ac ua un uc) (λ_=>False) kl ds:=by have:=AE aj;rw[bo]at this;exact this
    have b8:=(ae.other (ex':=λj=>j=K (U wr)) (λj h=>AG (NY h.symm))).next (V':=Az wr (M (Cd (0,0)) 103)) Ba (λj _ v _=>Cx _ _ _ v)
    refine(sw (k:=k) (bs:=bs) (fm:=fm) (d:=d) (l:=l) (lim:=lim) (i:=p) (dp:=dp) (b:=(K (U W)+4)) (ka:=ka) (ua:=ua) (kn:=kn) (kc:=kc) (un:=un) (uc:=uc) (ex:=(λj=>j=K (U wr))) (kl:=kl) (ds:=ds) HL HI hb cm b8 (B3 (AE a8) ae.len) (rd:=rd) az B7 (λj h=>by subst h;simp) c8 E bz).mono ?_;rintro e w2 R;obtain⟨kk,nn,s,f,q,j1,x,q1,m1,z,F,rfl,y⟩:=sP bo R ae.len;have b5:=λg e=>NZ (DK ae.keys (g:=g) e) (Ek ae.keys e);have ca:∀g,Ax (AX ua un uc)=H g->K (U W)+4<=g/\g<K (U wr):=by obtain⟨xs,ho,_⟩:=ae.kids;exact λg e=>⟨DK ho e,Ek ho e⟩
    have bc:=G (sA (w.next Cl) R.1 (λg e=>(b5 g e).1) (λg e=>(ca g e).1));have HF:=G ((R.1.block _ Ba (λe=>B9) (λe=>B9)).trans (Cj _));rcases y with y|⟨hF,cl,di,c5,ah,rfl,ar,hM,y⟩
    case' inl=>obtain⟨hE,ba⟩:=dF N y (az p) bw;have HE:=G hE;clear hE y
    case' inr =>
     have ba:(F.1==0)=AP:=kfe;have ay:=G y;have a0:=G ar;have HM:=G hM;have cv:=G cl;clear hM ar y hF cl
    all_goals
     clear R b5 ca b8 ae bo;simp only[]
     go_wp2_with(first
      |((with_reducible refine Db rfl 101 (.tmp 9) (.tmp 56) rfl (K (U W)+3) (Ce kk nn s (Ac f q j1) (Ac x q1 m1)) ?hx ?hy 101 (Ce 7 0 ⟨#[]⟩ (Ac ka kn kc) (Ac ua un uc)) ?hg ?hi ?hs ?h1 ?_);(case hx=>exact rfl);(case hy=>exact rfl);(case hg=>exact bc.tv);(case hi=>exact Oc);(case hs=>exact rfl);(case h1=>grind [ab]))
      |((with_reducible refine zF 11 58 rfl rfl (K (U wr)) F ?_ ?_);exact⟨Z,Z,sx E HF⟩;refine Gx ?_;intro V6 av;have aa:=G (av▸sC (sB bc) E);have ax:=G (av▸CM _ _ _ _ _ _ (sx E HF));have b0:=G av;clear av;obtain⟨n,r,c2,u⟩:=DV aa.box;have u0:A6 V6 (K (U wr)) 0 (C Y F.1):=Cb ax 0))
     try
      have bf:D (KM m k V6 (K (U W)+4) (Ac f q j1) (Ac x q1 m1) di c5):=AE b6▸AE b0▸(HM.next (V':=AD (AD w2 (K (U W)+3) (Ce kk nn s (Ac f q j1) (Ac x q1 m1))) (K (U wr)) (Cd F)) Ba (λj h1 _ hx=>by grind [setRow_other])).other (λ_ h=>h.elim);obtain⟨rfl,rfl,rfl⟩:=AE cv
     clear bc HF b0 w n r c2 u u0
   all_goals try
    have hE:=HE;refine Dl (S:=λbh=>A7 bh (K (U wr)) (Cd F) 103) ax B6 ?_;intro hS;refine Cf 0 77 (.agg Cr) Z (λbh hZ=>?y0) hS ?_
    case y0=>(unfold Cr Ce Cm;go_simp)
    refine Cf 1 78 (.agg (Cd F)) Z (λbh hZ=>yF 11 hZ Z Z) hS ?_;have bl:=(Dg _ (K (U W)+1) (K (U wr)) Cr E).trans hS;refine Hy 2 6 77 (g:=(K (U W)+1)) (T:=Cr) B6 aa.th thg bl ?_;refine Ca 3 7 (C Y 0) bl ?_;refine sF 4 8 78 (g:=(K (U W)+2)) (F:=F) B6 (FZ (V:=V6) aa.rth CO) (sx E bl) ?_;refine CG ?_;go_simp;go_wp2;refine ER results129 (EB aa.rth.drew CO Cr F) (C Y 0) Z Z Z Z ⟨(EB aa.rth.drew CO Cr F).2.2,?_⟩;exact⟨.error F,AF HE,_,_,_,_,_,_,_,_,_,_,Z⟩
   obtain⟨p3,bt⟩:=IX (Es bs l (O bs+1-ah) ah);obtain⟨p4,bu⟩:=IX (Es bs l (O bs+1-(p3+1)) (p3+1));obtain⟨co,dc⟩:=sK HL N ay (az p) cs a0 hg.out bt bu;have bj:=λV=>cS V ah a0.1;rw[<-bt]at bj;have cd:=λV=>cH V p3;have c4:=λV=>cB V p3 9;have d4:=a0.1;have d0:=co.1;refine(bj _).mono ?_;rintro e w7 ⟨rfl,a7⟩;obtain⟨x1,x2,x3,y1,y2,y3,cc,cw⟩:∃x1 x2 x3 y1 y2 y3,D (Fz W (Cp bs fm d l) (Ce (Fq m) 0 ⟨#[]⟩ (Ac x1 x2 x3) (Ac y1 y2 y3)) w7)/\D (KM m k w7 (K (U W)+4) (Ac x1 x2 x3) (Ac y1 y2 y3) _ _):=⟨_,_,_,_,_,_,by rw[AE an];exact aa.next a7,bf.next a7.size (λj _ v=>a7.block j v)⟩
   have cr:=G (sM ay);clear bt bj aa bf a7 ax co ay N ba;simp only[];obtain⟨n,r,c2,u⟩:=DV cc.box;rcases dc with⟨hh,am⟩|⟨B,ag,hh,hx⟩
   case' inr=>have du:=λV=>Ej (bs:=bs) (k:=p3) (c:=B) ag V;have dz:=Dh ag;clear ag;rcases hx with⟨ak,am,aq⟩|⟨ak,a6,aq,g',c9,d3,dy,bm⟩|⟨ak,a6,am⟩
   case' inl=>have HE:=G am;generalize CU bs l p3 9=xx at *
   case' inr.inl=>obtain⟨au,cq⟩:=(a3 B).1 ak;have a2:=G am;have cy:=G aq;clear aq
   case' inr.inr.inl=>obtain⟨au,cq⟩:=(a3 B).2 ak;have dj:((B.toNat:J) != 44)=AQ:=by rw[a6];rfl
   case' inr.inr.inl=>have cf:=λV=>cS V (p3+1) aq.1;rw[<-bu]at cf;have N:=G bm;have cu:=G (sN bm);clear a6 bm aq
   case' inr.inr.inr=>obtain⟨au,cq⟩:=(a3 B).2 ak;have dj:((B.toNat:J) != 44)=AP:=B7
   case' inr.inr.inr=>have HE:=G am;generalize CU bs l p3 9=xx at *;clear a6
   all_goals
    rw[hh]at cd;clear hh cS cH cB bu
    try clear ak
    try clear am
    go_wp2_with(first
     |(go_at_call 116;refine Mb (cd _) cc.next ?_;clear n r c2 u;intro w8 cg ac;have b7:=G (cw.next cg.size (λj _ v=>cg.block j v));obtain⟨n,r,c2,u⟩:=DV ac.box)
     |(go_at_call 84;refine Mb (c4 _) ac.next ?_;clear n r c2 u;intro w9 bk af)
     |(go_at_call 83;refine Mb (cf _) ac.next ?_;clear n r c2 u;intro w9 bk af;have cx:=G (b7.next bk.size (λj _ v=>bk.block j v));obtain⟨n,r,c2,u⟩:=DV af.box)
     |((with_reducible refine CT rfl 101 (.tmp 9) rfl (K (U W)+3) ?hx 101 (Ce (Fq m) 0 ⟨#[]⟩ (Ac x1 x2 x3) (Ac y1 y2 y3)) (0,0) _ ?hg underlying101 rfl ?hi ?_);(case hx=>exact rfl);(case hg=>exact ac.tv);(case hi=>exact Oc))
     |((with_reducible refine zT 6 111 rfl rfl (K (U W)+1) (Ce (Fq m) 0 ⟨#[]⟩ (Ac x1 x2 x3) (Ac y1 y2 y3)) ?_ ?_);exact⟨Z,Z,ac.th,thg⟩)
     |((with_reducible refine zF 8 114 rfl rfl (K (U W)+2) (0,0) ?_ ?_);exact⟨Z,Z,FZ ac.rth CO⟩)
     |((with_reducible refine zT 6 101 rfl rfl (K (U W)+1) (Cr) ?_ ?_);exact⟨Z,Z,af.th,thg⟩)
     |((with_reducible refine zF 8 104 rfl rfl (K (U W)+2) xx ?_ ?_);exact⟨Z,Z,FZ af.rth CO⟩))
   all_goals try
    have hE:=HE;refine ER results129 (EB af.rth CO Cr xx) (C Y 0) Z Z Z Z ⟨(EB af.rth CO Cr xx).2.2,?_⟩;exact⟨.error xx,AF HE,_,_,_,_,_,_,_,_,_,_,Z⟩
   all_goals try
    have hE:=a2;refine ER results129 (EB ac.rth CO (Ce (Fq m) 0 ⟨#[]⟩ (Ac x1 x2 x3) (Ac y1 y2 y3)) (0,0)) (C Y ((p3:J)+1)) Z Z Z Z ⟨(EB ac.rth CO _ (0,0)).2.2,?_⟩;exact⟨_,AF a2,cy,_,_,_,_,_,_,_,_,_,rfl,(b7.next Ba (λj da db=>BJ)).fin E⟩
   subst c9;go_roundg (g'+1)
   case measure=>omega
   case rel=>exact⟨p4,_,_,_,_,_,_,_,_,rfl,by show _<=_;have:=AE hg;omega,N,by show _<=_;have:=AE a8;have:=AE cr;omega,cu,af,cx⟩
structure Rv where
 rs:List (List (Nat×A1)×Int×Int)
 dflt:Int
 m:Nat->Nat->Bool
 clr:Nat
 key:Int
abbrev Cu:=AH×AH×AH×AH
def Ja(f:A2->Cu->Option (AM Unit)×Cu)(ds:AJ (AM Unit))(R:Cu):AJ (AM Unit)×Cu :=
 ds.foldl (λa d=>(a.1++(f d a.2).1.toList,(f d a.2).2)) ([],R)
def Jb(f:A1->A2->Cu->Option (AM Unit)×Cu)(es:AJ (Lit×AM Unit))(R:Cu):AJ (Lit×AM Unit)×Cu :=
 es.foldl (λa e=>(a.1++((f (CX e.1) e.2 a.2).1.map λd=>(e.1,d)).toList,(f (CX e.1) e.2 a.2).2)) ([],R)
def IR(rw:AJ (A1×AK)->A2->Cu->Option (AM Unit)×Cu)(p:AJ (A1×AK))(d:A2)(R:Cu):AM Unit×Cu :=
 match d with
 |.agg ds=>(.agg (Ja (rw (([],AP)::p)) ds R).1,(Ja (rw (([],AP)::p)) ds R).2)
 |.map es=>(.map (Jb (λkey=>rw ((key,AQ)::p)) es R).1,(Jb (λkey=>rw ((key,AQ)::p)) es R).2)
 |d=>(d,R)
def CW(c:Rv):AH->AJ (A1×AK)->A2->Cu->Option (AM Unit)×Cu
 |0,_,_,R=>(Ao,R)
 |k+1,p,d,R =>
  if c.m (DC c.dflt c.rs p.reverse).1.toNat c.clr=AP then(An (IR (CW c k) p d (R.1+1,R.2)).1,(IR (CW c k) p d (R.1+1,R.2)).2)
  else if(DC c.dflt c.rs p.reverse).2=2 then(An (.lit (.string [42,42,42])),(R.1,R.2.1,R.2.2.1+1,R.2.2.2))
  else if(DC c.dflt c.rs p.reverse).2=3 then(An (.lit (.string (JC c.key (DC c.dflt c.rs p.reverse).1.toNat (Do (k+1) d)))),(R.1,R.2.1,R.2.2.1,R.2.2.2+1))
  else(Ao,(R.1,R.2.1+1,R.2.2.1,R.2.2.2))
def CS:AH->A2->AH
 |0,_=>0
 |k+1,d=>match d with
  |.agg ds=>2+(ds.map λd=>1+CS k d).sum
  |.map es=>1+(es.map λe=>2+CS k e.2).sum
  |_=>1
structure Rc where
 v:Rv
 W0:World
 A:Nat
 q:D5
 B:Nat
 O:A3
 n:Nat
 G:World
 own0:Option Nat
def Ex(c:Rc)(R:Cu):A3:=c.O++#[Ab Al c.v.clr,Ab Al c.v.key,A8 c.A,Ab Al R.1,Ab Al R.2.1,Ab Al R.2.2.1,Ab Al R.2.2.2]
structure IE(c:Rc):Prop where
 ers:c.q.rs=c.v.rs
 edf:c.q.dflt=c.v.dflt
 elf:c.q.lf=FB (Gp c.v.rs)
 eL:c.q.L=2+(Gp c.v.rs).length
 ly:LK c.v.rs (Gp c.v.rs) c.q.st c.q.tk
 hn:c.v.rs.length<=16
 h8:∀i (h:i<c.v.rs.length),c.v.rs[i].1.length<=8
 hk:∀i (h:i<c.v.rs.length) j (h2:j<c.v.rs[i].1.length),c.v.rs[i].1[j].1<=3/\c.v.rs[i].1[j].2.length<=1000000000
 ord:MR c.O c.n c.v.m
 n6:c.n<=6
 clr:c.v.clr<c.n
 lab:∀p,∃l:Nat,(DC c.v.dflt c.v.rs p).1=l/\l<c.n
 hB:c.W0.heap.size<=c.B
 hG:c.G.heap.size<=c.B
 tab:c.W0.cell? ⟨8,15,none⟩=some (.int .u8 4)
structure Dp(W V:World):Prop where
 size:W.heap.size<=V.heap.size
 row:∀(k:Nat) (cs:A3) (t:TypeId) (fr:Nat×Nat),W.heap[k]?=some (.cells cs t fr)->t≠187->t≠203->t≠264->V.heap[k]?=some (.cells cs t fr)
theorem Dp.refl(W:X):Dp W W:=⟨Co _,λ_ _ _ _ h _ _ _=>h⟩
theorem Dp.trans{W V X:Ap}(h:Dp W V)(g:Dp V X):Dp W X:=⟨Cy h.size g.size,λk cs t fr a b c d=>g.row k cs t fr (h.row k cs t fr a b c d) b c d⟩
theorem Dp.of_below(h:A0 W V):Dp W V:=⟨h.size,λk _ _ _ a _ _ _=>(h.block k (Cc a)).trans a⟩
theorem Dp.at_{R:Option I}(e:K (U W)<=K (U V))(hb:∀k,k<K (U W)->H k≠R->V.heap[k]?=W.heap[k]?)(f:∀k,R=H k->∀cs t fr,W.heap[k]?=H (M cs t fr)->t=187\/t=203\/t=264):Dp W V:=by refine⟨e,λk cs t fr a b c d=>?_⟩;grind
theorem DH.kept{size:I}{G:I->Prop}(h:DH V t size F v n xs)(m:∀k,F k->G k)(q:Dp V V')(i:t≠187)(j:t≠203)(l:t≠264):DH V' t size G v n xs:=by
 obtain⟨b,a⟩:=h;refine⟨b,?_⟩;rcases a with a|⟨g,d,f,e,o,p,c⟩
 .exact AF a
 exact AG ⟨g,d,f,e,m g o,q.row _ _ _ _ p i j l,c⟩
theorem Cv.kept{G:I->Prop}(a:∀k,F k->G k)(b:Dp V V'):∀{k:I} {v:Aq} {d:A2},Cv k V F v d->Cv k V' G v d
 |0,_,_,h=>h
 |k+1,v,d,h=>by
  unfold Cv at h ⊢;split at h
  .exact h
  .exact h
  .exact h
  .exact h
  .obtain⟨u,e,c⟩:=h;exact⟨u,e,c.kept a b B8 B8 B8⟩
  .obtain⟨u,j,e,c,g⟩:=h;exact⟨u,j,e,c.kept a b B8 B8 B8,λi x d f q=>Cv.kept a b (g i x d f q)⟩
  .obtain⟨u,j,e,c,g⟩:=h;refine⟨u,j,e,c.kept a b B8 B8 B8,λi key d f=>?_⟩;obtain⟨l,x,m,n,o,p⟩:=g i key d f;exact⟨l,x,m,n,o,Cv.kept a b p⟩
  exact h
structure DJ(c:Rc)(R:Cu)(N:Nat)(sts:List ((Nat->Nat)×Int×Int))(V:World):Prop where
 box:V.heap[c.B]?=some (.cells (Ex c R) 264)
 here:∃sa sc nf mn mf,DB c.W0 c.A c.q sts (.slice sa sts.length sc) nf mn mf V/\OG c.q sts mf/\mn<=N/\sts.length<=N+1/\((Value.slice sa sts.length sc).ownBlock=c.own0\/∃g,(Value.slice sa sts.length sc).ownBlock=some g/\c.G.heap.size<=g)
 fr:c.G.heap.size<=V.heap.size/\∀k,k<c.G.heap.size->k≠c.A->k≠c.q.nb->k≠c.q.mb->some k≠c.own0->V.heap[k]?=c.G.heap[k]?
 few:R.1+R.2.1+R.2.2.1+R.2.2.2<=N
theorem DJ.more{c:Rc}{R:Cu}{M:I}(h:DJ c R N sts V)(e:N<=M):DJ c R M sts V:=by obtain⟨j,k,i,g,f,a,b,l,m,d⟩:=h.here;exact⟨h.box,⟨j,k,i,g,f,a,b,E,E,d⟩,h.fr,Cy h.few e⟩
theorem DJ.step{c:Rc}{R:Cu}(h:DJ c R N sts V)(hb:A0 V V'):DJ c R N sts V':=by obtain⟨m,n,l,j,i,f,g⟩:=h.here;exact⟨(hb.block _ (Cc h.box)).trans h.box,⟨m,n,l,j,i,f.next hb,g⟩,⟨Cy h.fr.1 hb.size,λk a b c d e=>(hb.block k (CK a h.fr.1)).trans (h.fr.2 k a b c d e)⟩,h.few⟩
theorem DJ.below{c:Rc}{R:Cu}(h:DJ c R N sts V):Below (K (U c.W0)) c.W0 V:=by obtain⟨g,i,f,e,d,a,b⟩:=h.here;exact a.below
theorem LL{kt:AN}{m:I}{f:Lit->Option I}(h:E5 W kt m n f)(e:W.heap[m]?=H (M cs t fr)):False:=by obtain⟨a,⟨c,b,d,_⟩,_⟩:=h;grind
theorem U1{e:AN}{size:I}(b:W.ownsRow base e size v n xs)(h:Ax v=H g)(i:W.heap[g]?=H (M cs t fr)):t=e:=by
 rcases b.2 with⟨a,_⟩|⟨f,c,d,a,_,j,_⟩
 .rw[a]at h;cases h
 rw[a]at h;injection h with h;grind
theorem q6B{A:I}{q:D5}(h:DB W0 A q sts sv nf mn mf W)(f:JA A q sv W V):Dp W V:=by
 refine⟨f.size,λk cs t fr a b c d=>?_⟩;refine(f.block k (Cc a) (λe=>?_) (λe=>?_) (λe=>?_) (λe=>?_)).trans a
 .exact c (U1 h.states e.symm a)
 .subst e;have:=h.row;grind
 .subst e;exact LL h.numbers a
 subst e;exact LL h.moves a
theorem je{c:Rc}(h:IE c){R:Cu}:(Ex c R).size=44:=by simp[Ex,h.ord.size]
theorem DB.off{A:I}{q:D5}(h:DB W0 A q sts sv nf mn mf W)(w:K (U W0)<=B)(a:W.grownBy W' (H B))(b:W.heap[B]?=H (M cs t fr))(u:t≠187)(k:t≠203)(v:t≠183):DB W0 A q sts sv nf mn mf W':=by
 obtain⟨f,d,s⟩:=h.takes;have l:A≠B:=by rintro rfl;have:=h.row;grind
 have m:q.tb≠B:=B9;have n:q.lm≠B:=λe=>LL h.letters (e▸b);have o:q.nb≠B:=λe=>LL h.numbers (e▸b);have p:q.mb≠B:=λe=>LL h.moves (e▸b);have r:∀g,Ax sv=H g->g≠B:=λg e j=>k (U1 h.states e (j▸b));exact{h with
  row:=(a.block A (Cc h.row) ke5).trans h.row
  below:=⟨a.os.trans h.below.os,a.tape.trans h.below.tape,a.output.trans h.below.output,Cy h.below.size a.size,λi c=>(a.block i (CK c h.below.size) B7).trans (h.below.block i c)⟩
  letters:=h.letters.kept a (by simpa using n)
  takes:=⟨f,(a.block _ (Cc d) (by simpa using m)).trans d,s⟩
  states:=PQ h.states λg e=>a.block g (Ru h.states e) (by simpa using r g e)
  numbers:=h.numbers.kept a BY
  moves:=h.moves.kept a (by simpa using p)}
theorem qvP(W:X)(B j:I)(v:Aq):W.grownBy (AB W ⟨B,j,Ao⟩ v) (H B) :=
 ⟨rfl,rfl,rfl,Bd,λk _ a=>CY _ _ _ _ Bl⟩
theorem DJ.count{c:Rc}{R R':Cu}(h:DJ c R N sts V)(ok:IE c)(j:I)(x:I)(hx:_root_.Array.setIfInBounds (Ex c R) j (C Y x)=Ex c R')(n:R'.1+R'.2.1+R'.2.2.1+R'.2.2.2<=N+1):DJ c R' (N+1) sts (AB V ⟨c.B,j,Ao⟩ (C Y x))/\Dp V (AB V ⟨c.B,j,Ao⟩ (C Y x)):=by
 obtain⟨r,s,q,p,o,g,i,u,v,l⟩:=h.here;have f:=qvP V c.B j (C Y x);refine⟨⟨?_,⟨r,s,q,p,o,g.off ok.hB f h.box B8 B8 B8,i,E,E,l⟩,⟨Cy h.fr.1 f.size,λk a b c d e=>(f.block k (CK a h.fr.1) (λe=>by have:=ok.hG;grind)).trans (h.fr.2 k a b c d e)⟩,n⟩,Dp.at_ (R:=H c.B) f.size f.block (λk e cs t fr m=>?_)⟩
 .rw[DQ V _ _ _ _ _ h.box,hx]
 injection e with e;subst e;rw[h.box]at m;grind
def IF(c:Rc)(sts:AJ ((AH->AH)×AI×AI))(f:AH)(p:AJ (A1×AK)):Prop:=∃s,sts[f]?=An s/\OJ c.v.rs p s.1
def Gs(sts sts':AJ ((AH->AH)×AI×AI)):Prop:=∀(j:AH) (x:(AH->AH)×AI×AI),sts[j]?=An x->sts'[j]?=An x
theorem IF.pre{c:Rc}{p:AJ (A1×AK)}(h:IF c sts f p)(d:Gs sts sts'):IF c sts' f p:=by obtain⟨s,a,b⟩:=h;exact⟨s,d _ _ a,b⟩
theorem Gs.trans{a b d:AJ ((I->I)×J×J)}(h:Gs a b)(g:Gs b d):Gs a d:=λj x c=>g j x (h j x c)
theorem Gs.refl(a:AJ ((I->I)×J×J)):Gs a a:=λ_ _ h=>h
def q6v(c:Rc)(R:Cu)(N:AH)(sts:AJ ((AH->AH)×AI×AI))(p:AJ (A1×AK))(V:Ap)(e:Ending)(V':Ap):Prop :=
 ∃(f':AH) (sts':AJ ((AH->AH)×AI×AI)),e=Ak (Ab Al f')/\DJ c R (N+1) sts' V'/\Dp V V'/\Gs sts sts'/\IF c sts' f' p
theorem DJ.next{c:Rc}{R:Cu}(h:DJ c R N sts V)(ok:IE c)(hN:N<90000){p:AJ (A1×AK)}(W:IF c sts f p)(key:A1)(m:AK)(hb:O key<=maxLen):Ar As 71 #[Ad (H ⟨c.A,0,Ao⟩),C Y f,Ag #[Ae ⟨Aw key⟩,Ah m]] V (q6v c R N sts ((key,m)::p) V):=by
 obtain⟨sa,sc,nf,mn,mf,i,y,n,h4,P⟩:=h.here;obtain⟨s,z,F⟩:=W;have ah:=j9 ok.hn ok.h8;have hx:Ks c.q.lf key m<c.q.L:=by rw[ok.elf,ok.eL];exact zR
 refine(xQ i y E E z hb Z hx (by rw[ok.eL];omega)).mono ?_;rintro e w ⟨x,ae,ac,ad,aa,t,r,rfl,k1,k2,k3,k4,k5,af,ag,k6,v,k8,hF,l⟩;have Q:=q6B i hF;have S:w.heap[c.B]?=H (M (Ex c R) 264):=by
  refine(hF.block c.B (Cc h.box) (λe=>?_) (λe=>?_) (λe=>?_) (λe=>?_)).trans h.box
  .exact absurd (U1 i.states e.symm h.box) B8
  .have:=i.row;rw[<-e,h.box]at this;grind
  .exact LL i.numbers (e▸h.box)
  exact LL i.moves (e▸h.box)
 refine⟨x,ae,Z,⟨S,⟨ac,ad,aa,t,r,k1,k2,E,E,?_⟩,⟨Cy h.fr.1 hF.size,λk a b c d e=>(hF.block k (CK a h.fr.1) (λe2=>?_) b c d).trans (h.fr.2 k a b c d e)⟩,Us h.few⟩,Q,k4,af,k6,?_⟩
 .rcases l with l|⟨g,l,hg⟩
  .rw[l];exact P
  exact AG ⟨g,l,Cy h.fr.1 hg⟩
 .grind
 rw[ok.elf,ok.ers]at v;refine j0 (zV ok.ly (λab u s hs=>?_) F v) ok.hn k8;obtain⟨j,o,rfl⟩:=Q6 hs;exact⟨(ok.hk ab u j o).1,λn=>j7 u o n⟩
theorem DJ.verdict{c:Rc}{R:Cu}(h:DJ c R N sts V)(ok:IE c){p:AJ (A1×AK)}(i:IF c sts f p):Ar As 72 #[A8 c.A,C Y f] V λe g=>e=Ak (Af #[C Y (DC c.v.dflt c.v.rs p.reverse).1,C Y (DC c.v.dflt c.v.rs p.reverse).2])/\A0 V g:=by obtain⟨r,t,q,o,n,a,k,l,m,_⟩:=h.here;obtain⟨s,b,d⟩:=i;have j:=(a.here f s b).1;rw[<-Uw p]at d;rw[ok.edf,ok.ers,zW d]at j;refine(xM a b).mono ?_;grind
def U9(c:Rc)(k:AH)(F:AH->Prop)(r:Option (AM Unit)×Cu)(M:AH)(sts:AJ ((AH->AH)×AI×AI))(V:Ap)(e:Ending)(V':Ap):Prop :=
 ∃(v':Aq) (sts':AJ ((AH->AH)×AI×AI)),e=Ak (Af #[v',Ah r.1.isSome])/\DJ c r.2 M sts' V'/\Dp V V'/\Gs sts sts'/\(r.1=Ao->v'=.nilIface)/\∀d',r.1=An d'->Cv k V' (λj=>F j\/(_root_.Array.size (Av V)<=j/\j<_root_.Array.size (Av V'))) v' d'
def RI(c:Rc)(k:AH):Prop :=
 ∀(V:Ap) (F:AH->Prop) (x:Aq) (d:A2) (p:AJ (A1×AK)) (f:AH) (R:Cu) (N:AH) (sts:AJ ((AH->AH)×AI×AI)),DJ c R N sts V->IF c sts f p->(∀j,F j->j<_root_.Array.size (Av V))->Cv k V F x d->At (Do k d)<=999999999->N+CS k d<=90000 ->
  Ar As 146 #[A8 c.B,x,Ab Al f] V (U9 c k F (CW c.v k p d R) (N+CS k d) sts V)
def Ua(D:A2->Prop)(c:Rc)(k:AH)(p:AJ (A1×AK)):Prop :=
 ∀(V:Ap) (F:AH->Prop) (x:Aq) (d:A2) (f:AH) (R:Cu) (N:AH) (sts:AJ ((AH->AH)×AI×AI)),D d->DJ c R N sts V->IF c sts f p->(∀j,F j->j<_root_.Array.size (Av V))->Cv k V F x d->At (Do k d)<=999999999->N+CS k d<=90000 ->
  Ar As 146 #[A8 c.B,x,Ab Al f] V (U9 c k F (CW c.v k p d R) (N+CS k d) sts V)
structure LM(c:Rc)(k:Nat)(W:World)(F:Nat->Prop)(R:Cu)(N:Nat)(sts:List ((Nat->Nat)×Int×Int))(v:Value)(ds:List (DataW Unit))(V:World):Prop where
 rw:DJ c R N sts V
 kp:Dp W V
 own:∃xs,V.ownsRow W.heap.size 89 1 v ds.length xs/\∀(i:Nat) (x:Value) (d:A2),xs[i]?=some x->ds[i]?=some d->Cv k V (λj=>(F j\/(W.heap.size<=j/\j<V.heap.size))/\some j≠v.ownBlock) x d
theorem jp{size:I}(h:W.ownsRow base t size v n xs)(o:Dp W W')(f:t≠187)(i:t≠203)(j:t≠264):W'.ownsRow base t size v n xs:=by
 obtain⟨b,a⟩:=h;refine⟨b,?_⟩;rcases a with a|⟨g,c,d,e,l,m,k⟩
 .exact AF a
 exact AG ⟨g,c,d,e,l,o.row _ _ _ _ m f i j,k⟩
theorem LM.step{c:Rc}{R R':Cu}(h:LM c k W F R N sts v ds V)(l:DJ c R' N' sts' V')(a:Dp V V'):LM c k W F R' N' sts' v ds V':=by obtain⟨n,e,f⟩:=h.own;refine⟨l,h.kp.trans a,n,jp e a B8 B8 B8,λi x d m g=>(f i x d m g).kept (λj b=>⟨b.1.imp id (λh=>⟨h.1,CK h.2 a.size⟩),b.2⟩) a⟩
theorem q2t{c:Rc}{R:Cu}(b:DJ c R N sts V)(a:Dp W V):LM c k W F R N sts (T Ao 0 0) [] V :=
 ⟨b,a,[],Fa _ _ _ _,λi x d e=>by simp at e⟩
theorem LM.push{c:Rc}{R:Cu}{x:Aq}(h:LM c k W F R N sts v ds V)(hW:K (U c.W0)<=K (U W))(hG:K (U c.G)<=K (U W))(hF:∀j,F j->j<K (U W))(w:V.ownsRow (K (U W)) 89 1 v (O ds) xs)(hx:∀(i:I) (x:Aq) (d:A2),xs[i]?=H x->ds[i]?=H d->Cv k V (λj=>(F j\/(K (U W)<=j/\j<K (U V)))/\H j≠Ax v) x d)(S:Cv k V (λj=>F j\/(K (U V0)<=j/\j<K (U V))) x d)(am:∀g,Ax v=H g->g<K (U V0))(ai:K (U W)<=K (U V0))(al:w5.ownsRow (K (U W)) 89 1 v' (O ds+1) (xs++[x]))(l:(Az V (M #[x] 89)).grownBy w5 (Ax v))(q:Ax v'=Ax v\/Ax v'=H (K (U (Az V (M #[x] 89))))):LM c k W F R N sts v' (ds++[d]) w5:=by
 have Q:=h.kp.size;have ak:K (U V)+1<=K (U w5):=B2 l.size;have key:∀g,Ax v=H g->K (U W)<=g:=λg l=>DK w l;have s:=λj f u=>(l.block j B7 u).trans (Cx _ _ _ f);have y:∀j,j<K (U W)->w5.heap[j]?=V.heap[j]?:=λj f=>s j E (λe=>B9);have t:Dp W w5:=⟨E,λj cs ae fr a b c d=>(y j (Cc a)).trans (h.kp.row j cs ae fr a b c d)⟩
 have ac:DJ c R N sts w5:=by
  have m:=h.rw.step (Cl (o:=(M #[x] 89)));have aa:=w.alloc (M #[x] 89);rcases aa.2 with⟨z,_⟩|⟨g,ag,ah,z,aj,A,_⟩
  .refine m.step ⟨l.os,l.tape,l.output,l.size,λj f=>l.block j f (by grind [Value.ownBlock])⟩
  have ab:Ax v=H g:=keb;rw[ab]at l;obtain⟨sa,sc,nf,mn,mf,k1,k2,k3⟩:=m.here;refine⟨(l.block c.B (Cc m.box) (λe=>?_)).trans m.box,⟨sa,sc,nf,mn,mf,k1.off (B:=g) ?_ l A B8 B8 B8,k2,k3⟩,⟨Cy m.fr.1 l.size,λj a b c d e=>(l.block j (CK a m.fr.1) (λe2=>B9)).trans (m.fr.2 j a b c d e)⟩,m.few⟩
  .injection e with e;rw[<-e,m.box]at A;grind
  omega
 refine⟨ac,t,xs++[x],B9,λi af c r n=>?_⟩;have L:∀j,j<K (U V)->H j≠Ax v->H j≠Ax v':=λj f u=>by
  rcases q with q|q
  .rw[q];exact u
  rw[q];intro e;injection e with e;simp at e;omega
 have ad:O xs=O ds:=AY w.1;by_cases hi:i<O ds
 .rw[GM E]at r n;have p:∀j,(F j\/(K (U W)<=j/\j<K (U V)))->j<K (U V):=λj f=>f.elim (λh=>CK (hF j h) Q) (λh=>h.2);exact(hx i af c r n).same (λj f=>⟨f.1.imp id (λh=>⟨h.1,E⟩),L j (p j f.1) f.2⟩) (λj f=>s j (p j f.1) f.2)
 have e:i=O ds:=B9;subst e;rw[IU E]at n;rw[IU E,ad]at r;simp at r n;subst r;subst n;have P:∀j,(F j\/(K (U V0)<=j/\j<K (U V)))->H j≠Ax v:=λj f e=>B9;have p:∀j,(F j\/(K (U V0)<=j/\j<K (U V)))->j<K (U V):=λj f=>f.elim (λh=>CK (hF j h) Q) (λh=>h.2);exact S.same (λj f=>⟨f.imp id (λh=>⟨E,E⟩),L j (p j f) (P j f)⟩) (λj f=>s j (p j f) (P j f))
theorem LM.row{c:Rc}{R:Cu}(h:LM c k W F R N sts v ds V):Cv (k+1) V (λj=>F j\/(K (U W)<=j/\j<K (U V))) (Ai 221 v) (.agg ds):=by
 obtain⟨t,a,m⟩:=h.own;unfold Cv;refine⟨v,t,Z,⟨a.1,?_⟩,λi x d s q=>(m i x d s q).same (λj r=>r.1) (λ_ _=>rfl)⟩;rcases a.2 with n|⟨g,f,l,e,p,b,o⟩
 .exact AF n
 exact AG ⟨g,f,l,e,AG ⟨p,(Cc b)⟩,b,o⟩
def Ub(c:Rc)(k:AH)(F:AH->Prop)(t:AN)(r:AM Unit×Cu)(M:AH)(sts:AJ ((AH->AH)×AI×AI))(V:Ap)(e:Ending)(V':Ap):Prop :=
 ∃(a:A4) (n m:AH) (sts':AJ ((AH->AH)×AI×AI)),e=Ak (Ac a n m)/\DJ c r.2 M sts' V'/\Dp V V'/\Gs sts sts'/\Cv k V' (λj=>F j\/(_root_.Array.size (Av V)<=j/\j<_root_.Array.size (Av V'))) (Ai t (Ac a n m)) r.1
theorem Uc{c:Rc}{R:Cu}(h:DJ c R N sts V)(ok:IE c):A6 V c.B 39 (A8 c.A):=by refine(Cb h.box 39).trans ?_;unfold Ex;rw[MM (by rw[ok.ord.size];omega),ok.ord.size];rfl
theorem jq(f:A2->Cu->Option (AM Unit)×Cu)(l:AJ (AM Unit))(d:A2)(R:Cu){R1:Cu}(h:Ja f l R=(ds,R1)):Ja f (l++[d]) R=(ds++(f d R1).1.toList,(f d R1).2):=by grind [Ja]
theorem XX{α:Type}(g:α->I):∀l:AJ α,O l<=(l.map λd=>1+g d).sum
 |[]=>En _
 |a::l=>by have:=XX g l;grind
theorem Ud{α:Type}(g:α->A1){l:AJ α}{d:α}(h:l[i]?=H d):O (g d)<=O (l.flatMap g):=by
 obtain⟨b,rfl⟩:=NM.1 h;have a:l.flatMap g=(l.take i).flatMap g++(g l[i]++(l.drop (i+1)).flatMap g):=by grind [List.take_append_drop,List.drop_eq_getElem_cons]
 grind
theorem qnr{c:Rc}(ok:IE c){p:AJ (A1×AK)}{D:A2->Prop}(ih:Ua D c k (([],AP)::p))(a8:∀x∈ds,D x){R:Cu}(h:DJ c R N sts W)(hf:IF c sts f p)(hF:∀j,F j->j<K (U W))(V:DH W 89 1 F u (O ds) xs)(hx:∀(i:I) (x:Aq) (d:A2),xs[i]?=H x->ds[i]?=H d->Cv k W F x d)(hc:O (ds.flatMap (Do k))<=999999999)(hN:N+1+(ds.map λd=>1+CS k d).sum<=90000):Ar As 202 #[A8 c.B,u,C Y f] W (Ub c (k+1) F 221 (.agg (Ja (CW c.v k (([],AP)::p)) ds R).1,(Ja (CW c.v k (([],AP)::p)) ds R).2) (N+1+(ds.map λd=>1+CS k d).sum) sts W):=by
 obtain⟨i0,hi,bk,bl,bm⟩:=DD Tryz.infoThing;obtain⟨ak,aj,rfl⟩:∃ak aj,u=T ak (O ds) aj:=by rcases V.2 with⟨e,e2⟩|⟨g,aj,a7,e,_⟩<;>grind
 obtain⟨rr,an⟩:=CA (Ja (CW c.v k (([],AP)::p)) ds R);rw[AE an];have ax:=C9 ih;have av:=C9 a8;have HW:=C9 h.below.size;have HG:=C9 h.fr.1;have HU:=C9 V;have HX:=C9 hx;have HC:=C9 hc;have HF:=C9 hF;obtain⟨S,ac⟩:∃S,Go.RowKit.Hid (N+1+(ds.map λd=>1+CS k d).sum=S):=⟨_,rfl⟩
 have bv:O ds<=90000:=AY (XX (CS k) ds);have HN:=C9 (AE ac▸hN);rw[AE ac];have br:=Uc h ok;have cN:=h.next ok E hf [] AP (by simp[maxLen])
 go_enter func202,ntmps202
 go_wp2_with(first
  |(go_at_call 71;refine cN.mono ?_;rintro e w2 ⟨f2,bo,rfl,bc,ba,bb,a9⟩;have a2:=C9 bc;have ay:=C9 ba;have a1:=C9 bb;have aw:=C9 a9))
 go_loopg[7,23] (O ds) (λg y bp wr=>∃(i:I) (a:A4) (l L:I) (s:Cu) (r:I) (n:AJ ((I->I)×J×J)) (m:AJ (AM Unit)),y=T a l L/\bp=C Y i/\Go.RowKit.Hid (i+g=O ds)/\Go.RowKit.Hid (IF c n f2 (([],AP)::p))/\Go.RowKit.Hid (Gs sts n)/\Go.RowKit.Hid (LM c k W F s r n (T a l L) m wr)/\Go.RowKit.Hid (Ja (CW c.v k (([],AP)::p)) (ds.take i) R=(m,s))/\Go.RowKit.Hid (r+((ds.drop i).map λd=>1+CS k d).sum<=S)/\Go.RowKit.Hid (O m<=i))
 case atStart=>exact⟨0,Ao,0,0,R,N+1,bo,[],rfl,rfl,Bg,aw,a1,q2t a2 ay,rfl,NY ac,Co _⟩
 case round =>
  obtain⟨i,a,l,L,s,r,n,m,rfl,rfl,hg,af,ad,b,a3,az,ar⟩:=hrel;obtain _|g:=gk
  .have bf:¬(i:J)<O ds:=AY (AE hg);have HT:Go.RowKit.Hid (ds.take i=ds):=by grind [Go.RowKit.Hid]
   go_wp2;go_ret;have P:=AE a3;rw[AE HT,AE an]at P;rw[P];exact⟨a,l,L,n,Z,b.rw.more (AY (AE az)),b.kp,ad,b.row⟩
  have be:i<O ds:=AY (AE hg);have bf:(i:J)<O ds:=E;have HR:=HU.kept (V':=wr) (G:=F) (λ_ h=>h) b.kp B8 B8 B8;obtain⟨q0,rfl⟩:∃q0,ak=Aa q0:=by rcases HR.2 with⟨_,e⟩|⟨g,bs,a7,e,_⟩<;>grind
  have bx:O xs=O ds:=AY HR.1;obtain⟨x,hx⟩:∃x,xs[i]?=H x:=⟨xs[i],D3 E⟩
  obtain⟨d,hd⟩:∃d,ds[i]?=H d:=⟨ds[i],D3 be⟩
  have ao:=(HX i x d hx hd).kept (V':=wr) (G:=F) (λ_ h=>h) b.kp;obtain⟨tx,yx,rfl⟩:=ao.iface;have hc:A6 wr q0 i (Ai tx yx):=by have:=HR.cell i _ hx;grind [Addr.add]
  have bw:r+(1+CS k d)+((ds.drop (i+1)).map λd=>1+CS k d).sum<=S:=by grind [Go.RowKit.Hid,List.drop_eq_getElem_cons]
  have z:=ax.out wr F (Ai tx yx) d f2 s r n (av d (Uv hd)) b.rw af (λj hj=>CK (HF j hj) b.kp.size) ao (by grind [Go.RowKit.Hid,Ud]) (AY (AE HN));have bh:Ja (CW c.v k (([],AP)::p)) (ds.take (i+1)) R=(m++(CW c.v k (([],AP)::p) d s).1.toList,(CW c.v k (([],AP)::p) d s).2):=by grind [Go.RowKit.Hid,List.take_add_one,jq]
  have ab:Go.RowKit.Hid ((r+CS k d)+((ds.drop (i+1)).map λd=>1+CS k d).sum<=S):=Bp;obtain⟨o,am⟩:=CA (r+CS k d);rw[AE am]at z;rw[AE am]at ab;have bu:O m<=90000:=AY (AE ar);have bq:Go.RowKit.Hid (O m+1<=i+1):=B9;have a4:=C9 b.kp.size;have a0:Go.RowKit.Hid (∀g,Ax (AX a l L)=H g->g<K (U wr)):=by obtain⟨xs,P,_⟩:=b.own;exact Ps P
  rcases hq:CW c.v k (([],AP)::p) d s with⟨bn,A⟩
  rw[hq]at z bh;obtain _|q:=bn
  .have ag:Go.RowKit.Hid (Ja (CW c.v k (([],AP)::p)) (ds.take (i+1)) R=(m,A)):=by grind [Go.RowKit.Hid]
   have ai:Ar As 146 #[A8 c.B,Ai tx yx,C Y f2] wr λe V'=>∃w,e=Ak (Af #[.nilIface,Ah AQ])/\Go.RowKit.Hid (DJ c A o w V')/\Go.RowKit.Hid (Dp wr V')/\Go.RowKit.Hid (Gs n w):=z.mono (by rintro e V' ⟨v',w,rfl,P,h2,h3,h4,_⟩;grind)
   go_wp2_with(first
    |(go_at_call 146;refine ai.mono ?_;rintro e w4 ⟨al,rfl,ae,aa,Q⟩))
   go_roundg g
   case measure=>omega
   case rel=>exact⟨i+1,a,l,L,A,o,al,m,rfl,Bb,B9,af.pre Q,ad.trans Q,b.step ae aa,ag,ab,by grind [Go.RowKit.Hid]⟩
  have ag:Go.RowKit.Hid (Ja (CW c.v k (([],AP)::p)) (ds.take (i+1)) R=(m++[q],A)):=by grind [Go.RowKit.Hid]
  have ai:Ar As 146 #[A8 c.B,Ai tx yx,C Y f2] wr λe V'=>∃t y w,e=Ak (Af #[Ai t y,Ah AP])/\Go.RowKit.Hid (DJ c A o w V')/\Go.RowKit.Hid (Dp wr V')/\Go.RowKit.Hid (Gs n w)/\Go.RowKit.Hid (Cv k V' (λj=>F j\/(K (U wr)<=j/\j<K (U V'))) (Ai t y) q):=z.mono (by rintro e V' ⟨v',w,rfl,P,h2,h3,_,h4⟩;have h5:=h4 q Z;obtain⟨t,y,rfl⟩:=h5.iface;grind)
  go_wp2_with(first
   |(go_at_call 146;refine ai.mono ?_;rintro e w4 ⟨t,y,al,rfl,ae,aa,Q,au⟩;have ah:=C9 (b.step ae aa);obtain⟨bz,bg,bj⟩:=ah.own;have HO:=C9 bg;have a6:=C9 bj;have aq:=C9 ah.kp.size)
   |(at_builtin;refine Jl Z Z underlying221 hi bk bl bm Z B8 Z (HO.alloc _) 1 1 Z Z (EI) (λu V=>by simp at V;subst V;rfl) B8 Bc E (B1 (AE aq)) ?_;intro v' w5 ap bd bi;have a5:=C9 (ah.push HW HG HF HO a6 au a0 a4 ap bd bi);obtain⟨g5,bt,rfl⟩:=ownsRow_succ ap))
  go_roundg g
  case measure=>omega
  case rel=>exact⟨i+1,_,_,_,A,o,al,m++[q],rfl,Bb,B9,af.pre Q,ad.trans Q,a5,ag,ab,by grind [Go.RowKit.Hid]⟩
theorem Jn.kept{G:I->Prop}(h:Jn k V F xs es)(f:∀k,F k->G k)(j:Dp V V'):Jn k V' G xs es:=λi key d g=>by obtain⟨l,x,a,b,c,e⟩:=h i key d g;exact⟨l,x,a,b,c,e.kept f j⟩
structure La(c:Rc)(k:Nat)(W:World)(F:Nat->Prop)(R:Cu)(N:Nat)(sts:List ((Nat->Nat)×Int×Int))(v:Value)(es:List (Lit×DataW Unit))(V:World):Prop where
 rw:DJ c R N sts V
 kp:Dp W V
 own:∃xs,V.ownsRow W.heap.size 225 2 v es.length xs/\Jn k V (λj=>(F j\/(W.heap.size<=j/\j<V.heap.size))/\some j≠v.ownBlock) xs es
theorem La.step{c:Rc}{R R':Cu}(h:La c k W F R N sts v es V)(f:DJ c R' N' sts' V')(a:Dp V V'):La c k W F R' N' sts' v es V':=by obtain⟨g,d,e⟩:=h.own;exact⟨f,h.kp.trans a,g,jp d a B8 B8 B8,e.kept (λj b=>⟨b.1.imp id (λh=>⟨h.1,CK h.2 a.size⟩),b.2⟩) a⟩
theorem q0U{c:Rc}{R:Cu}(b:DJ c R N sts V)(a:Dp W V):La c k W F R N sts (T Ao 0 0) [] V :=
 ⟨b,a,[],Fa _ _ _ _,λi x d e=>by simp at e⟩
theorem La.push{c:Rc}{R:Cu}{x:Aq}{l:A1}(h:La c k W F R N sts v es V)(hW:K (U c.W0)<=K (U W))(hG:K (U c.G)<=K (U W))(hF:∀j,F j->j<K (U W))(w:V.ownsRow (K (U W)) 225 2 v (O es) xs)(hx:Jn k V (λj=>(F j\/(K (U W)<=j/\j<K (U V)))/\H j≠Ax v) xs es)(hd:Cv k V (λj=>F j\/(K (U V0)<=j/\j<K (U V))) x d)(al:∀g,Ax v=H g->g<K (U V0))(ai:K (U W)<=K (U V0))(aa:w5.ownsRow (K (U W)) 225 2 v' (O es+1) (xs++[Ae ⟨Aw l⟩,x]))(m:(Az V (M #[Ae ⟨Aw l⟩,x] 225)).grownBy w5 (Ax v))(r:Ax v'=Ax v\/Ax v'=H (K (U (Az V (M #[Ae ⟨Aw l⟩,x] 225))))):La c k W F R N sts v' (es++[(.string l,d)]) w5:=by
 have Q:=h.kp.size;have ak:K (U V)+1<=K (U w5):=B2 m.size;have key:∀g,Ax v=H g->K (U W)<=g:=λg m=>DK w m;have s:=λj f u=>(m.block j B7 u).trans (Cx _ _ _ f);have y:∀j,j<K (U W)->w5.heap[j]?=V.heap[j]?:=λj f=>s j E (λe=>B9);have t:Dp W w5:=⟨E,λj cs ae fr a b c d=>(y j (Cc a)).trans (h.kp.row j cs ae fr a b c d)⟩
 have ad:DJ c R N sts w5:=by
  have n:=h.rw.step (Cl (o:=(M #[Ae ⟨Aw l⟩,x] 225)));have ab:=w.alloc (M #[Ae ⟨Aw l⟩,x] 225);rcases ab.2 with⟨z,_⟩|⟨g,ag,ah,z,aj,A,_⟩
  .refine n.step ⟨m.os,m.tape,m.output,m.size,λj f=>m.block j f (by grind [Value.ownBlock])⟩
  have ac:Ax v=H g:=keb;rw[ac]at m;obtain⟨sa,sc,nf,mn,mf,k1,k2,k3⟩:=n.here;refine⟨(m.block c.B (Cc n.box) (λe=>?_)).trans n.box,⟨sa,sc,nf,mn,mf,k1.off (B:=g) ?_ m A B8 B8 B8,k2,k3⟩,⟨Cy n.fr.1 m.size,λj a b c d e=>(m.block j (CK a n.fr.1) (λe2=>B9)).trans (n.fr.2 j a b c d e)⟩,n.few⟩
  .injection e with e;rw[<-e,n.box]at A;grind
  omega
 refine⟨ad,t,_,by rw[Dc];exact aa,λi af c p=>?_⟩;have L:∀j,j<K (U V)->H j≠Ax v->H j≠Ax v':=λj f u=>by
  rcases r with r|r
  .rw[r];exact u
  rw[r];intro e;injection e with e;simp at e;omega
 have am:=w.1;by_cases hi:i<O es
 .rw[GM hi]at p;obtain⟨l',x',S,e2,e3,e4⟩:=hx i af c p;refine⟨l',x',S,B9,B9,?_⟩;have q:∀j,(F j\/(K (U W)<=j/\j<K (U V)))->j<K (U V):=λj f=>f.elim (λh=>CK (hF j h) Q) (λh=>h.2);exact e4.same (λj f=>⟨f.1.imp id (λh=>⟨h.1,E⟩),L j (q j f.1) f.2⟩) (λj f=>s j (q j f.1) f.2)
 have e:i=O es:=B9;subst e;rw[IU E]at p;simp at p;obtain⟨rfl,rfl⟩:=p;have P:∀j,(F j\/(K (U V0)<=j/\j<K (U V)))->H j≠Ax v:=λj f e=>B9;have q:∀j,(F j\/(K (U V0)<=j/\j<K (U V)))->j<K (U V):=λj f=>f.elim (λh=>CK (hF j h) Q) (λh=>h.2);refine⟨l,x,Z,?_,?_,hd.same (λj f=>⟨f.imp id (λh=>⟨E,E⟩),L j (q j f) (P j f)⟩) (λj f=>s j (q j f) (P j f))⟩<;>grind
theorem La.row{c:Rc}{R:Cu}(h:La c k W F R N sts v es V):Cv (k+1) V (λj=>F j\/(K (U W)<=j/\j<K (U V))) (Ai 223 v) (.map es):=by
 obtain⟨p,a,i⟩:=h.own;unfold Cv;refine⟨v,p,Z,⟨a.1,?_⟩,i.same (λj o=>o.1) (λ_ _=>rfl)⟩;rcases a.2 with l|⟨g,d,f,e,n,b,m⟩
 .exact AF l
 exact AG ⟨g,d,f,e,AG ⟨n,(Cc b)⟩,b,m⟩
theorem jr{f:A1->A2->Cu->Option (AM Unit)×Cu}{l:AJ (Lit×AM Unit)}{e:Lit×AM Unit}{R:Cu}{R1:Cu}(h:Jb f l R=(es,R1)):Jb f (l++[e]) R=(es++((f (CX e.1) e.2 R1).1.map λd=>(e.1,d)).toList,(f (CX e.1) e.2 R1).2):=by grind [Jb]
theorem jt{α:Type}(g:α->I):∀l:AJ α,O l<=(l.map λd=>2+g d).sum
 |[]=>En _
 |a::l=>by have:=jt g l;grind
theorem qpx{c:Rc}(ok:IE c)(ih:RI c k){p:AJ (A1×AK)}{R:Cu}(h:DJ c R N sts W)(hf:IF c sts f p)(hF:∀j,F j->j<K (U W))(hu:DH W 225 2 F u (O es) xs)(hx:Jn k W F xs es)(hc:O (es.flatMap λe=>(D4 3 (O (CX e.1))++CX e.1)++Do k e.2)<=999999999)(hN:N+(es.map λe=>2+CS k e.2).sum<=90000):Ar As 203 #[A8 c.B,u,C Y f] W (Ub c (k+1) F 223 (.map (Jb (λkey=>CW c.v k ((key,AQ)::p)) es R).1,(Jb (λkey=>CW c.v k ((key,AQ)::p)) es R).2) (N+(es.map λe=>2+CS k e.2).sum) sts W):=by
 obtain⟨i0,hi,b8,b9,ca⟩:=DD Tryz.infoEntry;obtain⟨a2,au,rfl⟩:∃a2 au,u=T a2 (O es) au:=by rcases hu.2 with⟨e,e2⟩|⟨g,au,b4,e,_⟩<;>grind
 obtain⟨rr,bd⟩:=CA (Jb (λkey=>CW c.v k ((key,AQ)::p)) es R);rw[AE bd];have an:=C9 ok;have b0:=C9 ih;have HW:=C9 h.below.size;have HG:=C9 h.fr.1;have HU:=C9 hu;have HX:=C9 hx;have HC:=C9 hc;have HF:=C9 hF;obtain⟨NE,am⟩:∃NE,D (N+(es.map λe=>2+CS k e.2).sum=NE):=⟨_,rfl⟩
 have ck:O es<=90000:=AY (jt (λe:Lit×AM Unit=>CS k e.2) es);have HN:=C9 (AE am▸hN);rw[AE am];have bc:=C9 h;have a8:=C9 hf;clear h hf hu hx hc hF hN ok ih;go_enter func203,ntmps203
 go_wp2_with fail
 go_loopg[7,15] (O es) (λg y cb wr=>∃(i:I) (a:A4) (l q:I) (V:Cu) (s:I) (ab:AJ ((I->I)×J×J)) (m:AJ (Lit×AM Unit)),y=T a l q/\cb=C Y i/\D (i+g=O es)/\D (IF c ab f p)/\D (Gs sts ab)/\D (La c k W F V s ab (T a l q) m wr)/\D (Jb (λkey=>CW c.v k ((key,AQ)::p)) (es.take i) R=(m,V))/\D (s+((es.drop i).map λe=>2+CS k e.2).sum<=NE)/\D (O m<=i))
 case atStart=>exact⟨0,Ao,0,0,R,N,sts,[],rfl,rfl,Bg,a8,Gs.refl _,q0U bc (Dp.refl _),rfl,NY am,Co _⟩
 case round =>
  clear bc a8;obtain⟨i,a,l,q,V,s,ab,m,rfl,rfl,hg,aq,ao,Q,ap,ba,bz⟩:=hrel;obtain _|g:=gk
  .have b6:¬(i:J)<O es:=AY (AE hg);have HT:D (es.take i=es):=by grind [D]
   go_wp2;go_ret;have P:=AE ap;rw[AE HT,AE bd]at P;rw[P];exact⟨a,l,q,ab,Z,Q.rw.more (AY (AE ba)),Q.kp,ao,Q.row⟩
  have b5:i<O es:=AY (AE hg);have b6:(i:J)<O es:=E;have HR:=HU.kept (V':=wr) (G:=F) (λ_ h=>h) Q.kp B8 B8 B8;obtain⟨q0,rfl⟩:∃q0,a2=Aa q0:=by rcases HR.2 with⟨_,e⟩|⟨g,cf,b4,e,_⟩<;>grind
  obtain⟨⟨key,d⟩,hd⟩:∃d,es[i]?=H d:=⟨es[i],D3 b5⟩
  obtain⟨b,cl,rfl,bt,bu,ay⟩:=HX.out i key d hd;have bl:=ay.kept (V':=wr) (G:=F) (λ_ h=>h) Q.kp;obtain⟨n,r,rfl⟩:=bl.iface;have ch:A6 wr q0 (i*2) (Ae ⟨Aw b⟩):=by have:=HR.cell (2*i) _ bt;grind [Addr.add]
  have ci:A6 wr q0 (i*2+1) (Ai n r):=by have:=HR.cell (2*i+1) _ bu;grind [Addr.add]
  have b7:s+(2+CS k d)+((es.drop (i+1)).map λe=>2+CS k e.2).sum<=NE:=by grind [D,List.drop_eq_getElem_cons]
  have bn:O (Do k d)<=999999999/\O b<=999999999:=by grind [D,Ud,CX]
  have aj:D (A0 wr (Az wr (M #[Ae ⟨Aw b⟩,Ai n r] 225))):=Cl;have ag:D ((Az wr (M #[Ae ⟨Aw b⟩,Ai n r] 225)).heap[K (U wr)]?=H (M #[Ae ⟨Aw b⟩,Ai n r] 225)):=Cj _;have o:=C9 (Q.step (Q.rw.step aj) (Dp.of_below aj));have o:=C9 (o.step (o.rw.step (Cq _ _).drew) (Dp.of_below (Cq _ _).drew));have ag:D ((World.drew (Az wr (M #[Ae ⟨Aw b⟩,Ai n r] 225))).heap[K (U wr)]?=H (M #[Ae ⟨Aw b⟩,Ai n r] 225)):=Cj _;have L:(λw:X=>A6 w c.B 39 (A8 c.A)/\A6 w (K (U wr)) 0 (Ae ⟨Aw b⟩)) { (Az wr (M #[Ae ⟨Aw b⟩,Ai n r] 225))with drawn:=(Az wr (M #[Ae ⟨Aw b⟩,Ai n r] 225)).drawn+1}:=⟨Uc o.rw an,Cb ag 0⟩
  have cN:=o.rw.next an (AY (AE HN)) aq b AQ Bc
  have bm:=C9 ay;have a5:=C9 bn.1;have a1:Jb (λkey=>CW c.v k ((key,AQ)::p)) (es.take (i+1)) R=(m++((CW c.v k ((b,AQ)::p) d V).1.map λd=>(Lit.string b,d)).toList,(CW c.v k ((b,AQ)::p) d V).2):=by rw[Q5,hd];exact jr ap
  have al:D ((s+1+CS k d)+((es.drop (i+1)).map λe=>2+CS k e.2).sum<=NE):=Bp;have bb:D (s+1+CS k d<=90000):=by grind [D]
  have cj:O m<=90000:=AY (AE bz);have cd:D (O m+1<=i+1):=B9;clear HR bt bu hd bl ay b7 bn ba ap Q aj;rcases hq:CW c.v k ((b,AQ)::p) d V with⟨bw,R4⟩
  rw[hq]at a1;have ak:D (∀V4 x z,La c k W F V (s+1) z (T a l q) m V4->IF c z x ((b,AQ)::p)->Ar As 146 #[A8 c.B,Ai n r,C Y (x:I)] V4 (U9 c k F (bw,R4) (s+1+CS k d) z V4)):=λV4 x z P h2=>hq▸b0.out V4 F (Ai n r) d ((b,AQ)::p) x V (s+1) z P.rw h2 (λj hj=>CK (HF j hj) P.kp.size) (bm.out.kept (λ_ h=>h) P.kp) a5 bb;obtain⟨N4,a7⟩:=CA (s+1+CS k d);rw[AE a7]at ak al;clear bm a5 bb hq a7
  go_wp2_with fail
  refine Ef (S:=λw=>A6 w c.B 39 (A8 c.A)/\A6 w (K (U wr)) 0 (Ae ⟨Aw b⟩)) B6 ?_;refine Ca 0 19 (A8 c.B) L ?_;refine Ca 1 20 (A8 c.B) L ?_;refine Ca 2 21 (A8 c.B) L ?_;refine Ca 3 22 (A9 c.B 39) L ?_;refine Cf 4 23 (A8 c.A) Z (λw hZ=>?y4) L ?_
  case y4=>(have z1:=hZ.1;go_simp)
  refine Ca 5 24 (C Y f) L ?_;refine Ca 6 25 (A8 (K (U wr))) L ?_;refine Cf 7 26 (Ae ⟨Aw b⟩) Z (λw hZ=>?y7) L ?_
  case y7=>(have z1:=hZ.2;go_simp)
  refine Ca 8 27 (Ag #[Ae ⟨Aw b⟩,Ah AQ]) L ?_;refine CC 9 (λce hK=>?_);go_simp;refine cN.mono ?_;clear cN;rintro e w4 ⟨x,z,rfl,aw,av,bi,bg⟩;have t:=C9 (o.step aw av);have ah:=C9 (av.row _ _ _ _ ag B8 B8 B8);have ad:=C9 bi;have a9:=C9 bg;have ax:(λw:X=>A6 w c.B 39 (A8 c.A)/\A6 w (K (U wr)) 0 (Ae ⟨Aw b⟩)) w4:=⟨Uc aw an,Cb ah 0⟩
  simp only[];refine hK.out _ _ ax (λ_=>?_);clear hK o aw av bi bg ag L;refine Ca 10 10 (C Y x) ax ?_;refine CG ?_;go_simp;clear ax;have cR:=ak.out w4 x z t a9;have az:=Cb ah 0;have bo:=Cb ah 1;clear ak a9;have b2:=C9 t.kp.size;have b1:D (∀g,Ax (AX a l q)=H g->g<K (U w4)):=by obtain⟨xs,P,_⟩:=t.own;exact Ps P
  obtain _|d':=bw
  .have ar:D (Jb (λkey=>CW c.v k ((key,AQ)::p)) (es.take (i+1)) R=(m,R4)):=by grind [D]
   clear a1 az
   go_wp2_with(first
    |(go_at_call 146;refine cR.mono ?_;clear cR bo;rintro e w5 ⟨v5,a4,rfl,bk,bh,bj,br,_⟩;obtain rfl:=br rfl;have ae:=C9 bk;have ac:=C9 bh;have aa:=C9 bj;clear bk bh bj br;simp only[Uz]))
   go_roundg g
   case measure=>omega
   case rel=>exact⟨i+1,a,l,q,R4,N4,a4,m,rfl,Bb,B9,(aq.pre ad).pre aa,(ao.trans ad).trans aa,t.step ae ac,ar,al,by grind [D]⟩
  have ar:D (Jb (λkey=>CW c.v k ((key,AQ)::p)) (es.take (i+1)) R=(m++[(Lit.string b,d')],R4)):=by grind [D]
  have bf:Ar As 146 #[A8 c.B,Ai n r,C Y x] w4 λe V'=>∃ai y a3,e=Ak (Af #[Ai ai y,Ah AP])/\D (DJ c R4 N4 a3 V')/\D (Dp w4 V')/\D (Gs z a3)/\D (Cv k V' (λj=>F j\/(K (U w4)<=j/\j<K (U V'))) (Ai ai y) d'):=cR.mono (by rintro e V' ⟨v',a3,rfl,P,h2,h3,_,h4⟩;have h5:=h4 d' Z;obtain⟨ai,y,rfl⟩:=h5.iface;grind);clear cR a1 az
  go_wp2_with(first
   |(go_at_call 146;refine bf.mono ?_;clear bf bo;rintro e w5 ⟨ai,y,a4,rfl,ae,ac,aa,a6⟩;have af:=C9 (t.step ae ac);have az:=Cb (ac.row _ _ _ _ ah B8 B8 B8) 0;clear t ae;obtain⟨cm,bq,bv⟩:=af.own;have HO:=C9 bq;have be:=C9 bv;have bx:=C9 af.kp.size;clear bq bv)
   |(at_builtin;refine Jl Z Z underlying223 hi b8 b9 ca Z B8 Z (HO.alloc _) 1 1 Z Z (EI) (λu hu=>BD) B8 Bc E (B1 (AE bx)) ?_;intro v' w6 a0 bp bs;have b3:=C9 (af.push HW HG HF HO be a6 b1 b2 a0 bp bs);obtain⟨g6,cg,rfl⟩:=ownsRow_succ a0;clear a0 bp bs af HO be a6))
  go_roundg g
  case measure=>omega
  case rel=>exact⟨i+1,_,_,_,R4,N4,a4,m++[(Lit.string b,d')],rfl,Bb,B9,(aq.pre ad).pre aa,(ao.trans ad).trans aa,b3,ar,al,by grind [D]⟩
structure OP(W:World)(N:Nat)(b:UInt8)(n bp:Nat)(cur:List Value)(V:World):Prop where
 below:A0 W V
 row:V.heap[N]?=some (.cells cur.toArray 5 (0,0))
 lo:W.heap.size<=N
 fit:n<=cur.length
 same:∀j,j<bp->cur[j]?=some (.int .u8 b.toNat)
theorem q6u(W:X)(d:n<=65536):∃cs:A3,(callFunc 183 #[C Y n]).run As W=.ok (.value (T (Aa (K (U W))) n cs.size)) (W.drew.drew.alloc (M cs 5))/\n<=cs.size/\cs.size<=maxLen:=by obtain⟨cs,c,a,b⟩:=Lib.run_makeNoZero (P:=As) W #[3] 50 5 underlying50 n E;refine⟨cs,?_,a,b Bc⟩;rw[run_callFunc_extern func183 B6 B6 B6 (e:=Extern.BytealgMakeNoZero.makeNoZero #[3] #[50]) B6,c];rfl
theorem qv9{b:AU}:∀v∈[Value.int Am (b.toNat:J)],v.oneCell'=AP:=λv a=>by simp at a;subst a;rfl
theorem q7b(h:bp<n):(Instr.sliceAt 50 (T (Aa N) n n) (H (C Y bp)) Ao Ao).run As V=.ok (T (H ⟨N,bp,Ao⟩) (n-bp) (n-bp)) V:=by have e:(⟨N,0,Ao⟩:Addr).add bp=⟨N,bp,Ao⟩:=BR;have a:¬n=bp:=E;have b:(bp:J)<=n:=E;rw[UI (P:=As) V 50 _ _ _ _ B6];simp[Instr.slice,MO underlying50,Instr.sliceBounds,UP,b];rw[Ci a,e]
theorem q68{ch:I}(h:ch<=n):(Instr.sliceAt 50 (T (Aa N) n n) Ao (H (C Y ch)) Ao).run As V=.ok (T (Aa N) ch n) V:=by
 have e:(⟨N,0,Ao⟩:Addr).add 0=⟨N,0,Ao⟩:=by simp[Addr.add]
 have a:(ch:J)<=n:=E;rw[UI (P:=As) V 50 _ _ _ _ B6];simp[Instr.slice,MO underlying50,Instr.sliceBounds,UP,a,e]
theorem Y5{ev:Operand->Aq}{W:Ap}{o:Oper}{ty:AN}(x:Operand){lo:Option Operand}(hi:Option Operand)(b:o.op=.slice ty x lo hi Ao){X:Aq}{L H:Option Aq}(hx:ev x=X)(hl:lo.map ev=L)(a:hi.map ev=H)(h:(Instr.sliceAt ty X L H Ao).run P W=.ok v W):(execOp ev o).run P W=.ok (.value v) W:=by unfold execOp;simp_all
theorem qyt{b:AU}(h:OP W N b n n cur V)(d:n<=65536):Fi V (H ⟨N,0,Ao⟩) (AV n b):=by refine⟨λi a=>⟨N,0,rfl,(Cc h.row),?_⟩,By⟩;have c:i<n:=Bl;rw[Gw,Cb h.row i];have:=h.same i c;simpa using this
theorem OP.copy{b:AU}{m:I}(h:OP W N b n bp cur V)(hb:A0 W V')(f:bp+m<=n)(d:V'.heap[N]?=H (M (Aw (splice cur bp (AV m (C Am b.toNat)))) 5 (0,0))):OP W N b n (bp+m) (splice cur bp (AV m (C Am b.toNat))) V':=by
 have c:bp+O (AV m (Value.int Am (b.toNat:J)))<=O cur:=B0 h.fit;refine⟨hb,d,h.lo,by rw[length_splice _ _ _ c];exact h.fit,λj e=>?_⟩;unfold splice;by_cases a:j<bp
 .rw[GM B7,Qb a];exact h.same j a
 grind
theorem qrR{M:I}{b:AU}(h1:1<=n)(hn:n<=65536)(hM:A6 W M 0 (C Am b.toNat))(ak:M<K (U W)):Ar As 147 #[T (Aa M) 1 1,C Y n] W λe z=>∃g,e=Ak (T (Aa g) n n)/\Fi z (Aa g) (AV n b)/\A0 W z:=by
 have B:=λaa=>Tryz.bits_Mul 1 n E E aa;have e1:1*n/18446744073709551616=0:=E;have e2:1*n%18446744073709551616=n:=E;simp only[e1,e2]at B;have ao:((n:J)==0)=AQ:=B7;obtain⟨cs,am,aj,an⟩:=q6u W hn;have P:D ((W.drew.drew.alloc (Aj cs 5)).heap[K (U W)]?=H (Aj (Aw cs.toList) 5 (0,0))):=by show _=_;rw[YJ];exact Cj W.drew.drew
 have t:D (A0 W (W.drew.drew.alloc (Aj cs 5))):=((Cq _ _).drew.drew).alloc (Co _) _;have Q:=G ((t.cell ak).trans hM);have V:D (∀(j:I) (v:Aq),[Value.int Am b.toNat][j]?=H v->(W.drew.drew.alloc (Aj cs 5)).cell? ((⟨M,0,Ao⟩:Addr).add j)=H v):=λj v d=>by
  obtain _|j:=j
  .simp at d;subst d;exact Q
  simp at d
 have R:D ([Value.int Am (b.toNat:J)].length=Nat.min 1 n):=(Nat.min_eq_left h1).symm;have x:D (0+[Value.int Am (b.toNat:J)].length<=O cs.toList):=by show _<=_;simp;omega
 by_cases h8:n<=8192
 all_goals
  go_enter func147,ntmps147
  go_upto_region 17 with(first
   |(go_at_call 182;refine(B _).mono ?_;rintro e c ⟨rfl,rfl⟩))
  refine wp_region_list ?_;refine Lg Z λs l=>?_;go_simp;refine l _ _ ?_;refine Lg Z λs l=>?_;go_simp;refine l _ _ ?_;refine wpList_copy_splice Z (.tmp 58) (.tmp 59) 50 50 Z 5 underlying50 B6 (Aa (K (U c))) (Aa M) n n 1 1 Z Z (K (U c)) 0 cs.toList 5 P [C Am b.toNat] R (λ_=>⟨Z,⟨M,0,Ao⟩,Z,V⟩) x (qv9) (K (U c)) c t (Co _) ?_;intro w4 ah ac;refine Lg Z λs l=>?_;go_simp;refine l _ _ ?_
  go_wp2_with fail
  have h:D (OP c (K (U c)) b n 1 (splice cs.toList 0 [C Am b.toNat]) w4):=⟨ac,AE ah,Co _,by rw[length_splice _ _ _ x.out];simpa using aj,λj L=>by obtain rfl:j=0:=E;simp[splice]⟩
  go_loopg[10] n (λg al wr=>∃(a:I) (r:AJ Aq),al=C Y a/\D (1<=a)/\D (a<=n)/\D (n<=a+g)/\D (OP c (K (U c)) b n a r wr))
  case atStart=>exact⟨1,_,rfl,Co _,h1,Bp,h⟩
  case round =>
   obtain⟨a,r,rfl,u,N,w,i⟩:=hrel;by_cases af:a<n
   .have hl:(a:J)<n:=E
    first|(have h9:n<=8192:=E;obtain⟨k,p⟩:=CA (min a n);have ag:(min (a:J) (n:J))=k:=(AY (AE p)))|(obtain⟨k,p⟩:=CA (min a 8192);have ag:(min (a:J) 8192)=k:=AY (AE p))
    go_wp2_with fail
    obtain⟨m,f⟩:=CA (min k (n-a));have q:D (OP c (K (U c)) b n a r {wr with drawn:=wr.drawn+1}):=⟨i.below.drew,i.row,i.lo,i.fit,i.same⟩
    refine Dl (S:=λ_=>True) (trivial) B6 ?_;intro o;generalize({wr with drawn:=wr.drawn+1}:X)=w5 at *;refine Ca 0 67 (C Y a) o ?_;refine Ca 1 68 (T (Aa (K (U c))) n n) o ?_;refine Ca 2 69 (C Y a) o ?_;refine Cf 3 70 (T (H ⟨K (U c),a,Ao⟩) (n-a) (n-a)) Z (λA F=>Y5 (.tmp 68) Ao Z B6 B6 B6 (q7b af)) o ?_;refine Ca 4 71 (T (Aa (K (U c))) n n) o ?_;refine Ca 5 72 (C Y k) o ?_;refine Cf 6 73 (T (Aa (K (U c))) k n) Z (λA F=>Y5 (.tmp 71) (H (.tmp 72)) Z B6 B6 B6 (q68 (AY (AE p)))) o ?_;refine CC 7 (λs l=>?_);refine step_copy_splice Z (.tmp 70) (.tmp 73) 50 50 Z 5 underlying50 B6 (H ⟨K (U c),a,Ao⟩) (Aa (K (U c))) (n-a) (n-a) k n B6 B6 (K (U c)) a r 5 q.row (AV m (C Am b.toNat)) ?hn (λ_=>⟨Z,⟨K (U c),0,Ao⟩,Z,?hs⟩) ?hf ?h1 (K (U c)) c q.below (Co _) ?_
    case hn=>rw[Uu];exact f.symm
    case hf=>rw[Uu];have:=q.fit;have:=AE f;omega
    case h1=>intro v d;rw[(List.mem_replicate.1 d).2];rfl
    case hs =>
     intro j v d;have L:j<m:=B2 (Dh d);rw[List.getElem?_replicate_of_lt L]at d;have e:(⟨K (U c),0,Ao⟩:Addr).add j=⟨K (U c),j,Ao⟩:=by by_cases ab:j=0<;>simp[Addr.add,ab]
     rw[e,Cb q.row j,<-d];have:=q.same j (B3 (AE f) (AE p));simpa using this
    intro w6 ai ad;rw[Uu];have y:=G (q.copy ad (AY (AE f)) ai.out);refine l.out _ _ trivial (λ_=>?_);refine Cf 8 75 (C Y ((a+m:I):J)) Z (λA F=>?y8) trivial ?_
    case y8 =>
     go_simp;exact(Yr _).trans (AY (AE f))
    refine Ca 9 10 (C Y ((a+m:I):J)) trivial ?_;refine CG ?_;go_simp
    go_wp2_with fail
    obtain _|g:=gk
    .have:=AE w;omega
    go_roundg g
    case measure=>omega
    case rel=>exact⟨a+m,_,Bb,by show _<=_;have:=AE u;omega,by show _<=_;have:=AE f;omega,by show _<=_;have h1:=AE f;have h2:=AE p;have h3:=AE u;have h4:=AE w;omega,y⟩
   have hl:¬(a:J)<n:=E;have ae:a=n:=AY (AE N);subst ae
   go_wp2_with fail
   go_ret;exact⟨_,Z,qyt i hn,i.below⟩
theorem qsV{a:A4}(l c:I):Ar As 147 #[T a l c,C Y 0] W λe b=>∃g d,e=Ak (T (Aa g) 0 d)/\A0 W b:=by go_enter func147,ntmps147;go_wp2;go_ret;exact⟨_,_,Z,Cl⟩
theorem qsJ{M:I}{b:AU}(n:I)(l:n<=65536)(f:A6 W M 0 (C Am b.toNat))(k:M<K (U W)):Ar As 147 #[T (Aa M) 1 1,C Y n] W λe a=>∃g c,e=Ak (T (Aa g) n c)/\Fi a (Aa g) (AV n b)/\A0 W a:=by
 by_cases h:n=0
 .subst h;refine(qsV 1 1).mono ?_;rintro e a ⟨g,c,rfl,d⟩;exact⟨g,c,Z,⟨λi j=>by simp at j,Ba⟩,d⟩
 refine(qrR E l f k).mono ?_;grind
def Kv(fm:AI)(bs:A1):AJ AI->Option A1
 |[]=>Ao
 |x::B=>if(At bs:AI)<=x then An (bs++AV (x.toNat-At bs) (_root_.UInt8.ofNat (GL fm)))else Kv fm bs B
def IG(fm:AI)(bs:A1)(B:AJ AI):Option A1:=if At B=0 then An bs else Kv fm bs B
theorem jK(fm:J):(_root_.UInt8.ofNat (GL fm)).toNat=GL fm:=by unfold GL;split<;>rfl
theorem q2H{b:AU}(h:Fi W (Aa g) (AV n b)):∀(j:I) (u:Aq),((AV n b).map CJ)[j]?=H u->AC W ((⟨g,0,Ao⟩:Addr).add j)=H u:=by intro j u f;have d:j<O (AV n b):=B9;obtain⟨i,off,a,_,c⟩:=h.at_ j d;injection a with a;injection a with a e2 _;subst a;subst e2;have e:(⟨g,0,Ao⟩:Addr).add j=⟨g,j,Ao⟩:=BR;rw[e];rw[Gw]at c;rw[c,<-f,LS,D3 d];rfl
theorem q5X(n:I)(b:AU):O ((AV n b).map CJ)=n*1:=Ba
theorem q6a(n:I)(b:AU):∀u∈(AV n b).map CJ,u.oneCell'=AP:=λu a=>by obtain⟨c,_,rfl⟩:=KI.1 a;rfl
theorem q0H{b:AU}(h:Ck W base v bs)(c:W'.ownsRow base 5 1 v' (O bs+n) (bs.map CJ++(AV n b).map CJ))(a:W.grownBy W' (Ax v)):Ck W' base v' (bs++AV n b)/\Below base W W':=by refine⟨⟨B9,Cy h.2.1 a.size,?_⟩,GC (Cq base W) h.1 a h.2.1⟩;rcases c.2 with⟨e,_⟩|⟨g,d,f,e,_⟩<;>grind
def jL(W:Ap)(base:AH)(r:Option A1)(e:Ending)(W':Ap):Prop :=
 (∃v',e=Ak (Af #[v',Ah r.isSome])/\(r=Ao->v'=Ac Ao 0 0)/\∀l,r=An l->Ck W' base v' l)/\Below base W W'
def jM(fm:AI)(B:AJ AI):Prop:=∀(W:Ap) (base:AH) (v:Aq) (bs:A1) (ba:A4) (bc:AH),Ck W base v bs->FH W ba B->At bs<=999999999->Ar As 108 #[Ab Al fm,v,Ac ba (At B) bc] W (jL W base (IG fm bs B))
theorem qy0{ba:A4}(bc:I){B:AJ J}{h:Ck W base v bs}(hB:FH W ba B)(aq:O B<=8)(ag:∀i (h:i<O B),B[i]<=65536)(hl:O bs<=999999999):Ar As 108 #[C Y fm,v,T ba (O B) bc] W (jL W base (IG fm bs B)):=by
 obtain⟨i0,hi,aj,ak,al⟩:=DD Tryz.infoU8;obtain⟨ia,d,rfl,ap⟩:=PS h;have w:=G h;have z:=G h.2.1;have HI:=G hB;have HX:=G ag;have s:=λae=>qsk fm ae;obtain⟨a,V⟩:∃a:AU,D (_root_.UInt8.ofNat (GL fm)=a):=⟨_,rfl⟩
 have aa:D ((GL fm:J)=(a.toNat:J)):=by grind [D,jK]
 rw[AE aa]at s;by_cases h0:O B=0
 .have m:D (IG fm bs B=H bs):=by grind [D,IG]
  rw[h0];go_enter func108,ntmps108;go_wp2;refine CL (Fw results108 _ _ _) Z ?_;rw[AE m];exact⟨⟨_,Z,λh=>Bx,λl h=>by have t:=Fg h;rw[<-t];exact w⟩,Cq _ _⟩
 obtain⟨r,c⟩:=CA (Kv fm bs B);have m:D (IG fm bs B=r):=by grind [IG]
 rw[AE m];have an:((O B:J)==0)=AQ:=B9;go_enter func108,ntmps108
 go_wp2_with fail
 go_loopg[17] (O B) (λg am wr=>∃k:I,am=C Y k/\D (k+g=O B)/\W=wr/\D (Kv fm bs (B.drop k)=r))
 case atStart=>grind [D]
 case round =>
  obtain⟨k,rfl,u,rfl,c⟩:=hrel;obtain _|g:=gk
  .have ah:¬(k:J)<O B:=AY (AE u);have b:r=Ao:=by have:=AE c;rw[RU (AY (AE u))]at this;exact this.symm
   subst b;go_wp2;refine CL (Fw results108 _ _ _) Z ?_;exact⟨⟨_,Z,λ_=>rfl,λl h=>Bo⟩,Cq _ _⟩
  have f:k<O B:=AY (AE u);have ah:(k:J)<O B:=E;obtain⟨b0,off,rfl,ao,N⟩:=HI.at_ k f;have hc:=N k f;have hx:=HX.out k f;have b:=AE c;rw[KA f,Kv]at b;clear N;generalize B[k]=x at *;by_cases P:(O bs:J)<=x
  .rw[Cn P,AE V]at b;obtain⟨n,hn⟩:∃n:I,x=(O bs:J)+n:=⟨(x-O bs).toNat,E⟩
   subst hn;have L:((O bs:J)+n).toNat-O bs=n:=E;rw[L]at b;have ad:=G b.symm;clear b L;have j:D (A0 W (Az W (Aj #[C Am (a.toNat:J)] 5))):=Cl;have F:=qsJ (W:=(Az W (Aj #[C Am (a.toNat:J)] 5))) (M:=K (U W)) n E (Cb (Cj W) 0) Ba;have A:Ar As 147 #[T (Aa (K (U W))) 1 1,C Y ((O bs:J)+n-O bs)] (Az W (Aj #[C Am (a.toNat:J)] 5)) λe q=>∃g d,e=Ak (T (Aa g) n d)/\D (Fi q (Aa g) (AV n a))/\D (A0 W q):=by rw[show(O bs:J)+n-O bs=n by omega];refine F.mono ?_;rintro e q ⟨g,d,rfl,h1,h2⟩;exact⟨g,d,Z,h1,j.trans (h2.mono j.size)⟩
   clear F j
   go_wp2_with(first
    |(go_at_call 89;refine(s _).mono ?_;clear s;rintro e w2 ⟨rfl,rfl⟩)
    |(go_at_call 147;refine A.mono ?_;clear A;rintro e w3 ⟨g3,af,rfl,S,y⟩;have p:=G (Nf w y);have ac:=G (q2H S);have ab:=G (q5X n a))
    |(at_builtin;refine JO _ Z _ _ 50 Z base 5 i0 (C Am 0) 1 1 underlying50 hi aj ak al Z B8 _ _ _ Z p.1 ⟨g3,0,Ao⟩ n af ((AV n a).map CJ) Z ab ac (q6a n a) Bc E p.2.1 ?_;intro v' w5 R Q ai;clear ai;have o:=G (q0H p R Q);clear R Q;obtain⟨a5,n5,c5,rfl⟩:=o.1.2.2))
   refine CL (Fw results108 _ _ _) Z ?_;rw[AE ad];exact⟨⟨_,Z,λh=>Bx,λl h=>by have t:=Fg h;rw[<-t];exact o.1⟩,(y.mono z).trans o.2⟩
  rw[Ci P]at b;have HN:=G b;clear b c
  go_wp2_with fail
  go_roundg g
  case measure=>omega
  case rel=>exact⟨k+1,Bb,B9,rfl,HN⟩
theorem q3J{B:AJ J}(c:O B<=8)(b:∀i (h:i<O B),B[i]<=65536):jM fm B:=λW base v bs ba a h d e=>qy0 (W:=W) (base:=base) (v:=v) (bs:=bs) (ba:=ba) a (B:=B) (h:=h) d c b e
structure Gt where
 inF:Int
 out:Int
 depth:Int
 bytes:Nat
 rc:A3
 bk:Value
def Da(g:Gt)(fed:Aq)(cl:AK):A3:=#[Ab Al g.inF,Ab Al g.out,Ab Al g.depth,Ab Al g.bytes]++g.rc++#[g.bk,fed,Ah cl]
theorem PZ{g:Gt}(j:I)(h:j<4):(Da g fed cl)[j]?=#[Value.int Y g.inF,C Y g.out,C Y g.depth,C Y g.bytes][j]?:=by grind [Da]
theorem Lb{g:Gt}(a:g.rc.size=40)(j:I):(Da g fed cl)[44+j]?=#[g.bk,fed,Ah cl][j]?:=by unfold Da;rw[MM keP];simp[a]
theorem qz4{g:Gt}(d:g.rc.size=40)(c b:Aq)(a:AK):_root_.Array.setIfInBounds (Da g c a) 45 b=Da g b a:=by unfold Da;simp_all
theorem qve{c:I}{news:A1}(h:Ck W base v acc)(hb:Fi W ia news)(A:ia=Ao->c=0)(hl:O acc+O news<=999999999):∃b d,(Builtin.append_ #[50,50] 50 #[v,T ia (O news) c]).run As W=.ok b d/\Ck d base b (acc++news)/\W.grownBy d (Ax v)/\(Ax b=Ax v\/Ax b=H (K (U W))):=by
 obtain⟨o,m,B,F,L⟩:=DD Tryz.infoU8;obtain _|k:=ia
 .have y:news=[]:=by
   obtain _|⟨a,t⟩:=news
   .rfl
   obtain⟨g,off,e,_⟩:=hb.at_ 0 Ba;cases e
  subst y;rw[A rfl];have f:=YH (P:=As) (w:=W) base 50 50 5 o 1 underlying50 m v (O acc) _ h.1;refine⟨v,W,f,Bw,⟨Z,Z,Z,Co _,λ_ _ _=>rfl⟩,AF Z⟩
 have z:∀j u,(news.map CJ)[j]?=H u->AC W (k.add j)=H u:=by intro j u i;have n:j<O news:=B9;obtain⟨g,off,p,_,r⟩:=hb.at_ j n;have q:=Fg p;subst q;have e:(⟨g,off,Ao⟩:Addr).add j=⟨g,off+j,Ao⟩:=BR;rw[e,r,<-i,LS,D3 n];rfl
 obtain⟨b,N,f,s,l,_,x⟩:=YV (P:=As) W base 50 50 5 o (C Am 0) 1 1 underlying50 m B F L rfl B8 v (O acc) _ h.1 k (O news) c (news.map CJ) Ba z (λu i=>by obtain⟨c,_,rfl⟩:=KI.1 i;rfl) Bc E h.2.1;refine⟨b,N,f,⟨B9,Cy h.2.1 l.size,?_⟩,l,x⟩;rcases s.2 with⟨e,_⟩|⟨g,Q,R,e,_⟩<;>grind
theorem q6e(n:I){m:I}(h:m<=cap):(Instr.sliceAt 50 (T ia n cap) Ao (H (C Y m)) Ao).run As V=.ok (T ia m cap) V:=by
 have e:∀a:Addr,a.add 0=a:=λa=>by simp[Addr.add]
 have b:(m:J)<=cap:=E;rw[UI (P:=As) V 50 _ _ _ _ B6];cases ia<;>simp[Instr.slice,MO underlying50,Instr.sliceBounds,UP,b,e]
theorem qky{w w':X}{o:Oper}{a:Act}{K:Act->X->Prop}{Q:Exit->Act->X->Prop}(s x:Operand)(b:o.op=.call {callee:=.builtin .append,args:=#[s,x],argTypes:=#[t,t]})(d:a.eval s=v)(hx:a.eval x=u)(c:(Builtin.append_ #[t,t] o.type #[v,u]).run P w=.ok v' w')(h:K (a.put o.dst v') w'):o.wp P a w K Q:=by unfold Oper.wp execOp;simp only[b,resolve,invoke,builtin,Ig,Ga,FT,NW,GO,Lh,d,hx,c];exact h
def q4n(W:Ap)(L base:AH)(g:Gt)(fed:Aq)(l:A1)(e:Ending)(W':Ap):Prop :=
 ∃fa fn fc,e=Ak (Af #[])/\Ck W' base (Ac fa fn fc) l/\W'.heap[L]?=An (Aj (Da g (Ac fa fn fc) AQ) 135)/\(W'.os=W.os/\W'.tape=W.tape/\W'.output=W.output)/\_root_.Array.size (Av W)<=_root_.Array.size (Av W')/\(∀k,k<_root_.Array.size (Av W)->k≠L->An k≠Ax fed->W'.heap[k]?=W.heap[k]?)/\∀j,Ax (AX fa fn fc)=An j->Ax fed=An j\/_root_.Array.size (Av W)<=j
theorem qy5{g:Gt}(A:g.rc.size=40)(s:W.heap[L]?=H (M (Da g fed AQ) 135))(l:Ck W base fed acc)(hL:L<base)(hb:Fi W ia bs)(ac:ia=Ao->cap=0)(ax:O bs<=cap)(aw:g.bytes<=4096)(ar:O acc<=g.bytes+1):Ar As 74 #[Ad (H ⟨L,0,Ao⟩),T ia (O bs) cap] W (q4n W L base g fed (acc++bs.take (g.bytes+1-O acc))):=by
 obtain⟨d,f,rfl,an⟩:=PS l;have F:=G s;have P:=G l;have h:AC W ⟨L,3,Ao⟩=H (C Y g.bytes):=(Cb s 3).trans (PZ 3 B8);have i:AC W ⟨L,45,Ao⟩=H (T d (O acc) f):=(Cb s 45).trans (Lb A 1);obtain⟨b,R⟩:∃b,D (O acc+b=g.bytes+1):=⟨g.bytes+1-O acc,Bg⟩
 have ad:g.bytes+1-O acc=b:=AY (AE R);rw[ad];obtain⟨m,N⟩:=CA (min (O bs) b);have HT:D (O (bs.take b)=m):=B9;have av:=hb.len;have B:D (Fi W ia (bs.take b)):=⟨λae hi=>by have ao:ae<O bs:=B9;obtain⟨g0,off,e1,x,e3⟩:=hb.at_ ae ao;grind,B9⟩
 have ap:=G hL;have v:=G A;have ai:=G ac;have ay:m<=O bs:=AY (AE N);have a1:b<=4097:=AY (AE R);have au:O acc<=4097:=E;clear s l an hL hb ac A ad;have a:(λc:X=>c.cell? ⟨L,3,Ao⟩=H (C Y g.bytes)/\c.cell? ⟨L,45,Ao⟩=H (T d (O acc) f)) {W with drawn:=W.drawn+1}:=⟨h,i⟩
 go_enter func74,ntmps74
 go_wp2_with fail
 refine Ef (S:=λc=>c.cell? ⟨L,3,Ao⟩=H (C Y g.bytes)/\c.cell? ⟨L,45,Ao⟩=H (T d (O acc) f)) B6 ?_;refine Ca 0 5 (Ad (H ⟨L,0,Ao⟩)) a ?_;refine Ca 1 6 (Ad (H ⟨L,0,Ao⟩)) a ?_;refine Ca 2 7 (Ad (H ⟨L,2,Ao⟩)) a ?_;refine Ca 3 8 (Ad (H ⟨L,3,Ao⟩)) a ?_;refine Cf 4 9 (C Y g.bytes) Z (λc p=>?y4) a ?_
 case y4=>(have z1:=p.1;go_simp)
 refine Cf 5 10 (C Y ((g.bytes:J)+1)) Z (λc p=>?y5) a ?_
 case y5=>(go_simp;grind [IntKind.wrap_i64])
 refine Ca 6 11 (Ad (H ⟨L,0,Ao⟩)) a ?_;refine Ca 7 12 (Ad (H ⟨L,0,Ao⟩)) a ?_;refine Ca 8 13 (Ad (H ⟨L,45,Ao⟩)) a ?_;refine Cf 9 14 (T d (O acc) f) Z (λc p=>?y9) a ?_
 case y9=>(have z1:=p.2;go_simp)
 refine Ca 10 15 (C Y (O acc)) a ?_;refine Cf 11 16 (C Y b) Z (λc p=>?y11) a ?_
 case y11=>(go_simp;grind [D,IntKind.wrap_i64])
 refine Ca 12 4 (C Y b) a ?_;refine CG ?_;go_simp;clear a
 go_wp2_with fail
 refine Ef (S:=λ_=>True) B6 ?_;have t:D (({World.drew W with drawn:=(World.drew W).drawn+1}:X).heap[L]?=H (M (Da g (T d (O acc) f) AQ) 135)):=F;have Q:D (Ck {World.drew W with drawn:=(World.drew W).drawn+1} base (T d (O acc) f) acc):=P;have ah:D (Fi {World.drew W with drawn:=(World.drew W).drawn+1} ia (bs.take b)):=B.below (Cq _ _).drew.drew;have o:D (A0 W {World.drew W with drawn:=(World.drew W).drawn+1}):=(Cq _ _).drew.drew;clear F P B h i;generalize({World.drew W with drawn:=(World.drew W).drawn+1}:X)=W2 at *;have a:=trivial;have a4:AC W2 ⟨L,45,Ao⟩=H (T d (O acc) f):=(Cb t 45).trans (Lb v 1);obtain⟨v',w,hr,z,ab,k⟩:=qve Q ah ai B9;rw[AE HT]at hr;have aj:=G z;have q:=G ab;have ag:=G k;obtain⟨j,n5,c5,rfl⟩:=z.2.2;have aa:H L≠Ax (AX d (O acc) f):=λe=>by have r:=DK Q.1 e.symm;grind [D]
 have u:=G ((q.block L (Cc t) aa).trans t);have a3:AC w ⟨L,45,Ao⟩=H (T d (O acc) f):=(Cb u 45).trans (Lb v 1);have aq:=Dq w L 45 _ _ u;clear z ab aa k;refine Ca 0 17 (Ad (H ⟨L,0,Ao⟩)) a ?_;refine Ca 1 18 (Ad (H ⟨L,0,Ao⟩)) a ?_;refine Ca 2 19 (Ad (H ⟨L,0,Ao⟩)) a ?_;refine Ca 3 20 (Ad (H ⟨L,45,Ao⟩)) a ?_;refine Ca 5 22 (T ia (O bs) cap) a ?_;refine Ca 6 23 (T ia (O bs) cap) a ?_;refine Ca 7 24 (C Y (O bs)) a ?_;refine Ca 8 25 (C Y b) a ?_;refine Cf 9 26 (C Y m) Z (λc p=>?y9) a ?_
 case y9 =>
  have az:min (O bs:J) (b:J)=m:=AY (AE N);go_simp
 refine Cf 10 27 (T ia m cap) Z (λc p=>Y5 (.tmp 22) (H (.tmp 26)) Z (L:=Ao) B6 B6 B6 (q6e (O bs) E)) a ?_;refine CC 4 (λV n=>?_);go_simp;refine n.out _ _ trivial (λ_=>?_);clear n;refine CC 11 (λV n=>?_);refine Kp B6 ?_;refine qky (.tmp 21) (.tmp 27) Z B6 B6 hr ?_;refine n.out _ _ trivial (λ_=>?_);clear n;refine Ca 12 29 (Ad (H ⟨L,0,Ao⟩)) trivial ?_;refine Ca 13 30 (Ad (H ⟨L,45,Ao⟩)) trivial ?_;refine CC 14 (λV n=>?_);go_simp;refine n.out _ _ trivial (λ_=>?_);clear n;refine CG ?_;go_simp
 go_wp2_with fail
 go_end0;refine⟨j,n5,c5,Z,?_,?_,⟨q.os.trans o.os,q.tape.trans o.tape,q.output.trans o.output⟩,?_,λaf hk r y=>?_,λa2 hj=>?_⟩
 .have l:=AE aj;have a0:∀g,Ax (AX j n5 c5)=H g->g≠L:=λg e x=>by have r:=DK l.1 e;grind [D]
  refine⟨⟨l.1.1,?_⟩,by have:=l.2.1;simp_all,l.2.2⟩;rcases l.1.2 with am|⟨g1,ak,al,e1,x,e3,e4⟩
  .exact AF am
  exact AG ⟨g1,ak,al,e1,x,(CY _ _ _ _ (by grind [D])).trans e3,e4⟩
 .rw[DQ w _ _ _ _ _ u,qz4 v.out]
 .have r:=q.size;have y:=o.size;simp[World.setCell];omega
 .exact(CY _ _ _ _ kei).trans ((q.block af (CK hk o.size) y).trans (o.block af hk))
 have r:=o.size;have y:=AE ag;grind
theorem q5p{g:Gt}(a:A7 V L (Da g fed cl) 135):∀(j:I) (u:Aq),#[Value.int Y g.depth,C Y g.bytes][j]?=H u->A6 V L (2+j) u:=by intro j u b;have c:j<2:=Cc b;refine(Cb a (2+j)).trans ((PZ (2+j) E).trans ?_);grind
theorem qtH{g:Gt}(R:g.rc.size=40){r:AS (J×J) (AM Unit)}(P:A7 V p #[A8 L] 44)(n:A7 V L (Da g (T fa fn fc) cl) 135)(z:∀l,A0 V l->Ar As 43 #[C Y g.inF,Ag #[C Y g.depth,C Y g.bytes],T fa fn fc] l (Mc k l r)):Ar As 106 #[A8 p] V (Mc k V r):=by
 have b:(λa:X=>A6 a p 0 (A8 L)/\A6 a L 0 (C Y g.inF)/\(∀(j:I) (u:Aq),#[Value.int Y g.depth,C Y g.bytes][j]?=H u->A6 a L (2+j) u)/\A6 a L 45 (T fa fn fc)) {V with drawn:=V.drawn+1}:=⟨Cb P 0,(Cb n 0).trans (PZ 0 B8),q5p n,(Cb n 45).trans (Lb R 1)⟩
 have v:=G z;have N:(prog.info? 94).map (·.size)=H (#[Value.int Y g.depth,C Y g.bytes]).size:=B6;go_enter func106,ntmps106
 go_wp2_with fail
 refine Ef (S:=λa=>A6 a p 0 (A8 L)/\A6 a L 0 (C Y g.inF)/\(∀(j:I) (u:Aq),#[Value.int Y g.depth,C Y g.bytes][j]?=H u->A6 a L (2+j) u)/\A6 a L 45 (T fa fn fc)) B6 ?_;have f:D (A0 V {V with drawn:=V.drawn+1}):=(Cq _ _).drew;generalize({V with drawn:=V.drawn+1}:X)=V1 at *;refine Cf 0 2 (A8 L) Z (λa c=>?y0) b ?_
 case y0=>(have i:=c.1;go_simp)
 refine Ca 1 3 (A8 L) b ?_;refine Ca 2 4 (A8 L) b ?_;refine Cf 3 5 (C Y g.inF) Z (λa c=>?y3) b ?_
 case y3=>(have i:=c.2.1;go_simp)
 refine Cf 4 6 (A8 L) Z (λa c=>?y4) b ?_
 case y4=>(have i:=c.1;go_simp)
 refine Ca 5 7 (A8 L) b ?_;refine Ca 6 8 (A9 L 2) b ?_;refine Cf 7 9 (Ag #[C Y g.depth,C Y g.bytes]) Z (λa c=>?y7) b ?_
 case y7=>exact Nz (.tmp 8) rfl rfl c.2.2.1 underlying94 rfl N
 refine Cf 8 10 (A8 L) Z (λa c=>?y8) b ?_
 case y8=>(have i:=c.1;go_simp)
 refine Ca 9 11 (A8 L) b ?_;refine Ca 10 12 (A9 L 45) b ?_;refine Cf 11 13 (T fa fn fc) Z (λa c=>?y11) b ?_
 case y11=>(have i:=c.2.2.2;go_simp)
 refine CC 12 (λaa B=>?_);go_simp;refine(v V1 f).mono ?_;rintro e o ⟨h,hF⟩;rcases r with⟨A,pl⟩|d
 .obtain rfl:=(show CV A pl e from hF)
  exact⟨Z,f.trans (h.mono f.size),Z⟩
 obtain⟨t,y,rfl,F⟩:=hF;simp only[];have Q:=FF b.1;have m:=FF b.2.1;have q:(λa:X=>A6 a p 0 (A8 L)/\A6 a L 0 (C Y g.inF)/\(∀(j:I) (u:Aq),#[Value.int Y g.depth,C Y g.bytes][j]?=H u->A6 a L (2+j) u)/\A6 a L 45 (T fa fn fc)) o:=⟨(h.cell (p:=⟨p,0,Ao⟩) Q).trans b.1,(h.cell (p:=⟨L,0,Ao⟩) m).trans b.2.1,λj u W=>(h.cell (p:=⟨L,2+j,Ao⟩) m).trans (b.2.2.1 j u W),(h.cell (p:=⟨L,45,Ao⟩) m).trans b.2.2.2⟩
 have w:=G (f.trans (h.mono f.size));have x:D (Cv k o (λj=>K (U V)<=j/\j<K (U o)) (Ai t y) d):=F.same (λj s=>⟨Cy f.size s.1,s.2⟩) (λ_ _=>rfl);refine B.out _ _ q (λ_=>?_);refine Ca 13 1 (Ai t y) q ?_;refine CG ?_;go_simp
 go_wp2_with fail
 go_ret;exact⟨w,t,y,Z,x⟩
theorem jO{g:Gt}(w:g.rc.size=40){r:AS (J×J) (AM Unit)}(m:A7 W L (Da g (T fa fn fc) cl) 135)(q:∀b,A0 W b->Ar As 43 #[C Y g.inF,Ag #[C Y g.depth,C Y g.bytes],T fa fn fc] b (Mc k b r)):Ar As 75 #[A8 L] W (RH k W r):=by
 have a:D (A0 W (Az W (M #[A8 L] 44))):=Cl;have p:=qm8 (Az W (M #[A8 L] 44)) #[A8 (K (U W))] (by have f:Below (K (U W)+1) (Az W (M #[A8 L] 44)) (Az (Az (Az W (M #[A8 L] 44)) (M #[C Y 0] 54)) (M #[C Y 0] 3)):=((Cq _ _).alloc Ba _).alloc Ba _;have s:=Cc m;refine qtH w ((f.block _ E).trans (Cj W)) ((f.block L E).trans ((a.block L s).trans m)) (λb u=>q b ?_);exact(a.trans (f.mono E)).trans (u.mono B7));have l:=p;rcases r with⟨x,z⟩|d
 .go_enter func75,ntmps75
  go_wp2_with(first
   |(go_at_call 41;refine l.mono ?_;rintro e i ⟨h,hF⟩;obtain rfl:=hF;have c:=G (a.trans (h.mono a.size))))
  go_ret3
  exact⟨c,Z⟩
 go_enter func75,ntmps75
 go_wp2_with(first
  |(go_at_call 41;refine l.mono ?_;rintro e i ⟨h,hF⟩;obtain⟨t,y,rfl,v⟩:=hF;have c:=G (a.trans (h.mono a.size));have o:D (Cv k i (λj=>K (U W)<=j/\j<K (U i)) (Ai t y) d):=v.same (λj n=>⟨Cy a.size n.1,n.2⟩) (λ_ _=>rfl)))
 go_ret3
 exact⟨c,t,y,Z,o⟩
end
end Go.Proofs.YtihfjkjbfaneeaaGreatDoor
