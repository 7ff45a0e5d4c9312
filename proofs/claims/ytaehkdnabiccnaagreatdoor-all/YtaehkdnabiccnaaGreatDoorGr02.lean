import Derived.Lib.ItoaLen
import Derived.Test.YtaehkdnabiccnaaGreatDoorGr01
set_option maxRecDepth 100000
set_option maxHeartbeats 8000000
set_option linter.all false
namespace Go.Proofs.YtaehkdnabiccnaaGreatDoor
open Go.Proofs.Tryz
open _root_ renaming Nat->I,Int->J,Nat->AH,Int->AI,List->AJ,Bool->AK,Except->AS,ByteArray->AT,UInt8->AU
open Go.Value renaming int->C,slice->G,int->Ab,slice->Ac,string->Ae,tuple->Af,agg->Ag,bool->Ah,iface->Ai,ownBlock->Ax
open Go.World renaming heap->U,cell?->AC,setRow->AD,heap->Av,alloc->Az
open _root_.Array renaming size->O,size->Au,setIfInBounds->Ay
open _root_.List renaming length->K,length->At,toArray->Aw
open Go.IntKind renaming i64->Y,i64->Al,u8->Am
open Go.RowKit renaming Hid->D
open Go renaming World->X,DataW->AM,TypeId->AN,undef->AO,World->Ap,Value->Aq,Calls->Ar
open Option renaming some->H,some->An,none->Ao
open Go.Obj renaming cells->M
open Go.Ending renaming returned->Ak
open Go.Proofs.Tryz renaming prog->As
open Go.RowKit.Hid renaming out->AE
open Or renaming inl->AF,inr->AG
open _root_.Bool renaming true->AP,false->AQ
open _root_.UInt8 renaming ofNat->AW
variable{acc bs zs:A1}{d depth fm l lim z:J}{B N b base cap fuel g i j k last m most n num p q size wi x:I}{rd th:I->AS (J×J) (AM Unit×I)}{nm:AU->I->A5 J}{c c0 ch:AU}{V V' W W' W0 w:X}{s y:Operand}{r:Ending}{e t t' ty:AN}{ia:A4}{F P:I->Prop}{f:J×J}{A args cells cs old tmps:A3}{R:A5 I}{ks:AJ A1}{ops:Array Oper}{Q:Exit->Act->X->Prop}{md:Region.Mode}{S:X->Prop}{listed:Array AK}{a:Act}{o:Oper}{rest:AJ Oper}{u v v' v2:Aq}{xs:AJ Aq}{fn:Func}{u2:Tmp}
section
open Go.RowKit Go.Lib
theorem X5{α:Type}{itF:α->I->A5 α}(c:∀a p b q,itF a p=.ok (b,q)->p<q):∀(g p:I) (a b:α) (q:I),FU bs lim itF last g p a=.ok (b,q)->p<q
 |0,p,a,b,q,h=>by rw[FU]at h;cases h
 |g+1,p,a,b,q,h=>by
  rw[FU]at h;split at h
  .cases h
  next u1 p1 h1 =>
  split at h
  .cases h
  next a2 p2 h2 =>
  split at h
  .cases h
  next u3 p3 h3 =>
  have:=Lq _ _ _ _ h1;have:=c _ _ _ _ h2;have:=Lq _ _ _ _ h3;split at h
  .cases h
  split at h
  .cases h
  split at h
  .grind
  split at h
  .have:=X5 c g _ a2 b q h;omega
  cases h
theorem dL{α:Type}{itF:α->I->A5 α}(b:∀a p a' q,itF a p=.ok (a',q)->p<q){a a':α}(h:Gp bs lim itF last p a=.ok (a',q)):p<q:=by
 unfold Gp at h;split at h
 .cases h
 next u1 p1 h1 =>
 have:=Lq _ _ _ _ h1;split at h
 .have:=X5 b _ _ _ _ _ h;omega
 split at h
 .cases h
 split at h
 .grind
 have:=X5 b _ _ _ _ _ h;omega
theorem rL{d:A2}(a:∀p d q,rd p=.ok (d,q)->p<q)(b:∀z q,(c.toNat=45\/Ey c=AP)->nm c p=.ok (z,q)->p<=q)(h:Kg bs lim depth wi rd nm c p=.ok (d,q)):p<=q:=by
 unfold Kg at h;split at h
 .split at h
  .cases h
  next u r hr =>
  injection h with h;injection h with h1 h2;have:=OZ _ _ _ _ _ _ hr;omega
 split at h
 .split at h
  .cases h
  next u r hr =>
  injection h with h;injection h with h1 h2;have:=OZ _ _ _ _ _ _ hr;omega
 split at h
 .split at h
  .cases h
  next u r hr =>
  injection h with h;injection h with h1 h2;have:=OZ _ _ _ _ _ _ hr;omega
 split at h
 .split at h
  .cases h
  next l r hr =>
  injection h with h;injection h with h1 h2;have:=Qh _ _ _ _ _ _ hr;omega
 split at h
 .split at h
  .cases h
  split at h
  .cases h
  next l r hr =>
  injection h with h;injection h with h1 h2;have:=dL (dI a) hr;omega
 split at h
 .split at h
  .cases h
  split at h
  .cases h
  next l r hr =>
  injection h with h;injection h with h1 h2;have:=dL (X2 a) hr;omega
 grind
theorem RI(s:Cw):∀(g a p:I) (d:A2) (q:I),Fw s.e s.d s.b (Ii s) g a p=.ok (d,q)->p<q
 |0,_,_,_,_,h=>by rw[Fw]at h;cases h
 |g+1,a,p,d,q,h=>by
  rw[Fw]at h;split at h
  .cases h
  split at h
  .cases h
  have:=rL (nm:=Ii s) (RI s g _) (λz q b c=>(X4 b c).2) h;omega
theorem X6:∀(g:I) (W:X) (b:I) (s:Cw),Ck W b s->K s.e<=200000000->(∀V,Ci b W V->U8 V)->7<b->s.b<=100000->(s.c:J)<=s.b->s.b<s.c+g ->
  Ar As 272 #[Ag #[A8 b]] W (NP g W b s<|Fw s.e s.d s.b (Ii s) g s.c s.a)
 |0,W,b,s,_,_,_,_,_,a,h2=>E
 |g+1,W,b,s,h,hlen,hU,h7,hdp,hwd,hgd=>by
  have n:¬s.c=s.b->Qg g b {s with c:=s.c+1} W (Fw s.e s.d s.b (Ii s) g<|s.c+1):=λm f p k j =>
   X6 g f b _ k hlen (λi l=>hU i<|j.trans l) h7 hdp B9 B9
  rcases JD h with a|a|⟨c,a⟩
  .have e:Fw s.e s.d s.b (Ii s) (g+1) s.c s.a=.error (9,s.a):=by rw[Fw,I7 (by have:s.a=K s.e:=a;omega)]
   rw[e];exact dK 9 h λV d=>KB d a
  .have e:Fw s.e s.d s.b (Ii s) (g+1) s.c s.a=.error (8,s.a):=by rw[Fw,D7 a.1];simp only[];rw[Cp a.2]
   rw[e];exact dK 8 h λV d=>KC d a
  have e:Fw s.e s.d s.b (Ii s) (g+1) s.c s.a=Kg s.e s.d s.b s.c (Fw s.e s.d s.b (Ii s) g<|s.c+1) (Ii s) c (s.a+1):=by rw[Fw,a.1];simp only[];rw[Cl a.2]
  grind [rK,RI]
def M6(sp:AH->A5 Unit)(th:AH->AS (AI×AI) (AM Unit×AH))(bs:A1)(lim:AI):AS (AI×AI) (AM Unit) :=
 match sp 0 with
 |.error e=>.error e
 |.ok (_,p0)=>match th p0 with
  |.error e=>.error e
  |.ok (d,p1)=>match sp p1 with
   |.error e=>.error e
   |.ok (_,p2)=>match Lj ⟨Ao,bs,0,0,lim,p2,0⟩with
    |.error e=>.error e
    |.ok _=>.ok d
def JK(th:AH->AS (AI×AI) (AM Unit×AH)):AS (AI×AI) AH :=
 match th 0 with
 |.error e=>.error e
 |.ok (_,p)=>.ok p
def KJ(k:AH)(W:Ap)(r:AS (AI×AI)<|AM Unit)(e:Ending)(W':Ap):Prop :=
 A0 W W'/\match r with
 |.ok d=>∃t y,e=Ak (Ai t y)/\CA k W' (λj=>Au (Av W)<=j/\j<Au (Av W')) (Ai t y) d
 |.error (en,pl)=>D4 en pl e
def rM(c:A6 W b 3<|C Y p):Ar As 268 #[A8 b] W λe a=>e=Ak (C Y p)/\a=W:=by go_enter func268,ntmps268;go_wp2;go_ret;exact⟨Z,Z⟩
theorem RD.ac{s:Cw}{r:AS (J×J)<|AM Unit×I}{e:Ending}(h:RD k W b s r e W'):NP k W b s r e W':=by refine⟨h.1,?_⟩;have a:=h.2;grind
def rT(js:AK):AN:=bif js then 215 else 218
def rV(js:AK)(f b:AH):Aq:=bif js then Ag #[A8 b]else Ag #[A8 b,.func (.func f) #[] #[]]
def rW(js:AK)(b:AH):Aq:=bif js then Ag #[A8 b]else A8 b
def rS(js:AK):FuncId:=bif js then 273 else 267
def rR(js:AK):FuncId:=bif js then 272 else 301
theorem X7(n:AK)(k:I)(fm:J)(f:I)(h:E2 W ia bs){sp:I->A5 Unit}(cR:∀V,E2 V ia bs->Ar As 80 #[C Y fm,Ag #[C Y d,C Y l],G ia (K bs) cap] V λe W'=>∃b,e=Ak (Ai (rT n)<|rV n f b)/\Ck W' b ⟨ia,bs,cap,d,l,0,0⟩/\O (U V)<=b/\A0 V W')(cS:∀(b:I) (V:X) (p:I),O (U W)<=b->Ck V b ⟨ia,bs,cap,d,l,p,0⟩->Ar As (rS n) #[rW n b] V (Hp V b ⟨ia,bs,cap,d,l,p,0⟩ (λ_:Unit=>Af #[])<|sp p))(cT:∀(b:I) (V:X) (p:I),O (U W)<=b->A0 W V->Ck V b ⟨ia,bs,cap,d,l,p,0⟩->Ar As (rR n) #[rV n f b] V (NP k V b ⟨ia,bs,cap,d,l,p,0⟩<|th p)):Ar As 43 #[C Y fm,Ag #[C Y d,C Y l],G ia (K bs) cap] W<|KJ k W<|M6 sp th bs l:=by
 have ag:Below _ W<|Az W<|M #[C Y d,C Y l] 94:=Cm;have ab:=T ag;have cN:=cR _<|h.ac ag;obtain⟨ay,HR⟩:=CC<|M6 sp th bs l;rw[AE HR];have a:=AE HR;unfold M6 at a;cases n
 case' false=>let z:AK:=AQ
 case' true=>let z:AK:=AP
 all_goals
  dsimp only[rT,rV,rS,rW,rR,cond]at *;go_enter func43,ntmps43
  go_wp2_with(first
   |(go_at_call 80;apply cN.mono;rintro e w2 ⟨b,rfl,hS,a0,R⟩))
  have ac:=T<|Cs ab<|CG R ab.size;have c:O (U W)<=b:=Bx;have A:=cS b w2 0 c hS;have ak:=λV p hV=>cS b V p c hV;have al:=λV p R hV=>cT b V p c R hV;apply Q5 (y:=(rS z,rW z b)) (w:=w2) B6;dsimp only[z,rS,rW,cond]
  go_wp2_with fail
  rcases h1:sp 0 with m|v
  .obtain⟨i,o⟩:=m;rw[h1]at a A;simp only[]at a;subst a;apply A.mono;rintro e P ⟨t,hF⟩;obtain rfl:=(show D4 i o e from hF)
   go_wp2;exact⟨Z,LV ac t c,Z⟩
  obtain⟨u0,p0⟩:=v;rw[h1]at a A;simp only[]at a;apply A.mono;rintro e P ⟨t,an⟩;obtain⟨rfl,af⟩:=(show e=Ak (.tuple _)/\Ck P b ⟨ia,bs,cap,d,l,p0,0⟩from an)
  have S:=T<|LV ac t c;have F:=al P p0 S af;have aw:=T<|Cd af.ad
  go_wp2_with fail
  apply Q5 (y:=(rR z,rV z f b)) (w:=P) B6;dsimp only[z,rR,rV,cond]
  go_wp2_with fail
  rcases h2:th p0 with m|dq
  .obtain⟨i,o⟩:=m;rw[h2]at a F;simp only[]at a;subst a;apply F.mono;rintro e q ⟨aa,hF⟩;obtain rfl:=(show D4 i o e from hF)
   go_wp2;exact⟨Z,LV S aa c,Z⟩
  obtain⟨L,p1⟩:=dq;rw[h2]at a F;simp only[]at a;apply F.mono;rintro e q ⟨aa,ao⟩;obtain⟨⟨ax,y,rfl,am⟩,ar⟩:=(show(∃ax y,e=Ak _/\CA k q _ _ L)/\Ck q b ⟨ia,bs,cap,d,l,p1,0⟩from ao)
  have ad:=T<|LV S aa c;have av:=AE aw;have HD:D<|CA k q (λj=>b<j/\j<O (U q)) _ L:=am.same (λj g=>⟨CQ av g.1,g.2⟩) λ_ _=>rfl;have B:=ak q p1 ar
  go_wp2_with fail
  apply Q5 (y:=(rS z,rW z b)) (w:=q) B6;dsimp only[z,rS,rW,cond]
  go_wp2_with fail
  rcases h3:sp p1 with m|v
  .obtain⟨i,o⟩:=m;rw[h3]at a B;simp only[]at a;subst a;apply B.mono;rintro e r ⟨s,hF⟩;obtain rfl:=(show D4 i o e from hF)
   go_wp2;exact⟨Z,LV ad s c,Z⟩
  obtain⟨u2,N⟩:=v;rw[h3]at a B;simp only[]at a;apply B.mono;rintro e r ⟨s,ap⟩;obtain⟨rfl,au⟩:=(show e=Ak (.tuple _)/\Ck r b ⟨ia,bs,cap,d,l,N,0⟩from ap)
  have ae:=T<|LV ad s c;have ai:D<|CA k r (λj=>b<j/\j<O (U r)) _ L:=HD.same (λj g=>⟨g.1,CQ g.2 s.size⟩) λj g=>s.block j g.2 E;have x:Ar _ _ _ r<|Hp r b ⟨ia,bs,cap,d,l,N,0⟩ _<|Lj ⟨Ao,bs,0,0,l,N,0⟩:=pI au
  go_wp2_with fail
  apply Q5 (y:=(266,A8 b)) (w:=r) B6
  go_wp2_with fail
  rcases h4:Lj ⟨Ao,bs,0,0,l,N,0⟩with m|v
  .obtain⟨i,o⟩:=m;rw[h4]at a x;simp only[]at a;subst a;apply x.mono;rintro e Q ⟨u,hF⟩;obtain rfl:=(show D4 i o e from hF)
   go_wp2;exact⟨Z,LV ae u c,Z⟩
  obtain⟨u4,p4⟩:=v;rw[h4]at a x;simp only[]at a;subst a;apply x.mono;rintro e Q ⟨u,aq⟩;obtain⟨rfl,az⟩:=(show e=Ak (.tuple _)/\Ck Q b ⟨ia,bs,cap,d,l,p4,0⟩from aq)
  have aj:D<|CA k Q (λj=>O (U W)<=j/\j<O (U Q)) _ L:=ai.same (λj g=>⟨E,CQ g.2 u.size⟩) λj g=>u.block j g.2 E;have ah:=T<|LV ae u c;go_wp2;go_ret;exact⟨ah,_,_,Z,aj⟩
theorem X8(g:AK)(k:I)(fm:J)(f:I)(h:E2 W ia bs)(A:∀V,E2 V ia bs->Ar As 80 #[C Y fm,Ag #[C Y d,C Y l],G ia (K bs) cap] V λe m=>∃b,e=Ak (Ai (rT g)<|rV g f b)/\Ck m b ⟨ia,bs,cap,d,l,0,0⟩/\O (U V)<=b/\A0 V m)(B:∀(b:I) (V:X) (p:I),O (U W)<=b->A0 W V->Ck V b ⟨ia,bs,cap,d,l,p,0⟩->Ar As (rR g) #[rV g f b] V (NP k V b ⟨ia,bs,cap,d,l,p,0⟩<|th p)):Ar As 51 #[C Y fm,Ag #[C Y d,C Y l],G ia (K bs) cap] W λe m=>Rp W (λn:I=>C Y n) (JK th) e m/\∀n,JK th=.ok n->n<=K bs:=by
 have u:Below _ W<|Az W<|M #[C Y d,C Y l] 94:=Cm;have q:=T u;have x:=A _<|h.ac u;obtain⟨ad,r⟩:=CC<|JK th;rw[AE r];have a:=AE r;unfold JK at a;clear u h A r;cases g
 case' false=>let z:AK:=AQ
 case' true=>let z:AK:=AP
 all_goals
  dsimp only[rT,rV,rS,rW,rR,cond]at *;go_enter func51,ntmps51
  go_wp2_with(first
   |(go_at_call 80;apply x.mono;clear x;rintro e S ⟨b,rfl,N,aa,F⟩))
  have j:=T<|Cs q<|CG F q.size;have v:O (U W)<=b:=Bx;have c:=B b S 0 v j N;clear B F aa N q;apply Q5 (y:=(rR z,rV z f b)) (w:=S) B6;dsimp only[z,rR,rV,cond]
  go_wp2_with fail
  rcases h2:th 0 with er|dq
  .obtain⟨en,pl⟩:=er;rw[h2]at a c;simp only[]at a;subst a;apply c.mono;rintro e i ⟨o,hF⟩;obtain rfl:=(show D4 en pl e from hF)
   go_wp2;exact⟨rfl,⟨LV j o v,rfl⟩,λn P=>by cases P⟩
  obtain⟨dd,Q⟩:=dq;rw[h2]at a c;simp only[]at a;subst a;apply c.mono;clear c h2;rintro e i ⟨o,L⟩;obtain⟨⟨ab,y,rfl,t⟩,s⟩:=(show(∃ab y,e=Ak _/\CA k i _ _ dd)/\Ck i b ⟨ia,bs,cap,d,l,Q,0⟩from L)
  have R:=T<|LV j o v;have ac:=T s.a;have k3:AC i _=H (.int _ Q):=Cc s.ad 3;clear o L s t j
  go_wp2_with fail
  apply Q5 (y:=(268,A8 b)) (w:=i) B6
  go_wp2_with fail
  apply (rM k3).mono;rintro e w5 ⟨rfl,rfl⟩;go_wp2;go_ret;exact⟨⟨R,Z⟩,λn P=>by grind [D]⟩
structure Jl(W:Ap):Prop where
 u8:U8 W
 c:IK W
 d:9<=Au (Av W)
def U8.ai(h:U8 W)(e:Ci b W V)(j:7<b)(hb:9<=O (U W)):U8 V:=by have a:∀(q off:I) (v:Aq),q<=7->AC W _=H v->A6 V q off v:=λq off v k g=>Ca (Je<|e.block q E E) g;exact⟨λc f=>a _ _ _ B8<|h.1 c f,λi d=>⟨a _ _ _ B8 (h.2 i d).1,a _ _ _ B8 (h.2 i d).2⟩⟩
def Jl.ac(h:Jl W)(hb:A0 W V):Jl V:=⟨h.u8.ac hb,h.c.ac hb,CE h.d hb.size⟩
def rN:(List.range 256).all (λc=>_root_.Decidable.decide<|(E7 c).1<=10/\(E7 c).2.1<=8/\((E7 c).2.1=0\/(E7 c).2.2=0)/\(E7 c).2.2<18446744073709551616)=AP:=B6
def X9:∀c,c<256->(E7 c).1<=10/\(E7 c).2.1<=8/\((E7 c).2.1=0\/(E7 c).2.2=0)/\(E7 c).2.2<18446744073709551616:=λc a=>Dr<|Hi.1 rN c<|Hj.2 a
def rO:(List.range 256).all (λc=>_root_.Decidable.decide<|(DD c).1<=10/\(DD c).2.1<=8/\((DD c).2.1=0\/(DD c).2.2=0)/\(DD c).2.2<18446744073709551616)=AP:=B6
def Xa:∀c,c<256->(DD c).1<=10/\(DD c).2.1<=8/\((DD c).2.1=0\/(DD c).2.2=0)/\(DD c).2.2<18446744073709551616:=λc a=>Dr<|Hi.1 rO c<|Hj.2 a
def dN(h:IK W)(hb:1<b):NO 111 E7 b W :=
 ⟨AF rfl,λc a=>(X9 c a).1,λc a=>(X9 c a).2,λc V d=>pS (W:=V) c.toNat_lt<|h.ai d hb⟩
def dO(h:IK W)(hb:1<b):NO 112 DD b W :=
 ⟨AG rfl,λc a=>(Xa c a).1,λc a=>(Xa c a).2,λc V d=>pV (W:=V) c.toNat_lt<|h.ai d hb⟩
def JM(fm:AI)(bs:A1)(lim:AI)(p:AH):A5 Unit:=if fm=1 then DW bs lim (At bs+1-p) p else .ok ((),p)
def Ev(fm:AI)(bs:A1)(d lim:AI)(p:AH):AS (AI×AI) (AM Unit×AH) :=
 if fm=1 then Fw bs lim d (λc p=>GW ⟨Ao,bs,0,0,lim,p,0⟩ c) (d.toNat+1) 0 p else if fm=2 then DR E7 bs lim d (d.toNat+1) 0 p else DR DD bs lim d (d.toNat+1) 0 p
def DE(fm:AI)(bs:A1)(d lim:AI):AS (AI×AI)<|AM Unit:=M6 (JM fm bs lim) (Ev fm bs d lim) bs lim
theorem dP(u:fm=1\/fm=2\/fm=3)(h:E2 W ia bs)(g:Jl W)(o:0<=d)(q:d<=100000)(s:K bs<=200000000):Ar As 43 #[C Y fm,Ag #[C Y d,C Y l],G ia (K bs) cap] W<|KJ (d.toNat+1) W<|DE fm bs d l:=by
 have v:=g.d;rcases u with rfl|rfl|rfl
 .have i:JM 1 bs l=λp=>DW bs l (K bs+1-p) p:=by grind [JM]
  have j:Ev 1 bs d l=λp=>Fw bs l d (λc p=>GW ⟨Ao,bs,0,0,l,p,0⟩ c) (d.toNat+1) 0 p:=keP;unfold DE;rw[i,j];refine X7 AP _ 1 0 h (λV m=>Q4 cap m 1<|AF ⟨Z,Z⟩) (λb V p n a=>Ro a) λb V p n f a=>?_;exact X6 _ V b _ a s (λt k=>(g.ac f).u8.ai k E (g.ac f).d) E q kep B9
 .have i:JM 2 bs l=λp=>.ok ((),p):=by grind [JM]
  have j:Ev 2 bs d l=λp=>DR E7 bs l d (d.toNat+1) 0 p:=keP;unfold DE;rw[i,j];refine X7 AQ _ 2 111 h (λV m=>Q4 cap m 2<|AG ⟨_,AF ⟨Z,Z⟩,Z⟩) (λb V p n a=>Ce (dM V b) ?_) λb V p n f a=>?_
  .rintro e w ⟨rfl,rfl⟩;exact⟨Ci.refl _ _,Z,a⟩
  exact Ce (RF E7 _ _ V b _ a s (λt k=>(g.ac f).u8.ai k E (g.ac f).d) E (dN (g.ac f).c E) q kep B9) λe w r=>r.ac
 have i:JM 3 bs l=λp=>.ok ((),p):=by grind [JM]
 have j:Ev 3 bs d l=λp=>DR DD bs l d (d.toNat+1) 0 p:=keP;unfold DE;rw[i,j];refine X7 AQ _ 3 112 h (λV m=>Q4 cap m 3<|AG ⟨_,AG ⟨Z,Z⟩,Z⟩) (λb V p n a=>Ce (dM V b) ?_) λb V p n f a=>?_
 .rintro e w ⟨rfl,rfl⟩;exact⟨Ci.refl _ _,Z,a⟩
 exact Ce (RF DD _ _ V b _ a s (λt k=>(g.ac f).u8.ai k E (g.ac f).d) E (dO (g.ac f).c E) q kep B9) λe w r=>r.ac
theorem rP(W:X)(fm:J)(u:A4)(bs:A1)(cap:I)(d l:J)(x:fm=1\/fm=2\/fm=3)(h:E2 W u bs)(f:Jl W)(m:0<=d)(o:d<=100000)(r:K bs<=200000000):Ar As 51 #[C Y fm,Ag #[C Y d,C Y l],G u (K bs) cap] W λe v=>Rp W (λn:I=>C Y n) (JK<|Ev fm bs d l) e v/\∀n,JK (Ev fm bs d l)=.ok n->n<=K bs:=by
 have y:=f.d;rcases x with rfl|rfl|rfl
 .have g:Ev 1 bs d l=λp=>Fw bs l d (λc p=>GW ⟨Ao,bs,0,0,l,p,0⟩ c) (d.toNat+1) 0 p:=keP;rw[g];refine X8 AP (d.toNat+1) 1 0 h (λV k=>Q4 cap k 1<|AF ⟨Z,Z⟩) λb V p t a i=>?_;exact X6 _ V b _ i r (λs j=>(f.ac a).u8.ai j E (f.ac a).d) E o keA B9
 .have g:Ev 2 bs d l=λp=>DR E7 bs l d (d.toNat+1) 0 p:=keP;rw[g];refine X8 AQ (d.toNat+1) 2 111 h (λV k=>Q4 cap k 2<|AG ⟨_,AF ⟨Z,Z⟩,Z⟩) λb V p t a i=>?_;exact Ce (RF E7 _ _ V b _ i r (λs j=>(f.ac a).u8.ai j E (f.ac a).d) E (dN (f.ac a).c E) o keA B9) λe w q=>q.ac
 have g:Ev 3 bs d l=λp=>DR DD bs l d (d.toNat+1) 0 p:=keP;rw[g];refine X8 AQ (d.toNat+1) 3 112 h (λV k=>Q4 cap k 3<|AG ⟨_,AG ⟨Z,Z⟩,Z⟩) λb V p t a i=>?_;exact Ce (RF DD _ _ V b _ i r (λs j=>(f.ac a).u8.ai j E (f.ac a).d) E (dO (f.ac a).c E) o keA B9) λe w q=>q.ac
def Xb{P:Program}{f:FuncId}{R:Ending->X->Prop}{p:Prop}(h:Ar P f args w R)(c:∀e a,R e a->p):p:=by obtain⟨e,a,fr,b,_⟩:=h [];exact c e a b
def DI{α:Type}(r:AS (AI×AI) α):Prop:=∀en pl,r=.error (en,pl)->en≠0
theorem Qi:∀(k p a:I),DI (CZ bs lim k p a)
 |0,p,a,en,pl,h=>by rw[CZ]at h;cases h
 |k+1,p,a,en,pl,h=>by
  rw[CZ]at h
  repeat' split at h
  all_goals first|(injection h with h;grind)|exact Qi k _ _ en pl h
theorem Xd{so w:J}{p:J}:DI<|FE so w x p:=λa b h=>by grind [FE]
theorem dQ:∀(k p:I) (a:A1),DI (EV bs lim k p a)
 |0,p,a,en,pl,h=>by rw[EV]at h;cases h
 |k+1,p,a,en,pl,h=>by
  rw[EV]at h
  repeat' split at h
  all_goals first|(injection h with h;grind)|exact dQ k _ _ en pl h
theorem TI:∀(k p:I) (a:A1) (b:I),DI (Ds bs lim k p a b)
 |0,p,a,b,en,pl,h=>kfF
 |k+1,p,a,b,en,pl,h=>by
  rw[Ds]at h;split at h
  .grind
  split at h
  .grind
  split at h
  .grind
  exact TI k _ _ _ en pl h
theorem rQ(c:I->I×I×I):DI<|El c bs lim ks p:=λa b h=>by
 unfold El at h;split at h
 .grind
 split at h
 .grind
 split at h
 .split at h
  .next e he=>injection h with h;subst h;exact Qi _ _ _ a b he
  split at h
  .next e he=>injection h with h;subst h;exact TI _ _ _ _ a b he
  grind
 grind
theorem dR(a:∀p,DI<|rd p):∀(n p:I) (acc:AJ<|AM Unit),DI (GY rd n p acc)
 |0,p,acc,en,pl,h=>by grind [GY]
 |n+1,p,acc,en,pl,h=>by
  rw[GY]at h;split at h
  .next e he=>injection h with h;subst h;exact a _ en pl he
  exact dR a n _ _ en pl h
theorem dS{kf:AJ A1->I->A5 A1}(b:∀a p,DI<|kf a p)(c:∀p,DI<|rd p):∀(n p:I) (a:AJ A1) (acc:AJ<|Lit×AM Unit),DI (GK kf rd n p a acc)
 |0,p,a,acc,en,pl,h=>by grind [GK]
 |n+1,p,a,acc,en,pl,h=>by
  rw[GK]at h;split at h
  .next e he=>injection h with h;subst h;exact b _ _ en pl he
  split at h
  .next e he=>injection h with h;subst h;exact c _ en pl he
  exact dS b c n _ _ _ en pl h
def rU{li:I->I->AS (J×J) (AJ (AM Unit)×I)}{ma:I->I->AS (J×J) (AJ (Lit×AM Unit)×I)}{so w:I}(c:so=9->∀x q,DI<|li x q)(d:so=10->∀x q,DI<|ma x q):DI<|Gn bs lim li ma so w x q:=λa b h=>by
 unfold Gn at h;split at h
 .cases h
 .cases h
 .split at h
  .next e he=>injection h with h;subst h;exact Xd a b he
  cases h
 .split at h
  .next e he=>injection h with h;subst h;exact Xd a b he
  cases h
 .split at h
  .next e he=>injection h with h;subst h;exact Xd a b he
  cases h
 .split at h
  .next e he=>injection h with h;subst h;exact dQ _ _ _ a b he
  cases h
 .split at h
  .next e he=>injection h with h;subst h;exact TI _ _ _ _ a b he
  cases h
 .split at h
  .next e he=>injection h with h;subst h;exact c Z _ _ a b he
  cases h
 .split at h
  .next e he=>injection h with h;subst h;exact d Z _ _ a b he
  cases h
 cases h
theorem TJ(b:I->I×I×I):∀(g a p:I),(a:J)<=depth->depth<a+g->DI (DR b bs lim depth g a p)
 |0,a,p,h1,h2,_,_,_=>E
 |g+1,a,p,h1,h2,en,pl,h=>by
  rcases hc:bs[p]? with _|c
  .grind [DR]
  by_cases k:(p:J)=lim
  .grind [DR]
  rw[TD hc k rfl]at h;split at h
  .grind
  split at h
  .grind
  next hn =>
  split at h
  .next e he=>injection h with h;subst h;exact Qi _ _ _ en pl he
  have f:¬a=depth->∀q,DI<|DR b bs lim depth g _ q:=λl q=>TJ b g (a+1) q E E;exact rU (λj x q=>dR (f λd=>hn ⟨AF j,d⟩) _ _ _) (λi x q=>dS (λm p=>rQ b) (f λd=>hn ⟨AG i,d⟩) _ _ _ _) en pl h
theorem P4:∀(k p:I),DI (DW bs lim k p)
 |0,p,en,pl,h=>by rw[DW]at h;cases h
 |k+1,p,en,pl,h=>by
  rw[DW]at h;split at h
  .cases h
  split at h
  .grind
  split at h
  .exact P4 k _ en pl h
  cases h
theorem MK:∀(l:A1) (p:I),DI (Dt bs lim l p)
 |[],p,en,pl,h=>kfG
 |x::xs,p,en,pl,h=>by
  rw[Dt]at h;split at h
  .grind
  split at h
  .grind
  split at h
  .exact MK xs _ en pl h
  grind
theorem RJ(bs:A1)(lim:J):∀(k p a:I),DI (Ef bs lim k p a)
 |0,p,a,en,pl,h=>by rw[Ef]at h;cases h
 |k+1,p,a,en,pl,h=>by
  rw[Ef]at h;split at h
  .grind
  split at h
  .grind
  split at h
  .grind
  exact RJ bs lim k _ _ en pl h
theorem rX:DI<|IL bs lim p:=λa b h=>by
 unfold IL at h;split at h
 .next e he=>injection h with h;subst h;exact RJ _ _ _ _ _ a b he
 split at h
 .grind
 split at h
 .split at h
  .next e he=>injection h with h;subst h;exact MK _ _ a b he
  split at h
  .next e he=>injection h with h;subst h;exact RJ _ _ _ _ _ a b he
  grind
 cases h
theorem Xe(bs:A1)(lim:J)(p:I):DI<|Ia bs lim p:=λa b h=>by
 unfold Ia at h;split at h
 .grind
 split at h
 .grind
 repeat' split at h
 all_goals first|(injection h with h;grind)|exact rX a b h|cases h
theorem RK:∀(g p:I) (a:A1) (b:I),DI (DA bs lim g p a b)
 |0,p,a,b,en,pl,h=>by grind [DA]
 |g+1,p,a,b,en,pl,h=>by
  rw[DA]at h;split at h
  .grind
  split at h
  .grind
  split at h
  .cases h
  split at h
  .split at h
   .next e he=>injection h with h;subst h;exact Xe _ _ _ en pl he
   exact RK g _ _ _ en pl h
  split at h
  .grind
  split at h
  .grind
  exact RK g _ _ _ en pl h
theorem Xf{z:AK}:∀(g p a:I),DI (Ee bs lim most z g p a)
 |0,p,a,en,pl,h=>by grind [Ee]
 |g+1,p,a,en,pl,h=>by
  unfold Ee at h;split at h
  .cases h
  split at h
  .grind
  split at h
  .split at h
   .grind
   split at h
   .grind
   exact Xf g _ _ en pl h
  grind
theorem dU{s:Cw}:DI<|GW s c:=λa b h=>by
 unfold GW at h;split at h
 .split at h
  .grind
  split at h
  .grind
  split at h
  .split at h
   .cases h
   next e he=>injection h with h;subst h;exact Xf _ _ _ a b he
  grind
 split at h
 .cases h
 next e he=>injection h with h;subst h;exact Xf _ _ _ a b he
theorem Xg{α:Type}{itF:α->I->A5 α}(b:∀a p,DI<|itF a p):∀(g p:I) (a:α),DI (FU bs lim itF last g p a)
 |0,p,a,en,pl,h=>by grind [FU]
 |g+1,p,a,en,pl,h=>by
  rw[FU]at h;split at h
  .next e he=>injection h with h;subst h;exact P4 _ _ en pl he
  split at h
  .next e he=>injection h with h;subst h;exact b _ _ en pl he
  split at h
  .next e he=>injection h with h;subst h;exact P4 _ _ en pl he
  split at h
  .grind
  split at h
  .grind
  split at h
  .cases h
  split at h
  .exact Xg b g _ _ en pl h
  grind
theorem dV{α:Type}{itF:α->I->A5 α}(d:∀a p,DI<|itF a p){a:α}:DI<|Gp bs lim itF last p a:=λb c h=>by
 unfold Gp at h;split at h
 .next e he=>injection h with h;subst h;exact P4 _ _ b c he
 split at h
 .exact Xg d _ _ _ b c h
 split at h
 .grind
 split at h
 .cases h
 exact Xg d _ _ _ b c h
def rY(c:∀p,DI<|rd p)(a:AJ<|AM Unit)(p:I):DI<|G7 rd a p:=λb d h=>by
 unfold G7 at h;split at h
 .next e he=>injection h with h;subst h;exact c _ b d he
 cases h
theorem rZ:DI<|Jk bs lim ks p:=λa b h=>by
 unfold Jk at h;split at h
 .next e he=>injection h with h;subst h;exact MK _ _ a b he
 split at h
 .next e he=>injection h with h;subst h;exact RK _ _ _ _ a b he
 grind
def dW(d:∀p,DI<|rd p)(a:AJ A1×AJ (Lit×AM Unit))(p:I):DI<|FF bs lim rd a p:=λb c h=>by
 unfold FF at h;split at h
 .next e he=>injection h with h;subst h;exact rZ b c he
 split at h
 .next e he=>injection h with h;subst h;exact P4 _ _ b c he
 split at h
 .next e he=>injection h with h;subst h;exact MK _ _ b c he
 split at h
 .next e he=>injection h with h;subst h;exact P4 _ _ b c he
 split at h
 .next e he=>injection h with h;subst h;exact d _ b c he
 cases h
theorem s7(d:¬(wi:J)=depth->∀p,DI<|rd p)(f:∀c p,DI<|nm c p):DI<|Kg bs lim depth wi rd nm c p:=λa b h=>by
 unfold Kg at h;split at h
 .split at h
  .next e he=>injection h with h;subst h;exact MK _ _ a b he
  cases h
 split at h
 .split at h
  .next e he=>injection h with h;subst h;exact MK _ _ a b he
  cases h
 split at h
 .split at h
  .next e he=>injection h with h;subst h;exact MK _ _ a b he
  cases h
 split at h
 .split at h
  .next e he=>injection h with h;subst h;exact RK _ _ _ _ a b he
  cases h
 split at h
 .split at h
  .grind
  next hn =>
  split at h
  .next e he=>injection h with h;subst h;exact dV (rY<|d hn) a b he
  cases h
 split at h
 .split at h
  .grind
  next hn =>
  split at h
  .next e he=>injection h with h;subst h;exact dV (dW<|d hn) a b he
  cases h
 split at h
 .split at h
  .next e he=>injection h with h;subst h;exact f _ _ a b he
  cases h
 grind
theorem Xh(b:∀c p,DI<|nm c p):∀(g a p:I),(a:J)<=depth->depth<a+g->DI (Fw bs lim depth nm g a p)
 |0,a,p,h1,h2,_,_,_=>E
 |g+1,a,p,h1,h2,en,pl,h=>by
  rw[Fw]at h;split at h
  .grind
  split at h
  .grind
  exact s7 (λd q=>Xh b g _ q E E) b en pl h
def dX(b:0<=d):DI<|Ev fm bs d l p:=λa e h=>by
 unfold Ev at h;split at h
 .exact Xh (λc p=>dU) _ _ _ BG E a e h
 split at h
 .exact TJ _ _ _ _ BG E a e h
 exact TJ _ _ _ _ BG E a e h
def dY(fm:J)(bs:A1)(d l:J)(b:0<=d):DI<|JK<|Ev fm bs d l:=λa c h=>by
 unfold JK at h;split at h
 .next e he=>injection h with h;subst h;exact dX b a c he
 cases h
theorem P5(fm:J)(bs:A1)(d l:J)(f:0<=d):DI<|DE fm bs d l:=λa b h=>by
 have c:∀p,DI<|JM fm bs l p:=λp a b h=>by
  unfold JM at h;split at h
  .exact P4 _ _ a b h
  cases h
 unfold DE M6 at h;split at h
 .next e he=>injection h with h;subst h;exact c _ a b he
 split at h
 .next e he=>injection h with h;subst h;exact dX f a b he
 split at h
 .next e he=>injection h with h;subst h;exact c _ a b he
 grind [Lj]
def s8{P:Program}{K':Act->X->Prop}(c:Shut (∀a w,S w->(S w->wpAnyH P md ops Q S fuel listed a w)->K' a w))(k:Region.wanted o (yielded ops a.tmps)=AP){x:Operand}(i:o.op=.store ty x y)(e:o.dst=Ao)(hx:a.eval x=A8 g)(hy:a.eval y=.agg cells)(f:w.heap[g]?=H (M old t (0,0)))(hi:(P.info? ty).map (·.size)=H cells.size)(j:old.size=cells.size)(b:cells.all (·.oneCell')=AP)(d:S<|AD w g cells)(h:wpAnyH P md ops Q S fuel listed a<|AD w g cells):if Region.wanted o (yielded ops a.tmps)=AP then Oper.wp P o a w K' Q else K' (a.put o.dst AO) w:=by rw[Cp k];apply Jf ty x y i g cells hx hy t old f hi j b;rw[e];exact c _ _ d λ_=>h
theorem RL{P:Program}(l:Region.ready md ops listed=[i])(hi:ops[i]?=H o)(m:Region.wanted o (yielded ops a.tmps)=AP){x:Operand}(j:o.op=.store ty x y)(e:o.dst=Ao)(hx:a.eval x=A8 g)(hy:a.eval y=.agg cells)(f:w.heap[g]?=H (M old t (0,0)))(n:(P.info? ty).map (·.size)=H cells.size)(k:old.size=cells.size)(b:cells.all (·.oneCell')=AP)(d:S<|AD w g cells)(h:wpAnyH P md ops Q S fuel (Ay listed i AP) a<|AD w g cells):wpAnyH P md ops Q S (fuel+1) listed a w :=
 T0 l Ba<|OG hi (λ_ c=>s8 c m j e hx hy f n k b d h) SV
theorem sF(i x y:I){F:J×J}(d:(Region.ready md ops listed,ops[i]?.map λo=>(Region.wanted o<|yielded ops a.tmps,o.op,o.dst),a.eval<|.tmp x,a.eval<|.tmp y)=([i],H (AP,.store 103 (.tmp x)<|.tmp y,Ao),A8 g,.agg<|Cf F))(c:A7 w g (Cf (0,0)) 103)(b:S<|AD w g<|Cf F)(h:wpAnyH As md ops Q S fuel (Ay listed i AP) a<|AD w g<|Cf F):wpAnyH As md ops Q S (fuel+1) listed a w:=by grind [RL,KG,Qd]
def Ij(i x y:I){T:A3}(p:(Region.ready md ops listed,ops[i]?.map λo=>(Region.wanted o<|yielded ops a.tmps,o.op,o.dst),a.eval<|.tmp x,a.eval<|.tmp y)=([i],H (AP,.store 101 (.tmp x)<|.tmp y,Ao),A8 g,.agg T))(n:A7 w g Cv 101)(f:TC T)(m:S<|AD w g T)(h:wpAnyH As md ops Q S fuel (Ay listed i AP) a<|AD w g T):wpAnyH As md ops Q S (fuel+1) listed a w:=by obtain⟨j,b⟩:=Lc p;obtain⟨b,c⟩:=Lc b;obtain⟨c,k⟩:=Lc c;obtain⟨o,q,d⟩:=Ox.1 b;obtain⟨d,e⟩:=Lc d;obtain⟨e,l⟩:=Lc e;exact RL j q d e l c k n (by rw[f.1];exact KI) (by rw[f.1];rfl) f.2 m h
def zF(x y:I)(c:o.guard=Ao)(d:o.op=.store 103 (.tmp x) (.tmp y))(g:I)(F:J×J)(b:a.eval (.tmp x)=A8 g/\a.eval (.tmp y)=.agg (Cf F)/\A7 w g (Cf (0,0)) 103)(h:wpList As ops Q rest (a.put o.dst AO)<|AD w g<|Cf F):wpList As ops Q (o::rest) a w:=Fb x y c d g F b.1 b.2.1 b.2.2 h
def zT(x y:I)(c:o.guard=Ao)(d:o.op=.store 101 (.tmp x) (.tmp y))(g:I)(T:A3)(b:a.eval (.tmp x)=A8 g/\a.eval (.tmp y)=.agg T/\A7 w g Cv 101/\TC T)(h:wpList As ops Q rest (a.put o.dst AO)<|AD w g T):wpList As ops Q (o::rest) a w:=RC x c d g T b.1 b.2.1 b.2.2.1 b.2.2.2 h
def Jj.ck{P:Program}{f:FuncId}{Q:Ending->X->Prop}(h:Jj W (Ct bs fm d l) V)(c:Ar P f args V λe a=>e=r/\A0 V a)(k:∀w,D (Jj W (Ct bs fm d l) w)->AC w ⟨O<|U W,0,Ao⟩=(#[Ae ⟨Aw bs⟩,C Y fm,C Y d,C Y l]:A3)[0]?->AC w ⟨O<|U W,1,Ao⟩=(#[Ae ⟨Aw bs⟩,C Y fm,C Y d,C Y l]:A3)[1]?->AC w ⟨O<|U W,2,Ao⟩=(#[Ae ⟨Aw bs⟩,C Y fm,C Y d,C Y l]:A3)[2]?->AC w ⟨O<|U W,3,Ao⟩=(#[Ae ⟨Aw bs⟩,C Y fm,C Y d,C Y l]:A3)[3]?->Q r w):Ar P f args V Q:=Ec c h.next (λ_ h=>h.h) k
def IP.ck{P:Program}{f:FuncId}{Q:Ending->X->Prop}(h:IP W (Ct bs fm d l) N V)(c:Ar P f args V λe a=>e=r/\A0 V a)(k:∀w,D (IP W (Ct bs fm d l) N w)->AC w ⟨O<|U W,0,Ao⟩=(#[Ae ⟨Aw bs⟩,C Y fm,C Y d,C Y l]:A3)[0]?->AC w ⟨O<|U W,1,Ao⟩=(#[Ae ⟨Aw bs⟩,C Y fm,C Y d,C Y l]:A3)[1]?->AC w ⟨O<|U W,2,Ao⟩=(#[Ae ⟨Aw bs⟩,C Y fm,C Y d,C Y l]:A3)[2]?->AC w ⟨O<|U W,3,Ao⟩=(#[Ae ⟨Aw bs⟩,C Y fm,C Y d,C Y l]:A3)[3]?->Q r w):Ar P f args V Q:=Ec c h.next (λ_ h=>h.h) k
def Hu(xs:AJ Aq)(i:AH)(a:A3):Prop:=(xs.drop<|5*i).take 5=a.toList
def NQ(e:Lit×AM Unit):Aq:=match e.1 with
 |.string l=>CX l
 |_=>AO
def CV:AH->Ap->(AH->Prop)->Aq->A2->Prop
 |0,_,_,_,_=>False
 |k+1,V,F,v,d=>match d with
  |.nil=>v=.agg (Cg 0 0 ⟨#[]⟩ Cq Cq)
  |.lit (.bool b)=>v=.agg (Cg (if b=AP then 2 else 1) 0 ⟨#[]⟩ Cq Cq)
  |.lit (.int Al z)=>v=.agg (Cg 3 z ⟨#[]⟩ Cq Cq) /\ -9223372036854775808<=z/\z<=9223372036854775807
  |.lit (.string l)=>v=.agg (Cg 4 0 ⟨Aw l⟩ Cq Cq)
  |.ptr (.lit<|.string l)=>v=.agg (Cg 5 0 ⟨Aw l⟩ Cq Cq)
  |.agg ds=>∃u xs,v=.agg (Cg 6 0 ⟨#[]⟩ Cq u)/\DQ V 101 5 F u (At ds) xs/\∀(i:AH) (d:A2),ds[i]?=An d->∃a,Hu xs i a/\CV k V F (.agg a) d
  |.map es=>∃kv u xs,v=.agg (Cg 7 0 ⟨#[]⟩ kv u)/\DQ V 9 1 F kv (At es) (es.map NQ)/\DQ V 101 5 F u (At es) xs/\∀(i:AH) (key:Lit) (d:A2),es[i]?=An (key,d)->∃l a,key=.string l/\Hu xs i a/\CV k V F (.agg a) d
  |_=>False
theorem CV.same{G:I->Prop}(b:∀k,F k->G k)(c:∀k,F k->V'.heap[k]?=V.heap[k]?):∀{k:I} {v:Aq} {d:A2},CV k V F v d->CV k V' G v d
 |0,_,_,h=>h
 |k+1,v,d,h=>by
  unfold CV at h ⊢;split at h
  .exact h
  .exact h
  .exact h
  .exact h
  .exact h
  .obtain⟨u,o,e,n,m⟩:=h;refine⟨u,o,e,n.same b c,λi d j=>?_⟩;obtain⟨a,f,g⟩:=m i d j;exact⟨a,f,CV.same b c g⟩
  .obtain⟨r,u,o,e,q,n,m⟩:=h;refine⟨r,u,o,e,q.same b c,n.same b c,λi key d j=>?_⟩;obtain⟨l,a,f,g,p⟩:=m i key d j;exact⟨l,a,f,g,CV.same b c p⟩
  exact h
def CV.ai:∀{k m:I} {v:Aq} {d:A2},k<=m->CV k V F v d->CV m V F v d
 |0,_,_,_,_,h=>h.elim
 |k+1,0,_,_,hm,_=>absurd hm E
 |k+1,m+1,v,d,hm,h=>by
  unfold CV at h ⊢;split at h
  .exact h
  .exact h
  .exact h
  .exact h
  .exact h
  .obtain⟨u,n,e,j,g⟩:=h;refine⟨u,n,e,j,λi d f=>?_⟩;obtain⟨a,b,c⟩:=g i d f;exact⟨a,b,CV.ai E c⟩
  .obtain⟨q,u,n,e,p,j,g⟩:=h;refine⟨q,u,n,e,p,j,λi key d f=>?_⟩;obtain⟨l,a,b,c,o⟩:=g i key d f;exact⟨l,a,b,c,CV.ai E o⟩
  exact h
theorem DQ.slice(h:DQ V t size F v n xs):∃a m c,v=G a m c:=by rcases h.2 with⟨e,_⟩|⟨g,b,d,e,_⟩<;>grind
theorem CV.ac{d:A2}(h:CV k V F v d):∃l n s a i j b p q,v=.agg (Cg l n s (G a i j)<|G b p q):=by
 obtain _|k:=k
 .exact h.elim
 unfold CV at h;split at h
 .exact⟨_,_,_,_,_,_,_,_,_,h⟩
 .exact⟨_,_,_,_,_,_,_,_,_,h⟩
 .exact⟨_,_,_,_,_,_,_,_,_,h.1⟩
 .exact⟨_,_,_,_,_,_,_,_,_,h⟩
 .exact⟨_,_,_,_,_,_,_,_,_,h⟩
 .obtain⟨u,o,e,f,_⟩:=h;obtain⟨a,m,c,rfl⟩:=f.slice;exact⟨_,_,_,_,_,_,_,_,_,e⟩
 .obtain⟨t,u,o,e,g,f,_⟩:=h;obtain⟨a,m,c,rfl⟩:=f.slice;obtain⟨r,w,c2,rfl⟩:=g.slice;grind
 exact h.elim
theorem P6(h:W.ownsRow base t size v n xs)(hF:∀g,base<=g->g<O (U W)->F g):DQ W t size F v n xs:=by
 refine⟨h.1,?_⟩;rcases h.2 with d|⟨g,b,c,e,f,a,k,j,i,l⟩
 .exact AF d
 exact AG ⟨g,b,c,e,hF g f<|Cd a,a,k,j,i,l⟩
def Fc(k:AH)(bs:A1)(lim:AI)(W:Ap)(r:AS (AI×AI)<|AM Unit×AH)(e:Ending)(W':Ap):Prop :=
 A0 W W'/\∃r',GI bs lim r r'/\match r' with
 |.ok (d,q)=>Cx bs lim q/\∃kd n s a i j b p m,e=Ak (Af #[.agg<|Cg kd n s (Ac a i j)<|Ac b p m,Ab Al q,.agg<|Cf (0,0)])/\CV k W' (λj=>Au (Av W)<=j/\j<Au (Av W')) (.agg<|Cg kd n s (Ac a i j)<|Ac b p m) d
 |.error f=>∃kd n s a i j b p m z,e=Ak (Af #[.agg<|Cg kd n s (Ac a i j)<|Ac b p m,Ab Al z,.agg<|Cf f])
theorem dZ{α:Type}{r r':A5 α}(h:GI bs lim r r')(hb:DI r):DI r':=by
 intro a c b;rcases h with h|⟨q,_,_,_,x,d⟩
 .exact hb a c<|Ca h b
 grind
def s9(r:A5 AH):Aq:=match r with
 |.ok (x,_)=>Af #[Ab Al x,.agg<|Cf (0,0)]
 |.error f=>Af #[Ab Al 0,.agg<|Cf f]
theorem ed(W:X)(fm d:J)(hl:Lm bs l lim)(hi:Cx bs lim i)(hb:K bs<=281474976710656):Ar As 210 #[.agg<|Ct bs fm d l,C Y i] W λab W'=>ab=Ak (s9<|Ef bs lim 4 i 0)/\A0 W W':=by
 obtain⟨R,q⟩:=CC<|Ef bs lim 4 i 0;rw[AE q];have ag:=hi.1;have Q:=T hl;have n:=T hi;have cH:=NL bs fm d l;have cB:=OX bs fm d l;unfold Ct;go_enter func210,ntmps210;go_wp2
 go_loopg[6,7] 4 (λg zn zk wr=>∃k a:I,zk=C Y k/\zn=C Y a/\D (k+g=i+4/\i<=k)/\D (a<=65535/\(1<=g->a*16+15<=65535)/\(2<=g->a*256+255<=65535)/\(3<=g->a*4096+4095<=65535)/\(4<=g->a=0))/\D (IP W (Ct bs fm d l) (O (U W)+1) wr)/\D (Ef bs lim g k a=R)/\D (Cx bs lim k))
 exact⟨i,0,Z,Z,⟨Z,Cr _⟩,⟨E,E,E,E,λ_=>rfl⟩,OW,q,n⟩;obtain⟨k,a,rfl,rfl,s,hm,o,q,n⟩:=hrel;have ah:=n.1;have ai:=hm.out.1;obtain⟨v,w,c2,x⟩:=Eb o.h;have L:=λV=>cH V k;obtain _|g:=gk
 .have ae:¬k<(i:J)+4:=AY<|AE s;have t:D<|R=.ok (a,k):=by grind [Ef]
  go_wp2_with(first
   |(refine Fb 5 72 Z Z (O (U W)+1) (0,0) Z Z ?_ ?_;exact o.a))
  have p:=Ht o CT (0,0);refine TB results210 p Z Z Z ⟨?_,p.2⟩;rw[AE t];rfl
 have ae:k<(i:J)+4:=AY<|AE s;have j:=AE q;rw[Ef]at j;have A:(R=.error (D5 bs l k 9)/\(CN bs l k=AQ\/CN bs l k=AP/\∃c,bs[k]?=H c/\((c.toNat:J)<48\/(57<(c.toNat:J)/\(c.toNat:J)<65)\/(70<(c.toNat:J)/\(c.toNat:J)<97)\/102<(c.toNat:J))))\/∃c b,CN bs l k=AP/\bs[k]?=H c/\Cx bs lim (k+1)/\Ef bs lim g (k+1) (a*16+b)=R/\b<16/\((48<=(c.toNat:J)/\(c.toNat:J)<=57/\(b:J)=(c.toNat:J)-48)\/(97<=(c.toNat:J)/\(c.toNat:J)<=102/\(b:J)=(c.toNat:J)-87)\/(65<=(c.toNat:J)/\(c.toNat:J)<=70/\(b:J)=(c.toNat:J)-55)):=by
  rcases RA (bs:=bs) (lim:=lim) k with aj|⟨c,f,z⟩
  .grind [D,IN,Id,Gl,Hs]
  rw[f]at j;simp only[]at j;rw[Cl z]at j;have N:=J5 Q n f z;rcases hv:JF c with _|b
  .grind [D,Ie,JF,Ey]
  rw[hv]at j;refine AG ⟨c,b,N,f,Eu n f z,j,To hv,?_⟩;grind [JF,Ey]
 have aa:=λV=>cB V k 9;generalize D5 bs l k 9=F at *;generalize CN bs l k=N at *;rcases A with⟨hE,A⟩|⟨c,b,rfl,f,hN,j,af,h3⟩
 .have t:=T hE;rcases A with rfl|⟨rfl,c,f,m|⟨m,r⟩|⟨m,r⟩|m⟩
  all_goals
   try have ac:=λV=>Et f V
   try have ad:=Dk f
   try clear f
   go_wp2_with(first
    |(go_at_call 116;refine Ec (L _) o.next (λ_ h=>h.h) ?_;intro w2 u v w c2 x)
    |(go_at_call 84;refine Ec (aa _) u.next (λ_ h=>h.h) ?_;intro w3 B v w c2 x)
    |(refine Fb _ _ Z Z (O (U W)+1) F Z Z ?_ ?_;exact B.a))
   have p:=Ht B CT F;refine TB results210 p Z Z Z ⟨?_,p.2⟩;rw[AE t];rfl
 have HN:=T j;have e:=T hN;have ac:=λV=>Et f V;have ad:=Dk f;have S:D<|a*16+b<=65535/\(1<=g->(a*16+b)*16+15<=65535)/\(2<=g->(a*16+b)*256+255<=65535)/\(3<=g->(a*16+b)*4096+4095<=65535)/\(4<=g->a*16+b=0):=by grind [D]
 rcases h3 with⟨m,r,y⟩|⟨m,r,y⟩|⟨m,r,y⟩
 all_goals
  have P:D _:=y
  go_wp2_with(first
   |(go_at_call 116;apply Ec (L _) o.next λ_ h=>h.h;intro w2 u v w c2 x))
  go_roundg g;exact⟨_,_,Bb,congrArg _<|AY<|AE P,⟨AY<|AE s,AY<|AE s⟩,S,u,HN,e⟩;omega
theorem sd(W:X)(bs:A1)(cs:AJ Aq)(n:I)(b:n=K bs)(c:n<=9)(a:bs.map CP=cs):Cn (Az W<|M (Aw cs) 5) (O<|U W) (G (Aa<|O<|U W) n n) bs/\A0 W (Az W<|M (Aw cs) 5):=by subst a;subst b;refine⟨⟨⟨Ba,AG ⟨_,_,_,Z,Cr _,Cj _,Cr _,Bc,Ba,by simp[Nt]⟩⟩,Ba,_,_,_,Z⟩,Cm⟩
theorem RM(W:X){r:J}{cs:AJ Aq}(n:I)(b:n=K cs)(a:runeCells r=cs):Cn (Az W<|M (Aw cs) 5) (O<|U W) (G (Aa<|O<|U W) n n) (Ez r)/\A0 W (Az W<|M (Aw cs) 5):=by grind [encodeRuneZ,sd,Ez,WN]
theorem ef(W:X){n:J}(h:0<=n)(i:n<=1114111)(j:¬(55296<=n/\n<=57343)):Ar As 211 #[C Y n] W λe g=>∃v,e=Ak v/\Cn g (O<|U W) v (Ez n)/\A0 W g:=by
 by_cases a:n<128
 .have f:runeCells n=[C Am n]:=keK;have d:=T<|RM W 1 Z f;go_enter func211,ntmps211;go_wp2;go_ret;exact⟨_,Z,d.1,d.2⟩
 by_cases b:n<2048
 .have f:runeCells n=[C Am<|192+n/64,C Am<|128+n%64]:=by grind [runeCells,encodeRuneZ_two]
  have d:=T<|RM W 2 Z f;go_enter func211,ntmps211;go_wp2;go_ret;exact⟨_,Z,d.1,d.2⟩
 by_cases c:n<65536
 .have f:runeCells n=[C Am<|224+n/4096,C Am<|128+n/64%64,C Am<|128+n%64]:=by grind [runeCells,encodeRuneZ_three]
  have d:=T<|RM W 3 Z f;go_enter func211,ntmps211;go_wp2;go_ret;exact⟨_,Z,d.1,d.2⟩
 have f:runeCells n=[C Am<|240+n/262144,C Am<|128+n/4096%64,C Am<|128+n/64%64,C Am<|128+n%64]:=by grind [runeCells,encodeRuneZ_four]
 have d:=T<|RM W 4 Z f;go_enter func211,ntmps211;go_wp2;go_ret;exact⟨_,Z,d.1,d.2⟩
theorem se{P:Program}{fn:Func}{p u u2:Tmp}{ty:AN}(h:fn.results=#[.tmp u,.tmp u2,.cell p ty]){tmps:A3}{w:X}{g:I}{t:AN}{cs:A3}{fr:I×I}{d:TypeDesc}(f:tmps.getD p AO=A8 g)(c:w.heap[g]?=H (M cs t fr))(i:P.underlying ty=H d)(b:(match d with|.struct _|.array _ _=>AP|_=>AQ)=AP)(hi:(P.info? ty).map (·.size)=H cs.size){v v2:Aq}(j:tmps.getD u AO=v)(k:tmps.getD u2 AO=v2):(results fn tmps).run P w=.ok (Af #[v,v2,.agg cs]) w:=by have e:(results fn tmps).run P w=((asAddr<|tmps.getD p AO).run P w).andThen λa l=>((loadVar ty a).run P l).andThen λv m=>.ok (Af #[tmps.getD u AO,tmps.getD u2 AO,v]) m:=Bm;subst j k;rw[e,f];simp only[asAddr,Gf,G0,Jz w g t ty cs fr d c i b hi]
def sf{p u:Tmp}{F:J×J}(h:fn.results=#[.tmp u,.tmp u2,.cell p 103])(a:A7 w g (Cf F) 103)(b:tmps.getD p AO=A8 g)(c:tmps.getD u AO=v)(d:tmps.getD u2 AO=v2):(results fn tmps).run As w=.ok (Af #[v,v2,.agg<|Cf F]) w :=
 se h b a underlying103 rfl (KG) c d
def Ik{p u:Tmp}{A:Act}{F:J×J}{R:Ending->X->Prop}{B:Prop}(h:fn.results=#[.tmp u,.tmp u2,.cell p 103])(c:A7 w g (Cf F) 103/\B)(v a:Aq)(d:A.tmps.getD p AO=A8 g)(e:A.tmps.getD u AO=v)(f:A.tmps.getD u2 AO=a)(b:A.defers=[])(k:R (Ak<|Af #[v,a,.agg<|Cf F]) w):bodyPost As fn R .ret A w:=CS (sf h c.1 d e f) b k
structure Hv(W:Ap)(A:A3)(M:AH)(f:AI×AI)(V:Ap):Prop where
 h:V.heap[Au (Av W)]?=An (.cells A 115)
 a:V.heap[Au (Av W)+1]?=An (.cells (Cf (0,0)) 103)
 b:V.heap[M]?=An (.cells (Cf f) 103)
 ac:A0 W V
 lt:Au (Av W)+1<M
theorem Hv.next{M:I}(h:Hv W A M f V)(hb:A0 V V'):Hv W A M f V' :=
 ⟨Ca (Co hb _<|Cd h.h) h.h,Ca (Co hb _<|Cd h.a) h.a,Ca (Co hb _<|Cd h.b) h.b,Cs h.ac<|CG hb h.ac.size,h.lt⟩
theorem Hv.drew{M:I}(h:Hv W A M f V):Hv W A M f V.drew:=⟨h.h,h.a,h.b,h.ac.drew,h.lt⟩
theorem Hv.put{M:I}(h:Hv W A M f V)(g:J×J):Hv W A M g<|AD V M<|Cf g:=by have a:=h.lt;exact⟨sx E h.h,sx E h.a,CR _ _ _ _ _ _ h.b,Dq h.ac E,h.lt⟩
def eh(h:IP W A (O (U W)+1) V){g:J×J}:Hv W A (O<|U V) g<|(Az V<|M (Cf (0,0)) 103).setRow (O<|U V)<|Cf g:=by
 have a:=Cd h.a;have b:Hv W A _ _ (Az V<|M (Cf (0,0)) _) :=
  ⟨Ca (CB _ _ _ E) h.h,Ca (CB _ _ _ a) h.a,Cj _,h.ac.alloc E _,a⟩
 exact b.put g
def Hv.ai{M:I}(h:Hv W A M f V)(g:J×J):(AD V (O (U W)+1)<|Cf g).heap[O (U W)+1]?=H (.cells (Cf g) 103)/\A0 W (AD V (O (U W)+1)<|Cf g)/\(AD V (O (U W)+1)<|Cf g).heap[M]?=H (.cells (Cf f) 103) :=
 ⟨CR _ _ _ _ _ _ h.a,Dq h.ac E,Ca (Do _ _ _ _<|AY h.lt) h.b⟩
theorem RN:∀(k p a x q:I),Cx bs lim p->Ef bs lim k p a=.ok (x,q)->q=p+k/\Cx bs lim q/\x<(a+1)*16^k
 |0,p,a,x,q,hi,h=>by grind [Ef]
 |k+1,p,a,x,q,hi,h=>by
  rw[Ef]at h;rcases hc:bs[p]? with _|c
  .rw[hc]at h;cases h
  rw[hc]at h;simp only[]at h;by_cases b:(p:J)=lim
  .grind
  rw[Cl b]at h;rcases hv:JF c with _|g
  .rw[hv]at h;cases h
  rw[hv]at h;obtain⟨f,d,e⟩:=RN k _ _ x q (Eu hi hc b) h;have i:=To hv;refine⟨E,d,CQ e ?_⟩;rw[Wg,Wh (16^k) 16,<-Nat.mul_assoc];exact PN _ E
theorem RO:∀(w:A1) (p q:I),Cx bs lim p->Dt bs lim w p=.ok ((),q)->q=p+K w/\Cx bs lim q
 |[],p,q,hi,h=>kfG
 |x::w,p,q,hi,h=>by
  rw[Dt]at h;rcases hc:bs[p]? with _|c
  .rw[hc]at h;cases h
  rw[hc]at h;simp only[]at h;by_cases a:(p:J)=lim
  .rw[Cp a]at h;cases h
  rw[Cl a]at h;by_cases b:c=x
  .rw[Cp b]at h;obtain⟨e,d⟩:=RO w _ q (Eu hi hc a) h;exact⟨by rw[FN];omega,d⟩
  rw[Cl b]at h;cases h
theorem RP(hl:Lm bs l lim)(hi:Cx bs lim<|p+1)(e:J):D5 bs l p e=(e,(p:J)):=by have a:=hi.1;have b:=hi.2;have c:=hl p E;grind [D5]
def Xi(h:Cn W' b v bs)(hb:N<b):Ax v≠H N:=λe=>AY<|DK h.1 e
def Xj{b':I}(h:Cn W' b v bs)(hb:b'<=b):Cn W' b' v bs:=by
 obtain⟨⟨i,d⟩,k,j⟩:=h;refine⟨⟨i,?_⟩,E,j⟩;rcases d with d|⟨g,e,f,a,b,c⟩
 .exact AF d
 exact AG ⟨g,e,f,a,E,c⟩
def Xk(h:Cn W' b v bs)(n:Ax v≠H N):Cn (AD W' N cs) b v bs:=by
 obtain⟨⟨k,f⟩,l,m⟩:=h;refine⟨⟨k,?_⟩,kfg,m⟩;rcases f with f|⟨g,i,j,a,b,c,d⟩
 .exact AF f
 refine AG ⟨g,i,j,a,b,Ca (Do _ _ _ _ λe=>n ?_) c,d⟩;rw[a,<-e];rfl
def P7(W:Ap)(r:A5 AI)(e:Ending)(W':Ap):Prop:=match r with
 |.ok (x,q)=>∃v,e=Ak (Af #[v,Ab Al q,.agg<|Cf (0,0)])/\Cn W' (Au<|Av W) v (Ez x)
 |.error f=>e=Ak (Af #[Ac Ao 0 0,Ab Al 0,.agg<|Cf f])
def Hv.ck{f:FuncId}{Q:Ending->X->Prop}{M:I}{x:J×J}(h:Hv W (Ct bs fm d l) M x V)(c:Ar As f args V λe b=>e=r/\A0 V b)(k:∀w,D (Hv W (Ct bs fm d l) M x w)->AC w ⟨O<|U W,0,Ao⟩=(#[Ae ⟨Aw bs⟩,C Y fm,C Y d,C Y l]:A3)[0]?->AC w ⟨O<|U W,1,Ao⟩=(#[Ae ⟨Aw bs⟩,C Y fm,C Y d,C Y l]:A3)[1]?->AC w ⟨O<|U W,2,Ao⟩=(#[Ae ⟨Aw bs⟩,C Y fm,C Y d,C Y l]:A3)[2]?->AC w ⟨O<|U W,3,Ao⟩=(#[Ae ⟨Aw bs⟩,C Y fm,C Y d,C Y l]:A3)[3]?->A6 w M 0 (C Y x.1)->Q r w):Ar As f args V Q :=
 _root_.Go.Proofs.YtaehkdnabiccnaaGreatDoor.ck c h.next λw a=>k w a (Eb a.out.h).1 (Eb a.out.h).2.1 (Eb a.out.h).2.2.1 (Eb a.out.h).2.2.2<|Cc a.out.b 0
def Hv.st{M:I}(h:Hv W (Ct bs fm d l) M (0,0) V)(x y:I)(c:o.guard=Ao)(e:o.op=.store 103 (.tmp x) (.tmp y))(F:J×J)(b:a.eval (.tmp x)=A8 M/\a.eval (.tmp y)=.agg (Cf F))(k:∀w,D (Hv W (Ct bs fm d l) M F w)->AC w ⟨O<|U W,0,Ao⟩=(#[Ae ⟨Aw bs⟩,C Y fm,C Y d,C Y l]:A3)[0]?->AC w ⟨O<|U W,1,Ao⟩=(#[Ae ⟨Aw bs⟩,C Y fm,C Y d,C Y l]:A3)[1]?->AC w ⟨O<|U W,2,Ao⟩=(#[Ae ⟨Aw bs⟩,C Y fm,C Y d,C Y l]:A3)[2]?->AC w ⟨O<|U W,3,Ao⟩=(#[Ae ⟨Aw bs⟩,C Y fm,C Y d,C Y l]:A3)[3]?->A6 w M 0 (C Y F.1)->wpList As ops Q rest (a.put o.dst AO) w):wpList As ops Q (o::rest) a V :=
 Fb x y c e M F b.1 b.2 h.b<|k _ (h.put F) (Eb (h.put F).h).1 (Eb (h.put F).h).2.1 (Eb (h.put F).h).2.2.1 (Eb (h.put F).h).2.2.2<|Cc (h.put F).b 0
def Kh(bs:A1)(fm d l:AI)(i x:AI)(F:AI×AI):Prop:=∀V,Ar As 210 #[Ag #[Ae ⟨Aw bs⟩,Ab Al fm,Ab Al d,Ab Al l],Ab Al i] V λe W'=>e=Ak (Af #[Ab Al x,.agg<|Cf F])/\A0 V W'
def RQ(bs:A1)(fm d l:AI)(i x:AI)(F:AI×AI):Prop:=∀V,Ar As 127 #[Ag #[Ae ⟨Aw bs⟩,Ab Al fm,Ab Al d,Ab Al l],Ab Al i,Ae ⟨#[92,117]⟩] V λe W'=>e=Ak (Af #[Ab Al x,.agg<|Cf F])/\A0 V W'
def TK(bs:A1)(fm d l:AI)(i:AI)(F:AI×AI):Prop:=∀V,Ar As 84 #[Ag #[Ae ⟨Aw bs⟩,Ab Al fm,Ab Al d,Ab Al l],Ab Al i,Ab Al 9] V λe W'=>e=Ak (.agg<|Cf F)/\A0 V W'
def Xl(x:AI):Prop:=∀V,Ar As 211 #[Ab Al x] V λe W'=>∃v,e=Ak v/\Cn W' (Au<|Av V) v (Ez x)/\A0 V W'
def sj(W:World){bs:List UInt8}(fm d l:Int){i:Nat}(af:i<=bs.length)(hb:bs.length<=281474976710656)(R:Except (Int×Int)<|Int×Nat)(x y:Int)(F:Int×Int)(ag:0<=x)(ah:x<65536)(ai:0<=y)(aj:y<65536)(hw:(Kh bs fm d l i 0 F/\(F.1==0)=false/\R=.error F)\/(Kh bs fm d l i x (0,0)/\55296<=x/\x<56320/\RQ bs fm d l ((i:Int)+4) 0 F/\(F.1==0)=false/\R=.error F)\/(Kh bs fm d l i x (0,0)/\55296<=x/\x<56320/\RQ bs fm d l ((i:Int)+4) ((i:Int)+6) (0,0)/\Kh bs fm d l ((i:Int)+6) 0 F/\(F.1==0)=false/\R=.error F)\/(Kh bs fm d l i x (0,0)/\56320<=x/\x<=57343/\TK bs fm d l ((i:Int)+3) F/\R=.error F)\/(Kh bs fm d l i x (0,0)/\55296<=x/\x<56320/\RQ bs fm d l ((i:Int)+4) ((i:Int)+6) (0,0)/\Kh bs fm d l ((i:Int)+6) y (0,0)/\(y<56320\/57343<y)/\TK bs fm d l ((i:Int)+6+3) F/\R=.error F)\/(Kh bs fm d l i x (0,0)/\(x<55296\/57343<x)/\Xl x/\F=(0,0)/\R=.ok (x,i+4))\/(Kh bs fm d l i x (0,0)/\55296<=x/\x<56320/\RQ bs fm d l ((i:Int)+4) ((i:Int)+6) (0,0)/\Kh bs fm d l ((i:Int)+6) y (0,0)/\56320<=y/\y<=57343/\Xl (65536+(x-55296)*1024+y-56320)/\F=(0,0)/\R=.ok (65536+(x-55296)*1024+y-56320,i+10))):Calls prog 189 #[.agg<|Ct bs fm d l,.int .i64 i] W λe Q=>P7 W R e Q/\Below W.heap.size W Q:=by
 have HX:=RB W bs fm d l;have m:∀{p:Prop} [Decidable p],¬p->Hid _:=λh=>FO h;have B:∀{p:Prop} [Decidable p],p->Hid _:=λh=>Fm h;unfold Ct;rcases hw with⟨k,aa,rfl⟩|⟨k,n,u,q,aa,rfl⟩|⟨k,n,u,q,t,aa,rfl⟩|⟨k,n,u,z,rfl⟩|⟨k,n,u,q,t,v|v,z,rfl⟩|⟨k,n|n,A,rfl,rfl⟩|⟨k,n,u,q,t,v,h4,A,rfl,rfl⟩
 let b:Nat:=20;rotate_left
 let b:Nat:=48;rotate_left
 let b:Nat:=58;rotate_left
 rotate_left 6
 all_goals
  unfold Kh at *
  try unfold RQ at *
  try unfold TK at *
  try unfold Xl at *
  try have d1:=(m (p:=x<55296) E).out
  try have d2:=(m (p:=57343<x) E).out
  try have d3:=(m (p:=56320<=x) E).out
  try have N:=m (p:=y<56320) E
  try have N:=B (p:=y<56320) E
  try have P:=m (p:=57343<y) E
  try have P:=B (p:=57343<y) E
  clear m B;go_enter func189,ntmps189
  go_wp2_with(first
   |(go_at_call 210;refine MJ (k _) HX.out.next ?_;clear k;intro r ac s;obtain⟨c,f,c2,g⟩:=Eb s.out.h)
   |(go_at_call 127;refine a.out.ck (q _) ?_;clear q d1 d2 d3 c f c2 g j a;intro w3 a c f c2 g j)
   |(go_at_call 210;apply a.out.ck<|t _;clear t c f c2 g j a;intro w4 a c f c2 g j)
   |(go_at_call 84;apply a.out.ck<|z _;clear z c f c2 g j a;intro w5 a c f c2 g j)
   |(go_at_call 211;apply (A _).mono;clear A c f c2 g j;rintro e w5 ⟨ak,rfl,w,ad⟩;obtain⟨va,vn,vc,rfl⟩:=w.2.2;have HO:=T<|Xj w a.out.ac.size;have ab:=T<|Xi w<|Cd a.out.a;clear w;have a:=T<|a.out.next ad)
   |((first|((with_reducible refine Fb 8 16 rfl rfl (r.heap.size) (0,0) ?_ ?_ ?_ ?_);exact Z;exact Z;exact Cj r;refine FA ?_;intro V2 o;have a:=T<|o▸eh s.out;clear o)|((with_reducible refine Fb 8 16 rfl rfl (r.heap.size) F ?_ ?_ ?_ ?_);exact Z;exact Z;exact Cj r;apply FA;intro V2 o;have a:=T<|o▸eh s.out;clear o));generalize r.heap.size=M at *;clear c f c2 g ac s;have j:=Cc a.out.b 0;unfold Cf at j;obtain⟨c,f,c2,g⟩:=Eb a.out.h)
   |((with_reducible refine a.out.st 8 _ rfl rfl (0,0) ?_ ?_);exact⟨Z,Z⟩;clear c f c2 g j a;intro V3 a c f c2 g j;try(have e1:=N.out;have e2:=P.out))
   |((with_reducible refine a.out.st 8 _ rfl rfl F ?_ ?_);exact⟨Z,Z⟩;clear c f c2 g j a;intro V3 a c f c2 g j)
   |((with_reducible refine Fb 6 _ rfl rfl (W.heap.size+1) F ?_ ?_ ?_ ?_);exact Z;exact Z;exact a.out.a)
   |((with_reducible refine Fb 6 _ rfl rfl (W.heap.size+1) (0,0) ?_ ?_ ?_ ?_);exact Z;exact Z;exact a.out.a))
  try exact Ik results189 (a.out.ai _) (.slice none 0 0) (.int .i64 0) rfl rfl rfl rfl ⟨rfl,(a.out.ai _).2.1⟩
  try exact Ik results189 (a.out.ai _) (.slice va vn vc) _ rfl rfl rfl rfl ⟨⟨_,by congr 4,Xk HO.out ab.out⟩,(a.out.ai _).2.1⟩
 all_goals
  apply Dl (S:=λV=>V.heap[M]?=some _) (a.out.b) B6;intro L;apply Cb 1 4 (.slice none 0 0) L;apply Cb 2 5 (.int .i64 0) L;apply tk 0 b _ Z B6 GC (λV hZ=>yF 8 hZ Z Z) L;refine CH 3 λae hK=>?_;rw[Cp B6];refine Jf 103 _ _ Z (W.heap.size+1) (Cf F) Z Z 103 (Cf (0,0)) a.out.drew.a (KG) Z (Qd) ?_;refine hK.out _ _ (a.out.drew.ai F).2.2 λ_=>?_;clear hK;refine CK ?_;dsimp only[b];go_simp;clear c f c2 g j;go_wp2;exact Ik results189 (a.out.drew.ai F) _ _ Z Z Z Z ⟨Z,(a.out.drew.ai F).2.1⟩
def el(hl:Lm bs l lim)(hi:Cx bs lim i)(hb:K bs<=281474976710656)(h:Ef bs lim 4 i 0=.error f):Kh bs fm d l i 0 f:=λV=>ker
def eo(hl:Lm bs l lim)(hi:Cx bs lim i)(hb:K bs<=281474976710656)(h:Ef bs lim 4 i 0=.ok (x,q)):Kh bs fm d l i x (0,0):=λV=>ker
def ep(hl:Lm bs l lim)(hi:Cx bs lim<|p+1):TK bs fm d l p (9,(p:J)):=λV=>by have h:=M3 V bs fm d l p 9;rw[RP hl hi]at h;exact h
theorem sm(W:X)(fm d:J)(hl:Lm bs l lim)(hi:Cx bs lim i)(hb:K bs<=281474976710656):Ar As 189 #[.agg<|Ct bs fm d l,C Y i] W λe o=>P7 W (IL bs lim i) e o/\A0 W o:=by
 have a:=sj W fm d l hi.1 hb;have m:∀z:J,¬z=0->(z==0)=AQ:=λz h=>Bu;unfold IL;rcases h1:Ef bs lim 4 i 0 with f|r
 .exact a _ 0 0 f B8 B8 B8 B8<|AF ⟨el hl hi hb h1,m _<|RJ bs lim 4 i 0 _ _ h1,Z⟩
 obtain⟨x,q⟩:=r;simp only[];obtain⟨s,t,S⟩:=RN 4 i 0 x q hi h1;have c:=eo (fm:=fm) (d:=d) hl hi hb h1;by_cases j:LZ x=AP
 .rw[Cp j];unfold LZ at j;have w:=Dr j;rw[show q-1=(i:J)+3 by omega];exact a _ x 0 _ E E B8 B8<|AG<|AG<|AG<|AF ⟨c,E,E,λV=>ep hl B9 V,Z⟩
 rw[Cl j];have R:¬(56320<=x/\x<=57343):=λh=>j<|Fm h;by_cases g:Q8 x=AP
 .rw[Cp g];unfold Q8 at g;have w:=Dr g;subst s;have b:=λV=>WU V fm d [92,117] B8 hl t hb;rcases hw:Dt bs lim [92,117] (i+4)with f|r
  .rw[hw]at b;exact a _ x 0 f E E B8 B8<|AG<|AF ⟨c,E,E,b,m _<|MK _ _ _ _ hw,Z⟩
  obtain⟨ab,v⟩:=r;simp only[];obtain⟨A,n⟩:=RO _ _ v t hw;have B:v=i+6:=keH;subst B;rw[hw]at b;rcases h3:Ef bs lim 4 (i+6) 0 with f|r
  .exact a _ x 0 f E E B8 B8<|AG<|AG<|AF ⟨c,E,E,b,el hl n hb h3,m _<|RJ bs lim 4 _ 0 _ _ h3,Z⟩
  obtain⟨y,N⟩:=r;simp only[];obtain⟨F,L,u⟩:=RN 4 _ 0 y N n h3;have p:=eo (fm:=fm) (d:=d) hl n hb h3;subst F;by_cases k:LZ y=AP
  .rw[Cp k];unfold LZ at k;have P:=Dr k;rw[show 65536+(x-55296)*1024+(y-56320)=65536+(x-55296)*1024+(y:J)-56320 by omega];exact a _ x y _ E E E E<|AG<|AG<|AG<|AG<|AG<|AG ⟨c,E,E,b,p,E,E,λV=>ef V E E E,Z,Z⟩
  rw[Cl k,show(i+6+4:I)-1=(i:J)+9 by omega];have aa:¬(56320<=y/\y<=57343):=λh=>k<|Fm h;exact a _ x y _ E E E E<|AG<|AG<|AG<|AG<|AF ⟨c,E,E,b,p,E,λV=>ep hl L V,Z⟩
 rw[Cl g];have Q:¬(55296<=x/\x<=56319):=λh=>g<|Fm h;subst s;exact a _ x 0 _ E E B8 B8<|AG<|AG<|AG<|AG<|AG<|AF ⟨c,E,λV=>ef V E E E,Z,Z⟩
theorem sq{r:J}(a:0<=r)(b:r<=127):runeCells r=[C Am r]:=keK
def Xm{x:J×J}(q:D5 bs l i 9=x)(t:CN bs l i=AQ\/(CN bs l i=AP/\∃c,bs[i]?=H c/\∀x,x∈[34,92,47,98,102,110,114,116,117]->¬c.toNat=x)):Ar As 162 #[.agg<|Ct bs fm d l,C Y i] W λe b=>P7 W (.error x) e b/\A0 W b:=by
 have o:=NK fm d q;have g:=RB W bs fm d l;unfold Ct;rcases t with f|⟨f,c,r,s⟩
 all_goals
  have p:=GJ fm d f
  try
   have u:=Et r;simp only[IA,Mt,My,aD,forall_eq]at s;have B:=Df (c:=c) 34 E;have L:=Df (c:=c) 92 E;have F:=Df (c:=c) 47 E;have N:=Df (c:=c) 98 E;have v:=Df (c:=c) 102 E;have w:=Df (c:=c) 110 E;have y:=Df (c:=c) 114 E;have z:=Df (c:=c) 116 E;have A:=Df (c:=c) 117 E
  go_enter func162,ntmps162
  go_wp2_with(first
   |(go_at_call 116;apply Ec (p _) g.next λ_ h=>h.h;intro P j k m c2 n)
   |(go_at_call 84;apply Ec (o _) j.next λ_ h=>h.h;intro Q a k m c2 n)
   |(refine Fb 6 _ Z Z (O (U W)+1) x Z Z ?_ ?_;exact a.a))
  exact Ik results162 (Ht a CT _) _ _ Z Z Z Z ⟨Z,(Ht a CT _).2⟩
def NR(g:bs[i]?=H c)(o:CN bs l i=AP)(hb:K bs<=281474976710656){v:I}(r:J)(q:c.toNat=v)(j:(v,r)∈([(34,34),(92,92),(47,47),(98,8),(102,12),(110,10),(114,13),(116,9)]:AJ<|I×J)):Ar As 162 #[.agg<|Ct bs fm d l,C Y i] W λe b=>P7 W (.ok (r,i+1)) e b/\A0 W b:=by
 have x:=M5 g q;have w:=Dk g;have n:=GJ fm d o;have m:=RB W bs fm d l;unfold Ct;simp only[IA,LP,Mt,My]at j;rcases j with h|h|h|h|h|h|h|h
 all_goals
  obtain⟨rfl,rfl⟩:=h
 let r:J:=34;rotate_left
 let r:J:=92;rotate_left
 let r:J:=47;rotate_left
 let r:J:=8;rotate_left
 let r:J:=12;rotate_left
 let r:J:=10;rotate_left
 let r:J:=13;rotate_left
 let r:J:=9;rotate_left
 all_goals
  have p:=sq (r:=r) (Dr Z)<|Dr Z;go_enter func162,ntmps162
  go_wp2_with(first
   |(go_at_call 116;refine Ec (n _) m.next (λ_ h=>h.h) ?_;intro k a s t c2 u)
   |(refine Fb 6 _ Z Z (O (U W)+1) (0,0) Z Z ?_ ?_;exact(a.next<|Cm).a))
  have f:=(RM k 1 Z p).1;exact Ik results162 (Ht (a.next<|Cm) CT _) (G (Aa<|O<|U k) 1 1) (C Y<|(i:J)+1) rfl rfl rfl rfl ⟨⟨_,rfl,Xk (Xj f a.ac.size)<|Xi f<|Cd a.a⟩,(Ht (a.next<|Cm) CT _).2⟩
theorem sr(W:X)(bs:A1)(fm d l lim:J)(i:I)(hb:K bs<=281474976710656)(c:AU)(m:bs[i]?=H c)(s:CN bs l i=AP)(u:c.toNat=117)(hl:Lm bs l lim)(hi:Cx bs lim<|i+1):Ar As 162 #[.agg<|Ct bs fm d l,C Y i] W λe b=>P7 W (IL bs lim<|i+1) e b/\A0 W b:=by
 have A:=M5 m u;have z:=Dk m;have p:=GJ fm d s;have o:=RB W bs fm d l;have q:∀V,Ar _ _ #[Ag #[.string _,.int _ fm,.int _ d,.int _ l],.int _<|i+1] V λe b=>P7 V (IL bs lim<|i+1) e b/\Below _ V b:=λV=>sm V fm d hl hi hb;generalize IL bs lim (i+1)=R at *;unfold Ct;go_enter func162,ntmps162
 go_wp2_with(first
  |(go_at_call 116;apply Ec (p _) o.next λ_ h=>h.h;intro N g w x c2 y))
 apply (q _).mono;rintro e P ⟨n,t⟩;have a:=T<|g.next t;obtain f|r:=R
 .obtain rfl:=n
  go_wp2_with(first
   |(refine Fb 6 68 Z Z (O (U W)+1) f Z Z ?_ ?_;exact a.a))
  exact Ik results162 (Ht a CT _) _ _ Z Z Z Z ⟨Z,(Ht a CT _).2⟩
 obtain⟨v,rfl,k⟩:=n;obtain⟨B,L,F,rfl⟩:=k.2.2;have j:=T k
 go_wp2_with(first
  |(refine Fb 6 68 Z Z (O (U W)+1) (0,0) Z Z ?_ ?_;exact a.a))
 exact Ik results162 (Ht a CT _) _ _ Z Z Z Z ⟨⟨_,Z,Xk (Xj j g.ac.size)<|Xi j<|Cd g.a⟩,(Ht a CT _).2⟩
theorem su(W:X)(fm d:J)(hl:Lm bs l lim)(hi:Cx bs lim i)(hb:K bs<=281474976710656):Ar As 162 #[.agg<|Ct bs fm d l,C Y i] W λe p=>P7 W (Ia bs lim i) e p/\A0 W p:=by
 unfold Ia;rcases hc:bs[i]? with _|c
 .exact Xm (IN hi.1 hc 9)<|AF<|Id hc
 simp only[];by_cases b:(i:J)=lim
 .rw[Cp b];exact Xm (Gl hl hc b 9)<|AF<|Hs hl hc b
 rw[Cl b];have a:=J5 hl hi hc b;by_cases k:c.toNat=34
 .rw[Cp k];exact NR hc a hb 34 k B8
 rw[Cl k];by_cases n:c.toNat=92
 .rw[Cp n];exact NR hc a hb 92 n B8
 rw[Cl n];by_cases m:c.toNat=47
 .rw[Cp m];exact NR hc a hb 47 m B8
 rw[Cl m];by_cases o:c.toNat=98
 .rw[Cp o];exact NR hc a hb 8 o B8
 rw[Cl o];by_cases f:c.toNat=102
 .rw[Cp f];exact NR hc a hb 12 f B8
 rw[Cl f];by_cases g:c.toNat=110
 .rw[Cp g];exact NR hc a hb 10 g B8
 rw[Cl g];by_cases h:c.toNat=114
 .rw[Cp h];exact NR hc a hb 13 h B8
 rw[Cl h];by_cases j:c.toNat=116
 .rw[Cp j];exact NR hc a hb 9 j B8
 rw[Cl j];by_cases q:c.toNat=117
 .grind [sr,Eu]
 rw[Cl q];exact Xm (Ie hl hi hc b 9) (AG ⟨a,c,hc,by simp[*]⟩)
def DG(c:AU):AH:=if c.toNat<128 then 1 else if c.toNat<194 then 0 else if c.toNat<224 then 2 else if c.toNat<240 then 3 else if c.toNat<245 then 4 else 0
def Hw(c:AU):AH:=if c.toNat<194 then 0 else if c.toNat=224 then 160 else if c.toNat=240 then 144 else if c.toNat<245 then 128 else 0
def Il(c:AU):AH:=if c.toNat<194 then 0 else if c.toNat=237 then 159 else if c.toNat=244 then 143 else if c.toNat<245 then 191 else 0
def sw:(List.range 256).all (λx=>(let c:=AW x;decide<|(FT c=0↔DG c=1)/\(FT c=1↔DG c=0)/\(2<=DG c->FT c=DG c/\MD c=Hw c/\ME c=Il c/\128<=Hw c)/\DG c<=4))=AP:=B6
theorem M7(c:AU):(FT c=0↔DG c=1)/\(FT c=1↔DG c=0)/\(2<=DG c->FT c=DG c/\MD c=Hw c/\ME c=Il c/\128<=Hw c)/\DG c<=4:=by have h:=Hi.1 sw _<|Hj.2 c.toNat_lt;grind [UInt8.ofNat_toNat]
def Lt(c0:AU)(j:AH)(c:AU):AK:=(j==1&&(_root_.Decidable.decide (c.toNat<Hw c0)||decide (Il c0<c.toNat)))||(_root_.Decidable.decide (1<j)&&(_root_.Decidable.decide (c.toNat<128)||decide (191<c.toNat)))
def KK(bs:A1)(n p:AH)(c0:AU):AH->AH->AH×AK
 |0,_=>(DG c0,AP)
 |g+1,j=>if n<=p+j then(j,AQ)else match bs[p+j]? with
  |none=>(j,AQ)
  |some c=>if Lt c0 j c=AP then(j,AQ)else KK bs n p c0 g (j+1)
def ML(bs:A1)(n p:AH)(c0:AU):AH×AK:=if DG c0=0 then(0,AQ)else KK bs n p c0 (DG c0-1) 1
theorem sy(a c:AU):Lt a 1 c=AP↔(c.toNat<Hw a\/Il a<c.toNat):=by unfold Lt;simp
theorem et(a c:AU)(j:I)(b:1<j):Lt a j c=AP↔(c.toNat<128\/191<c.toNat):=by grind [Lt]
theorem eu(a:AU)(l:A1)(c:AU)(b:K l+1<DG a):Dh (a::l) c=if Lt a (K l+1) c=AP then 0 else if K l+2=DG a then 2 else 1:=by
 obtain⟨_,_,d,e⟩:=M7 a;obtain⟨f,g,h,i⟩:=d E
 match l,b with
 |[],b =>
  grind [Dh,sy]
 |[b1],b =>
  grind [Dh,et]
 |[b1,b2],b =>
  grind [Dh,et]
 |_::_::_::l,b=>grind
theorem TL(a:AU):Dh [] a=if DG a=0 then 0 else if DG a=1 then 2 else 1:=by grind [M7,Dh]
theorem sA(d:2<=DG c0)(b:1<=j)(h:c.toNat<32):Lt c0 j c=AP:=by obtain⟨_,_,a,_⟩:=M7 c0;grind [Lt]
def DB(bs:A1)(p k:AH):A1:=(bs.drop p).take k
theorem Xn(h:bs[p+k]?=H c):DB bs p (k+1)=DB bs p k++[c]:=by grind [DB,List.take_add_one]
theorem TM(h:p+k<=K bs):K (DB bs p k)=k:=by grind [DB]
theorem Xo(h:bs[p]?=H c):DB bs p 1=[c]:=by grind [Xn,DB]
theorem ew(h:bs[p]?=H c)(d:1<=k)(hl:p+k<=K bs):∃l,DB bs p k=c::l/\K l+1=k:=by
 have b:=Dk h;obtain⟨k,rfl⟩:∃a,k=a+1:=⟨k-1,E⟩
 grind [DB,List.drop_eq_getElem_cons]
theorem ey(hl:Lm bs l lim)(u:(n:J)=min (K bs:J) lim)(d:bs[p]?=H c0)(acc:A1):∀(g j f:I),1<=j->j+g=DG c0->Cx bs lim (p+j)->K bs+1<=p+j+f ->
  match KK bs n p c0 g j with
  |(k,AP)=>k=DG c0/\Cx bs lim (p+k)/\DA bs lim f (p+j) (acc++DB bs p j) (if g=0 then K acc+j else K acc)=DA bs lim (f-g) (p+k) (acc++DB bs p k) (K<|acc++DB bs p k)
  |(k,AQ)=>k<=DG c0/\Cx bs lim (p+k)/\DA bs lim f (p+j) (acc++DB bs p j) (if g=0 then K acc+j else K acc)=.error (D5 bs l (p+k) 9)
 |0,j,f,hj,hg,hi,_=>by rw[KK];simp only[];have s:j=DG c0:=E;subst s;refine⟨trivial,hi,?_⟩;rw[Cp trivial,Dj,TM hi.1];rfl
 |g+1,j,f,hj,hg,hi,hf=>by
  obtain⟨f,rfl⟩:∃q,f=q+1:=⟨f-1,AY hi.1⟩
  rw[KK];by_cases o:n<=p+j
  .rw[Cp o];simp only[];refine⟨E,hi,?_⟩;rw[Cl E,DA];rcases a:bs[p+j]? with _|c
   .simp only[];rw[IN hi.1 a]
   have e:=Dk a;have i:((p+j:I):J)=lim:=AY hi.2;grind [Gl]
  rw[Cl o];have e:p+j<K bs:=E;have a:=D7 e;obtain⟨c,r⟩:=IB<|bs[p+j];rw[<-r]at a;rw[a];simp only[];have i:¬((p+j:I):J)=lim:=E;obtain⟨t,v,w⟩:=ew d hj E;have m:=eu c0 t c E;have hcut:(acc++DB bs p j).drop (K acc)=c0::t:=by rw[W9,v]
  rw[<-hcut,w,show K t+2=j+1 by omega]at m;have y:K (acc++DB bs p j)=K acc+j:=B9;by_cases b:Lt c0 j c=AP
  .grind [DA,Ie]
  rw[Cl b];rw[Cl b]at m;have x:=λh=>b<|sA E hj h;have A:=ey hl u d acc g (j+1) f E E (Eu hi a i) E;have z:DA bs lim (f+1) (p+j) (acc++DB bs p j) (if g+1=0 then K acc+j else K acc)=DA bs lim f (p+(j+1)) (acc++DB bs p (j+1)) (if g=0 then K acc+(j+1)else K acc):=by grind [DA,Xn]
  grind
theorem sB(hl:Lm bs l lim)(j:(n:J)=min (K bs:J) lim)(hi:Cx bs lim p)(e:bs[p]?=H c0)(m:¬(p:J)=lim)(q:¬c0.toNat=34)(s:¬c0.toNat=92)(t:¬c0.toNat<32)(acc:A1)(u:K bs+1<=p+g):match ML bs n p c0 with
  |(k,AP)=>1<=k/\Cx bs lim (p+k)/\k<=g/\DA bs lim g p acc (K acc)=DA bs lim (g-k) (p+k) (acc++DB bs p k) (K<|acc++DB bs p k)
  |(k,AQ)=>Cx bs lim (p+k)/\DA bs lim g p acc (K acc)=.error (D5 bs l (p+k) 9):=by
 have w:=Dk e;obtain⟨g,rfl⟩:∃i,g=i+1:=⟨g-1,E⟩
 have f:DA bs lim (g+1) p acc (K acc)=if Dh [] c0=0 then .error (9,p)else DA bs lim g (p+1) (acc++[c0]) (if Dh [] c0=2 then K acc+1 else K acc):=by grind [DA]
 unfold ML;rw[TL]at f;by_cases h:DG c0=0
 .grind [Ie]
 rw[Cl h];rw[Cl h]at f;have o:DA bs lim (g+1) p acc (K acc)=DA bs lim g (p+1) (acc++DB bs p 1) (if DG c0-1=0 then K acc+1 else K acc):=by grind [Xo]
 have v:=(M7 c0).2.2.2;have d:=ey hl j e acc (DG c0-1) 1 g (Cr _) E (Eu hi e m) E;rw[<-o]at d;generalize KK bs n p c0 (DG c0-1) 1=r at d ⊢;obtain⟨k,b⟩:=r;cases b
 .grind
 simp only[]at d ⊢;obtain⟨a,b,c⟩:=d;have:=b.1;grind
theorem ez(hl:Lm bs l lim)(w:(n:J)=min (min (K bs:J) lim) (p+m:I))(e:bs[p]?=H c0)(acc:A1):∀(g j:I),1<=j->j+g=DG c0->Cx bs lim (p+j)->j<=m ->
  match KK bs n p c0 g j with
  |(k,AP)=>k=DG c0/\Cx bs lim (p+k)/\k<=m/\Ds bs lim (m-j) (p+j) (acc++DB bs p j) (if g=0 then K acc+j else K acc)=Ds bs lim (m-k) (p+k) (acc++DB bs p k) (K<|acc++DB bs p k)
  |(k,AQ)=>Cx bs lim (p+k)/\k<=m/\Ds bs lim (m-j) (p+j) (acc++DB bs p j) (if g=0 then K acc+j else K acc)=(if k=m then .error (9,((p+k:I):J)-1)else .error (D5 bs l (p+k) 9))
 |0,j,hj,hg,hi,hm=>by rw[KK];simp only[];have v:j=DG c0:=E;subst v;refine⟨trivial,hi,hm,?_⟩;rw[Cp trivial,Dj,TM hi.1]
 |g+1,j,hj,hg,hi,hm=>by
  have z:K (acc++DB bs p j)=K acc+j:=by rw[Dj,TM hi.1]
  rw[KK];by_cases s:n<=p+j
  .rw[Cp s];simp only[];refine⟨hi,hm,?_⟩;rw[Cl E];by_cases d:j=m
   .rw[Cp d,show m-j=0 by omega,Ds,Cl E]
   rw[Cl d];obtain⟨f,r⟩:∃b,m-j=b+1:=⟨m-j-1,E⟩
   rw[r,Ds];rcases a:bs[p+j]? with _|c
   .simp only[];rw[IN hi.1 a]
   have h:=Dk a;have i:((p+j:I):J)=lim:=AY hi.2;grind [Gl]
  rw[Cl s];have h:p+j<K bs:=E;have a:=D7 h;obtain⟨c,u⟩:=IB<|bs[p+j];rw[<-u]at a;rw[a];simp only[];have i:¬((p+j:I):J)=lim:=E;have d:¬j=m:=E;obtain⟨f,r⟩:∃b,m-j=b+1:=⟨m-j-1,E⟩
  obtain⟨t,x,y⟩:=ew e hj E;have o:=eu c0 t c E;have hcut:(acc++DB bs p j).drop (K acc)=c0::t:=by rw[W9,x]
  rw[<-hcut,y,show K t+2=j+1 by omega]at o;by_cases q:Lt c0 j c=AP
  .grind [Ds,Ie]
  rw[Cl q];rw[Cl q]at o;have B:=ez hl w e acc g (j+1) E E (Eu hi a i) E;have A:Ds bs lim (m-j) (p+j) (acc++DB bs p j) (if g+1=0 then K acc+j else K acc)=Ds bs lim (m-(j+1)) (p+(j+1)) (acc++DB bs p (j+1)) (if g=0 then K acc+(j+1)else K acc):=by grind [Ds,Xn]
  grind
theorem sC(hl:Lm bs l lim)(e:(n:J)=min (min (K bs:J) lim) (p+m:I))(hi:Cx bs lim p)(a:bs[p]?=H c0)(f:¬(p:J)=lim)(i:0<m)(acc:A1):match ML bs n p c0 with
  |(k,AP)=>1<=k/\Cx bs lim (p+k)/\k<=m/\Ds bs lim m p acc (K acc)=Ds bs lim (m-k) (p+k) (acc++DB bs p k) (K<|acc++DB bs p k)
  |(k,AQ)=>Cx bs lim (p+k)/\k<=m/\Ds bs lim m p acc (K acc)=(if k=m then .error (9,((p+k:I):J)-1)else .error (D5 bs l (p+k) 9)):=by
 have b:Ds bs lim m p acc (K acc)=if Dh [] c0=0 then .error (9,p)else Ds bs lim (m-1) (p+1) (acc++[c0]) (if Dh [] c0=2 then K acc+1 else K acc):=by
  obtain⟨g,rfl⟩:∃d,m=d+1:=⟨m-1,E⟩
  grind [Ds]
 unfold ML;rw[TL]at b;by_cases c:DG c0=0
 .grind [Ie]
 rw[Cl c];rw[Cl c]at b;have j:Ds bs lim m p acc (K acc)=Ds bs lim (m-1) (p+1) (acc++DB bs p 1) (if DG c0-1=0 then K acc+1 else K acc):=by grind [Xo]
 have h:=ez hl e a acc (DG c0-1) 1 (Cr _) E (Eu hi a f) E;grind
theorem sK(c:AU):Em c.toNat=((Hw c:J),(Il c:J),(DG c:J)):=by grind (splits:=20) [Em,Hw,Il,DG]
theorem eE(p:I)(a:AU)(b:n<=K bs):∀g j,1<=j->j+g=DG a->J6 (Hw a) (Il a) ((bs.take n).drop p) g j=KK bs n p a g j
 |0,j,_,h=>by grind [J6,KK]
 |g+1,j,h1,h=>by have c:=eE p a b g (j+1) E E;rw[J6,KK,c];grind [JN,Lt]
def sL(r:AH×AK):Aq:=Af #[Ab Al r.1,Ah r.2]
theorem eF(W:X)(n:I)(d:bs[p]?=H ch)(hb:K bs<=281474976710656)(b:n<=K bs)(c:p<n):Ar As 163 #[Ae ⟨Aw bs⟩,C Y p,C Y n] W λe a=>e=Ak (sL<|ML bs n p ch)/\a=W:=by
 have h:=Xt (s:=⟨Aw bs⟩) (w:=W) b c<|CE hb B8;have e:Hx (FG ⟨Aw bs⟩ p n)=ML bs n p ch:=by grind [FG,Hx,sK,ML,eE]
 rw[e]at h;exact h
def Ha(x:AH):A1 :=
 if x<128 then[AW x]else if x<=255 then 204::CJ x 1 else if x<=65535 then 205::CJ x 2 else if x<=4294967295 then 206::CJ x 4 else 207::CJ x 8
def Hy(z:AI):A1 :=
 if -32<=z then[AW (z%256).toNat]else if -128<=z then 208::CJ (z%18446744073709551616).toNat 1 else if -32768<=z then 209::CJ (z%18446744073709551616).toNat 2 else if -2147483648<=z then 210::CJ (z%18446744073709551616).toNat 4 else 211::CJ (z%18446744073709551616).toNat 8
def Dd(s x:AH):A1 :=
 if x<24 then[AW<|32*s+x]else if x<=255 then AW (32*s+24)::CJ x 1 else if x<=65535 then AW (32*s+25)::CJ x 2 else if x<=4294967295 then AW (32*s+26)::CJ x 4 else AW (32*s+27)::CJ x 8
theorem TN(h:x<256):CP (AW x)=C Am (x:J):=kfb
def EP(x:AH):A1:=if x<32 then[AW<|160+x]else if x<=255 then 217::CJ x 1 else if x<=65535 then 218::CJ x 2 else 219::CJ x 4
def Gs(x:AH):A1:=if x<=255 then 196::CJ x 1 else if x<=65535 then 197::CJ x 2 else 198::CJ x 4
def KL(x:AH):A1:=if x<16 then[AW<|144+x]else if x<=65535 then 220::CJ x 2 else 221::CJ x 4
def KN(x:AH):A1:=if x<16 then[AW<|128+x]else if x<=65535 then 222::CJ x 2 else 223::CJ x 4
def TO{a:A4}{c:I}{b:AU}(hb:base<=O (U W))(g:W.ownsRow base 5 1 (G a n c) (K bs)<|bs.map CP)(h:CP b=u)(e:W'.ownsRow base 5 1 v' (K bs+1)<|bs.map CP++[u])(d:(Az W<|Obj.cells #[u] 5).grownBy W'<|Ax<|Go.Value.slice a n c):Cn W' base v' (bs++[b])/\Below base W W':=by have f:=MF e h;obtain⟨j,i,rfl⟩:=ownsRow_succ e;refine⟨⟨f,?_,_,_,_,Z⟩,GX ((Cu base W).alloc hb _) (g.alloc _) d B7⟩;have:=d.size;simp at this;omega
def sM(l:A1):strCells ⟨Aw l⟩=l.map CP:=by unfold strCells;simp[CP]
theorem NS{l:A1}(h:Cn W base v bs)(c:W'.ownsRow base 5 1 v' (K bs+(⟨Aw l⟩:AT).size)<|bs.map CP++strCells ⟨Aw l⟩)(d:W.grownBy W'<|Ax v):Cn W' base v' (bs++l)/\Below base W W':=by obtain⟨f,b,_⟩:=h;have a:=GX (Cu base W) f d b;have i:(⟨Aw l⟩:AT).size=K l:=K9 ..;rw[i,sM]at c;refine⟨⟨B9,CE b a.size,?_⟩,a⟩;rcases c.2 with⟨e,_⟩|⟨g,j,k,e,_⟩<;>grind
def Ow(P:AH->Prop)(W:Ap)(base:AH)(v:Aq)(bs:A1):Prop:=Cn W base v bs/\∀e,P e->Ax v≠An e/\e<Au (Av W)
def Be(P:AH->Prop)(base:AH)(W W':Ap):Prop:=Below base W W'/\∀e,P e->W'.heap[e]?=W.heap[e]?
def Be.trans{A B C:X}(h:Be P base A B)(k:Be P base B C):Be P base A C:=⟨Cs h.1 k.1,λe a=>Ca (k.2 e a)<|h.2 e a⟩
def KO(P:AH->Prop)(W:Ap)(base:AH)(bs zs:A1)(e:Ending)(W':Ap):Prop:=∃a n c,e=Ak (Ac a n c)/\Go.RowKit.Hid (Ow P W' base (Ac a n c) (bs++zs)/\Be P base W W')
def Qj{f:FuncId}(h:Ar As f args W<|KO (λ_=>False) W base bs zs):Ar As f args W λe a=>∃c,e=Ak c/\Cn a base c (bs++zs)/\Below base W a:=Ce h λ_ _ ⟨_,_,_,d,b⟩=>⟨_,d,b.out.1.1,b.out.2.1⟩
def NT(h:Cn W base v bs):Ow (λ_=>False) W base v bs:=⟨h,λ_ h=>h.elim⟩
theorem sN(h:Ow P W base v bs)(a:A0 W V)(c:V.grownBy W'<|Ax v)(d:Cn W' base v' zs/\Below base W W')(i:Ax v'=Ax v\/Ax v'=H (O<|U V)):Ow P W' base v' zs/\Be P base W W':=by
 have j:=a.size;have k:=c.size;refine⟨⟨d.1,λe b=>?_⟩,d.2,λe b=>?_⟩<;>obtain⟨f,g⟩:=h.2 e b
 .grind
 exact Ca (c.block e E λx=>f x.symm)<|Co a e g
theorem EH{A:Act}{c:I}{a:A4}{x:Operand}(b:AU)(own:D<|Ow P W base (G a n c) bs)(v:CP b=C Am z)(h:∀g f e,D (Ow P e base (G (Aa g) (K bs+1) f) (bs++[b])/\Be P base W e)->wpList As ops Q rest (A.put o.dst<|G (Aa g) (K bs+1) f) e)(hl:K bs<=1000000008:=by omega)(m:o.guard=Ao:=by rfl)(q:o.op=.call {callee:=.builtin .append,args:=#[s,x],argTypes:=#[50,50]}:=by rfl)(t:A.eval s=G a n c:=by rfl)(hx:A.eval x=G (Aa<|O<|U W) 1 1:=by rfl):wpList As ops Q (o::rest) A<|Az W<|M #[C Am z] 5:=by obtain⟨F,p,w,y,B⟩:=DL Tryz.infoU8;obtain⟨d,r⟩:=own.out;refine wpList_append_own_at _ m s x 50 q base 5 F (C Am 0) 1 1 underlying50 p w y B Z B8 _ _ _ t (d.1.alloc _) ⟨O<|U W,0,Ao⟩ 1 1 [C Am z] hx Z (EU) (λu j=>by simp at j;subst j;rfl) Bc E (B0 d.2.1) λN e k i _ l=>?_;have L:=sN ⟨d,r⟩ Cm i (TO d.2.1 d.1 v k i) l;grind [D,ownsRow_succ]
theorem P8{a:A4}{c:I}{b:AU}{w:I}(d:D<|Ow P W base (G a n c) (bs++[b])/\Be P base W0 W)(j:D (zs=b::CJ x w))(r:w<=8:=by decide)(hl:K bs<=999999999:=by omega):Ar As 187 #[G a n c,C .u64 x,C Y w] W<|KO P W0 base bs zs:=by
 have h:D<|(bs++[b])++CJ x w=bs++zs:=by grind [D]
 have q:K (bs++[b])<=1000000000:=B7;clear j;generalize bs++[b]=bt at *;go_enter func187,ntmps187;go_wp2
 go_loopg[0,7] w (λg y z wr=>∃(e:A1) (a n c:_),y=G a n c/\z=C Y ((g:J)-1)/\g<=w/\K e<=1000000000+(w-g)/\D (Ow P wr base (G a n c) e)/\D (Be P base W0 wr)/\D (e++CJ x g=bs++zs))
 exact⟨bt,a,n,c,Z,Bb,Cr _,E,d.1,d.2,h⟩;clear d h;obtain⟨e,a,n,c,rfl,rfl,p,s,d,f,l⟩:=hrel;obtain _|k:=gk
 .go_wp2;go_ret;have k:e=bs++zs:=by grind [D,CJ]
  subst k;exact⟨_,_,_,Z,d,f⟩
 go_wp2_with(first
  |(at_builtin;refine EH _ d (qp) ?_;intro o m t i))
 go_roundg k
 .refine⟨e++[AW<|x/2^(8*k)%256],_,_,_,Z,Bb,E,B9,i.1,f.trans i.2,?_⟩;grind [CJ]
 omega
def P9{a:A4}{c:I}{b:AU}(d:D<|zs=[b])(h:D<|Ow P W' base (G a n c) (bs++[b])/\Be P base W W'):KO P W base bs zs (Ak<|G a n c) W':=⟨_,_,_,rfl,by rw[AE d];exact h⟩
def sO:∀(s:Fin 8) (x:Fin 32),bits .or Am ((s.val:J)*32) (x.val:J)=((32*s.val+x.val:I):J):=B8
theorem RR{s:I}(x:I)(a:s<8)(hx:x<32):CP (AW<|32*s+x)=C Am (bits .or Am ((s:J)*32) (x:J)):=by rw[TN E];have:=sO ⟨s,a⟩ ⟨x,hx⟩;grind
def sP:∀(s:Fin 3) (x:Fin 32),x.val<16\/s.val=2->bits .or Am (128+16*s.val:I) (x.val:J)=((128+16*s.val+x.val:I):J):=B8
theorem Qk(s:I)(a:s<3)(hx:x<16\/s=2/\x<32):CP (AW<|128+16*s+x)=C Am (bits .or Am (128+16*s:I) (x:J))/\CP (AW<|128+16*s+x)=C Am ((128+16*s:I)+(x:J)):=by rw[TN E];have:=sP ⟨s,a⟩ ⟨x,E⟩ (by simp only[];omega);grind
theorem sQ(hx:x<18446744073709551616)(hl:K bs<=999999999)(h:Ow P W base v bs):Ar As 158 #[v,C .u64 x] W<|KO P W base bs<|Ha x:=by
 obtain⟨a,n,c,rfl⟩:=h.1.2.2;have d:=T h;clear h;have l:(x<128/\D (Ha x=[AW x]))\/(¬x<128/\x<=255/\D (Ha x=204::CJ x 1))\/(¬x<128/\¬x<=255/\x<=65535/\D (Ha x=205::CJ x 2))\/(¬x<128/\¬x<=255/\¬x<=65535/\x<=4294967295/\D (Ha x=206::CJ x 4))\/(¬x<128/\¬x<=255/\¬x<=65535/\¬x<=4294967295/\D (Ha x=207::CJ x 8)):=by grind (splits:=25) [Ha,D]
 rcases l with⟨f,b⟩|⟨f,g,b⟩|⟨f,g,c2,b⟩|⟨f,g,c2,k,b⟩|⟨f,g,c2,k,b⟩
 all_goals
  go_enter func158,ntmps158
  go_wp2_with(first
   |(at_builtin;(first|refine EH _ d (TN E) ?_|refine EH 204 d rfl ?_|refine EH 205 d rfl ?_|refine EH 206 d rfl ?_|refine EH 207 d rfl ?_);intro q p s i)
   |(go_at_call 187;refine Ce (P8 i b) ?_;rintro e t ⟨m,r,o,rfl,j⟩))
  go_ret
  first|exact⟨_,_,_,rfl,j⟩|exact P9 b i
theorem sR{a:A4}{c:I}{b:AU}{w:I}(d:D<|Ow P W base (G a n c) (bs++[b])/\Be P base W0 W)(f:D (zs=b::CJ (z%18446744073709551616).toNat w))(g:w<=8:=by decide)(hl:K bs<=999999999:=by omega):Ar As 187 #[G a n c,C .u64 (IntKind.u64.wrap z),C Y w] W<|KO P W0 base bs zs:=by have e:IntKind.u64.wrap z=(((z%18446744073709551616).toNat:I):J):=Bj;grind [P8]
theorem sS(r : -9223372036854775808<=z)(s:z<0)(hl:K bs<=999999999)(h:Ow P W base v bs):Ar As 157 #[v,C Y z] W<|KO P W base bs<|Hy z:=by
 obtain⟨a,n,c,rfl⟩:=h.1.2.2;have d:=T h;clear h;have l:(-32<=z/\D (Hy z=[AW (z%256).toNat]))\/(¬-32<=z /\ -128<=z/\D (Hy z=208::CJ (z%18446744073709551616).toNat 1))\/(¬-32<=z/\¬-128<=z /\ -32768<=z/\D (Hy z=209::CJ (z%18446744073709551616).toNat 2))\/(¬-32<=z/\¬-128<=z/\¬-32768<=z /\ -2147483648<=z/\D (Hy z=210::CJ (z%18446744073709551616).toNat 4))\/(¬-32<=z/\¬-128<=z/\¬-32768<=z/\¬-2147483648<=z/\D (Hy z=211::CJ (z%18446744073709551616).toNat 8)):=by grind (splits:=25) [Hy,D]
 rcases l with⟨f,b⟩|⟨f,g,b⟩|⟨f,g,c2,b⟩|⟨f,g,c2,k,b⟩|⟨f,g,c2,k,b⟩
 all_goals
  go_enter func157,ntmps157
  go_wp2_with(first
   |(at_builtin;(first|refine EH _ d (Ca (TN (x:=(z%256).toNat) E)<|by congr 1;omega) ?_|refine EH 208 d rfl ?_|refine EH 209 d rfl ?_|refine EH 210 d rfl ?_|refine EH 211 d rfl ?_);intro q p u i)
   |(go_at_call 187;refine Ce (sR i b) ?_;rintro e w ⟨m,t,o,rfl,j⟩))
  go_ret
  first|exact⟨_,_,_,rfl,j⟩|exact P9 b i
theorem eG{s:I}(f:s<8)(hx:x<18446744073709551616)(hl:K bs<=999999999)(h:Ow P W base v bs):Ar As 155 #[v,C Am s,C .u64 x] W<|KO P W base bs<|Dd s x:=by
 obtain⟨a,n,c,rfl⟩:=h.1.2.2;have d:=T h;clear h;have m:(x<24/\D (Dd s x=[AW<|32*s+x]))\/(¬x<24/\x<=255/\D (Dd s x=AW (32*s+24)::CJ x 1))\/(¬x<24/\¬x<=255/\x<=65535/\D (Dd s x=AW (32*s+25)::CJ x 2))\/(¬x<24/\¬x<=255/\¬x<=65535/\x<=4294967295/\D (Dd s x=AW (32*s+26)::CJ x 4))\/(¬x<24/\¬x<=255/\¬x<=65535/\¬x<=4294967295/\D (Dd s x=AW (32*s+27)::CJ x 8)):=by grind (splits:=25) [Dd,D]
 rcases m with⟨g,b⟩|⟨g,i,b⟩|⟨g,i,c2,b⟩|⟨g,i,c2,l,b⟩|⟨g,i,c2,l,b⟩
 all_goals
  go_enter func155,ntmps155
  go_wp2_with(first
   |(at_builtin;(first|refine EH _ d (RR x f E) ?_|refine EH _ d (RR 24 f E) ?_|refine EH _ d (RR 25 f E) ?_|refine EH _ d (RR 26 f E) ?_|refine EH _ d (RR 27 f E) ?_);intro r q u j)
   |(go_at_call 187;refine Ce (P8 j b) ?_;rintro e w ⟨o,t,p,rfl,k⟩))
  go_ret
  first|exact⟨_,_,_,rfl,k⟩|exact P9 b j
theorem sU(x:I)(hx:x<4294967296)(hl:K bs<=999999999)(h:Ow P W base v bs):Ar As 188 #[v,C .u64 x] W<|KO P W base bs<|EP x:=by
 obtain⟨a,n,c,rfl⟩:=h.1.2.2;have b:=T h;clear h;have k:(x<32/\D (EP x=[AW<|160+x]))\/(¬x<32/\x<=255/\D (EP x=217::CJ x 1))\/(¬x<32/\¬x<=255/\x<=65535/\D (EP x=218::CJ x 2))\/(¬x<32/\¬x<=255/\¬x<=65535/\D (EP x=219::CJ x 4)):=by grind (splits:=25) [EP,D]
 rcases k with⟨f,d⟩|⟨f,i,d⟩|⟨f,i,c2,d⟩|⟨f,i,c2,d⟩
 all_goals
  go_enter func188,ntmps188
  go_wp2_with(first
   |(at_builtin;(first|refine EH (AW<|160+x) b (Qk 2 B8 E).1 ?_|refine EH (AW<|160+x) b (Qk 2 B8 E).2 ?_|refine EH 217 b rfl ?_|refine EH 218 b rfl ?_|refine EH 219 b rfl ?_);intro p o r g)
   |(go_at_call 187;refine Ce (P8 g d) ?_;rintro e s ⟨l,q,m,rfl,j⟩))
  go_ret
  first|exact⟨_,_,_,rfl,j⟩|exact P9 d g
theorem sV(hx:x<4294967296)(hl:K bs<=999999999)(h:Ow P W base v bs):Ar As 160 #[v,C .u64 x] W<|KO P W base bs<|Gs x:=by
 obtain⟨a,n,c,rfl⟩:=h.1.2.2;have d:=T h;clear h;have k:(x<=255/\D (Gs x=196::CJ x 1))\/(¬x<=255/\x<=65535/\D (Gs x=197::CJ x 2))\/(¬x<=255/\¬x<=65535/\D (Gs x=198::CJ x 4)):=by grind [D,Gs]
 rcases k with⟨g,b⟩|⟨g,j,b⟩|⟨g,j,b⟩
 all_goals
  go_enter func160,ntmps160
  go_wp2_with(first
   |(at_builtin;(first|refine EH 196 d rfl ?_|refine EH 197 d rfl ?_|refine EH 198 d rfl ?_);intro p o r f)
   |(go_at_call 187;refine Ce (P8 f b) ?_;rintro e s ⟨l,q,m,rfl,i⟩))
  go_ret
  first|exact⟨_,_,_,rfl,i⟩|exact P9 b f
theorem sW(hx:x<4294967296)(hl:K bs<=999999999)(h:Ow P W base v bs):Ar As 161 #[v,C Am 144,C Am 220,C .u64 x] W<|KO P W base bs<|KL x:=by
 obtain⟨a,n,c,rfl⟩:=h.1.2.2;have b:=T h;clear h;have k:(x<16/\D (KL x=[AW<|144+x]))\/(¬x<16/\x<=65535/\D (KL x=220::CJ x 2))\/(¬x<16/\¬x<=65535/\D (KL x=221::CJ x 4)):=by grind [D,KL]
 rcases k with⟨g,d⟩|⟨g,j,d⟩|⟨g,j,d⟩
 all_goals
  go_enter func161,ntmps161
  go_wp2_with(first
   |(at_builtin;(first|refine EH (AW<|144+x) b (Qk 1 B8 E).1 ?_|refine EH (AW<|144+x) b (Qk 1 B8 E).2 ?_|refine EH 220 b rfl ?_|refine EH 221 b rfl ?_);intro p o r f)
   |(go_at_call 187;refine Ce (P8 f d) ?_;rintro e s ⟨l,q,m,rfl,i⟩))
  go_ret
  first|exact⟨_,_,_,rfl,i⟩|exact P9 d f
theorem sX(hx:x<4294967296)(hl:K bs<=999999999)(h:Ow P W base v bs):Ar As 161 #[v,C Am 128,C Am 222,C .u64 x] W<|KO P W base bs<|KN x:=by
 obtain⟨a,n,c,rfl⟩:=h.1.2.2;have b:=T h;clear h;have k:(x<16/\D (KN x=[AW<|128+x]))\/(¬x<16/\x<=65535/\D (KN x=222::CJ x 2))\/(¬x<16/\¬x<=65535/\D (KN x=223::CJ x 4)):=by grind [D,KN]
 rcases k with⟨g,d⟩|⟨g,j,d⟩|⟨g,j,d⟩
 all_goals
  go_enter func161,ntmps161
  go_wp2_with(first
   |(at_builtin;(first|refine EH (AW<|128+x) b (Qk 0 B8 E).1 ?_|refine EH (AW<|128+x) b (Qk 0 B8 E).2 ?_|refine EH 222 b rfl ?_|refine EH 223 b rfl ?_);intro p o r f)
   |(go_at_call 187;refine Ce (P8 f d) ?_;rintro e s ⟨l,q,m,rfl,i⟩))
  go_ret
  first|exact⟨_,_,_,rfl,i⟩|exact P9 d f
theorem Im:∀k,K (CJ x k)=k
 |0=>rfl
 |k+1=>by rw[CJ,FN,Im k]
theorem eH{l:A1}(hl:K bs<=999999999)(y:K l<=999999999)(h:Ow P W base v bs):Ar As 156 #[v,Ae ⟨Aw l⟩] W λe g=>∃f,e=Ak f/\Cn g base f (bs++(Dd 3 (K l)++l))/\Be P base W g:=by
 obtain⟨t,o,q,r,s⟩:=DL Tryz.infoU8;have m:Ar As 155 #[v,C Am 3,C .u64<|K l] W<|KO P W base bs<|Dd 3<|K l:=eG B8 E hl h;have w:K (Dd 3<|K l)<=9:=kfU;have A:(⟨Aw l⟩:AT).size=K l:=K9 ..;obtain⟨a,n,c,rfl⟩:=h.1.2.2;go_enter func156,ntmps156
 go_wp2_with(first
  |(go_at_call 155;refine Ce m ?_;rintro e F ⟨u,B,c2,rfl,b⟩)
  |(at_builtin;refine wpList_append_own_string _ Z _ _ 50 9 Z base 5 t underlying50 underlying9 o q r s _ _ _ Z b.1.1.1 ⟨Aw l⟩ Z BC B9 b.1.1.2.1 ?_;intro f L p j z;have d:=T<|NS b.1.1 p j;have k:=T λe i=>j.block e (b.1.2 e i).2 λx=>(b.1.2 e i).1 x.symm))
 go_ret;rw[La]at d;exact⟨_,Z,d.1,b.2.trans ⟨d.2,k⟩⟩
theorem eI{l:A1}(hl:K bs<=999999999)(y:K l<=999999999)(h:Ow P W base v bs):Ar As 159 #[v,Ae ⟨Aw l⟩] W λe g=>∃f,e=Ak f/\Cn g base f (bs++(EP (K l)++l))/\Be P base W g:=by
 obtain⟨t,o,q,r,s⟩:=DL Tryz.infoU8;have m:=sU (K l) E hl h;have w:K (EP<|K l)<=9:=by grind [EP,Im]
 have A:(⟨Aw l⟩:AT).size=K l:=K9 ..;obtain⟨a,n,c,rfl⟩:=h.1.2.2;go_enter func159,ntmps159
 go_wp2_with(first
  |(go_at_call 188;refine Ce m ?_;rintro e F ⟨u,B,c2,rfl,b⟩)
  |(at_builtin;refine wpList_append_own_string _ Z _ _ 50 9 Z base 5 t underlying50 underlying9 o q r s _ _ _ Z b.1.1.1 ⟨Aw l⟩ Z BC B9 b.1.1.2.1 ?_;intro f L p j z;have d:=T<|NS b.1.1 p j;have k:=T λe i=>j.block e (b.1.2 e i).2 λx=>(b.1.2 e i).1 x.symm))
 go_ret;rw[La]at d;exact⟨_,Z,d.1,b.2.trans ⟨d.2,k⟩⟩
def sY(x:I)(hx:x<18446744073709551616)(hl:K bs<=999999999)(h:Cn W base v bs):Ar As 158 #[v,C .u64 x] W λe a=>∃b,e=Ak b/\Cn a base b (bs++(Ha x))/\Below base W a:=Qj<|sQ hx hl<|NT h
def sZ(c : -9223372036854775808<=z)(d:z<0)(hl:K bs<=999999999)(h:Cn W base v bs):Ar As 157 #[v,C Y z] W λe a=>∃b,e=Ak b/\Cn a base b (bs++(Hy z))/\Below base W a:=Qj<|sS c d hl<|NT h
def NU(s x:I)(c:s<8)(hx:x<18446744073709551616)(hl:K bs<=999999999)(h:Cn W base v bs):Ar As 155 #[v,C Am s,C .u64 x] W λe a=>∃b,e=Ak b/\Cn a base b (bs++(Dd s x))/\Below base W a:=Qj<|eG c hx hl<|NT h
def t8(x:I)(hx:x<4294967296)(hl:K bs<=999999999)(h:Cn W base v bs):Ar As 160 #[v,C .u64 x] W λe a=>∃b,e=Ak b/\Cn a base b (bs++(Gs x))/\Below base W a:=Qj<|sV hx hl<|NT h
def t9(x:I)(hx:x<4294967296)(hl:K bs<=999999999)(h:Cn W base v bs):Ar As 161 #[v,C Am 144,C Am 220,C .u64 x] W λe a=>∃b,e=Ak b/\Cn a base b (bs++(KL x))/\Below base W a:=Qj<|sW hx hl<|NT h
def td(x:I)(hx:x<4294967296)(hl:K bs<=999999999)(h:Cn W base v bs):Ar As 161 #[v,C Am 128,C Am 222,C .u64 x] W λe a=>∃b,e=Ak b/\Cn a base b (bs++(KN x))/\Below base W a:=Qj<|sX hx hl<|NT h
def te{l:A1}(hl:K bs<=999999999)(f:K l<=999999999)(h:Cn W base v bs):Ar As 156 #[v,Ae ⟨Aw l⟩] W λe a=>∃b,e=Ak b/\Cn a base b (bs++(Dd 3 (K l)++l))/\Below base W a:=Ce (eH hl f<|NT h) λ_ _ ⟨v,d,g,c⟩=>⟨v,d,g,c.1⟩
def tj{l:A1}(hl:K bs<=999999999)(f:K l<=999999999)(h:Cn W base v bs):Ar As 159 #[v,Ae ⟨Aw l⟩] W λe a=>∃b,e=Ak b/\Cn a base b (bs++(EP (K l)++l))/\Below base W a:=Ce (eI hl f<|NT h) λ_ _ ⟨v,d,g,c⟩=>⟨v,d,g,c.1⟩
def MM(h:Cn W b v bs)(f:A0 W W'):Cn W' b v bs:=by
 obtain⟨⟨k,e⟩,l,m⟩:=h;refine⟨⟨k,?_⟩,CE l f.size,m⟩;rcases e with e|⟨g,i,j,a,b,c,d⟩
 .exact AF e
 exact AG ⟨g,i,j,a,b,Ca (Co f _<|Cd c) c,d⟩
structure JO(W:Ap)(A:A3)(v:Aq)(acc:A1)(V:Ap):Prop where
 h:V.heap[Au (Av W)]?=An (.cells A 115)
 a:V.heap[Au (Av W)+1]?=An (.cells (Cf (0,0)) 103)
 a0:Cn V (Au (Av W)+2) v acc
 ac:A0 W V
theorem JO.next(h:JO W A v acc V)(hb:A0 V V'):JO W A v acc V' :=
 ⟨Ca (Co hb _<|Cd h.h) h.h,Ca (Co hb _<|Cd h.a) h.a,MM h.a0 hb,Cs h.ac<|CG hb h.ac.size⟩
theorem JO.drew(h:JO W A v acc V):JO W A v acc V.drew:=⟨h.h,h.a,h.a0,h.ac.drew⟩
def JO.a2{acc':A1}(h:JO W A v acc V)(a:V.grownBy V'<|Ax v)(d:Cn V' (O (U W)+2) v' acc'):JO W A v' acc' V':=by
 have b:∀k,k<O (U W)+2->H k≠Ax v:=λk f e=>AY<|DK h.a0.1 e.symm;exact⟨Ca (a.block _ (Cd h.h)<|b _ E) h.h,Ca (a.block _ (Cd h.a)<|b _ E) h.a,d,
  Cs h.ac ⟨a.os,a.tape,a.output,a.size,λi c=>a.block i (CQ c h.ac.size)<|b _ E⟩⟩
def KP:A0 V<|(Az V<|M (Cf (0,0)) 103).setRow (O<|U V)<|Cf f:=Dq Cm<|Cr _
def JO.ai(h:JO W A v acc V)(g:J×J):(AD V (O (U W)+1)<|Cf g).heap[O (U W)+1]?=H (M (Cf g) 103)/\A0 W (AD V (O (U W)+1)<|Cf g) :=
 ⟨CR _ _ _ _ _ _ h.a,Dq h.ac E⟩
def tm:JO W A (G Ao 0 0) [] (Az (Az W<|M A 115)<|M (Cf (0,0)) 103) :=
 ⟨(OW).h,(OW).a,⟨Fi _ _ _ _,Ba,Ao,0,0,rfl⟩,(OW).ac⟩
def NV(r:A5 A1)(e:Ending):Prop:=match r with
 |.ok (x,q)=>e=Ak (Af #[Ae ⟨Aw x⟩,Ab Al q,.agg<|Cf (0,0)])
 |.error f=>e=Ak (Af #[Ae ⟨#[]⟩,Ab Al 0,.agg<|Cf f])
def eJ(hl:Lm bs l lim)(e:k<K bs)(f:(k:J)<lim):min (K bs:J) l=min (K bs:J) lim:=by
 have a:=hl (K bs-1) E;by_cases b:l<K bs
 .have c:=hl l.toNat E;have d:=hl (l.toNat-1) E;omega
 omega
theorem Xu(bs:A1)(p j:I):(⟨Aw bs⟩:AT).extract p (p+j)=⟨Aw<|DB bs p j⟩:=by apply ByteArray.ext;grind [Lib.extract_data,DB]
theorem Xv{l:A1}(h:Cn W b v l)(hl:0<K l):∃g a,v=G (Aa g) (K l) a:=by rcases h.1.2 with⟨_,d⟩|⟨g,a,c,e,_⟩<;>grind
def tn{l:A1}(h:Cn W b (G (Aa g) (K l) cap) l):∀j u,(l.map CP)[j]?=H u->AC W ((⟨g,0,Ao⟩:Addr).add j)=H u:=h.1.cells (g:=g) rfl
theorem tp{l:A1}(h:Cn W base v bs)(b:W'.ownsRow base 5 1 v' (K bs+K l)<|bs.map CP++l.map CP)(a:W.grownBy W'<|Ax v):Cn W' base v'<|bs++l:=by refine⟨B9,CE h.2.1 a.size,?_⟩;rcases b.2 with⟨e,_⟩|⟨g,c,d,e,_⟩<;>grind
def tq{l:A1}:∀u∈l.map CP,u.oneCell'=AP:=λu a=>by obtain⟨b,_,rfl⟩:=Kx.1 a;rfl
theorem tr(r:J):0<K (Ez r):=kfd
theorem eK{r:J}(hi:Cx bs lim p)(h:Ia bs lim p=.ok (r,q)):Cx bs lim q/\p<q:=by
 unfold Ia at h;rcases hc:bs[p]? with _|c
 .rw[hc]at h;cases h
 rw[hc]at h;simp only[]at h;by_cases b:(p:J)=lim
 .grind
 rw[Cl b]at h;have e:=Eu hi hc b
 repeat' split at h
 all_goals first
  |(cases h;done)
  |(injection h with h;grind)
  |skip
 rename_i hu;unfold IL at h;rcases h1:Ef bs lim 4 (p+1) 0 with f|x
 .rw[h1]at h;cases h
 obtain⟨x,q1⟩:=x;obtain⟨l,g,_⟩:=RN 4 _ 0 x q1 e h1;rw[h1]at h;simp only[]at h;split at h
 .cases h
 split at h
 .rcases h2:Dt bs lim [92,117] q1 with f|k
  .rw[h2]at h;cases h
  obtain⟨u,a⟩:=k;obtain⟨d,i⟩:=RO _ q1 a g h2;have m:a=q1+2:=d;rw[h2]at h;simp only[]at h;rcases h3:Ef bs lim 4 a 0 with f|y
  .rw[h3]at h;cases h
  obtain⟨y,j⟩:=y;obtain⟨n,o,_⟩:=RN 4 a 0 y j i h3;grind
 grind
theorem eM(r:J):K (Ez r)<=4:=kfd
def eN(W:X)(fm d:J)(hl:Lm bs l lim)(hi:Cx bs lim<|i+1)(hb:K bs<=281474976710656)(bq:lim<=200000000):Ar As 128 #[.agg<|Ct bs fm d l,C Y i] W λe W'=>NV (DA bs lim (K bs+1-(i+1)) (i+1) [] 0) e/\A0 W W':=by
 obtain⟨i0,a8,bd,be,bf⟩:=DL Tryz.infoU8;obtain⟨a2,y⟩:=CC<|DA bs lim (K bs+1-(i+1)) (i+1) [] 0;rw[AE y];have b2:=hi.1;have b9:=NJ bs;have a:=T hl;have B:=T hi;have cH:=NL bs fm d l;have cB:=OX bs fm d l;have cE:∀V (k:I),Cx bs lim k->Ar _ _ #[Ag #[.string _,.int _ fm,.int _ d,.int _ l],.int _ k] V _:=λV k hk=>su V fm d hl hk hb;unfold Ct;go_enter func128,ntmps128;go_wp2
 go_loopg[1,7] (K bs+1-(i+1)) (λg bz bx wr=>∃(k:I) (v:A1) (ak:A4) (ao al:I),bz=C Y k/\bx=G ak ao al/\D (K bs+1<=k+g)/\D (K v<=4*k)/\D (JO W (Ct bs fm d l) (G ak ao al) v wr)/\D (Cx bs lim k)/\D (DA bs lim g k v (K v)=a2))
 exact⟨i+1,[],Ao,0,0,Z,Z,Bp,Ex _,tm,B,y⟩;obtain⟨k,v,ak,ao,al,rfl,rfl,hg,ha,n,B,y⟩:=hrel;have bp:=B.1;obtain⟨g,rfl⟩:∃g,gk=g+1:=⟨gk-1,AY<|AE hg⟩
 obtain⟨u,w,c2,A⟩:=Eb n.h;have P:=λV=>cH V k;have ah:=λV=>cB V k 9;have o:=AE y;rw[DA]at o;by_cases am:a2=.error (D5 bs l k 9)/\(CN bs l k=AQ\/CN bs l k=AP/\∃p,bs[k]?=H p/\p.toNat<32)
 .obtain⟨hE,hw⟩:=am;have b:=T hE;generalize D5 bs l k 9=F at *;generalize CN bs l k=hh at *;rcases hw with rfl|⟨rfl,p,m,x⟩
  all_goals
   try have bo:=λV=>Et m V
   try have ba:=Dk m
   try have bk:(p.toNat:J)<32:=E
   try clear m x
   go_wp2_with(first
    |(go_at_call 116;apply Ec (P _) n.next λ_ h=>h.h;intro w2 t u w c2 A)
    |(go_at_call 84;apply Ec (ah _) t.next λ_ h=>h.h;intro Q z u w c2 A)
    |(refine Fb 6 29 Z Z (O (U W)+1) F Z Z ?_ ?_;exact z.a))
   have L:=z.ai F;refine Ik results128 L (.string _) (.int _ 0) Z Z Z Z ⟨?_,L.2⟩;rw[AE b];rfl
 obtain⟨p,m,s,x⟩:∃p,bs[k]?=H p/\¬k=lim/\¬p.toNat<32:=by
  rcases RA (bs:=bs) (lim:=lim) k with(m|⟨p,m,s⟩)|⟨p,m,s⟩<;>rw[m]at o<;>simp only[]at o
  .exact absurd ⟨by rw[<-o,IN bp m],AF<|Id m⟩ am
  .rw[Cp s]at o;exact absurd ⟨by rw[<-o,Gl a m s],AF<|Hs a m s⟩ am
  refine⟨p,m,s,λx=>am ⟨?_,AG ⟨J5 a B m s,p,m,x⟩⟩⟩;rw[Cl s,Cl E,Cl E,Cp x]at o;rw[<-o,Ie a B m s]
 rw[m]at o;simp only[]at o;have bo:=λV=>Et m V;have ba:=Dk m;rw[Cl s]at o;rw[J5 a B m s]at P;have bk:_root_.Decidable.decide ((p.toNat:J)<32)=AQ:=B7;have ca:32<=(p.toNat:J):=E;by_cases f:p.toNat=34
 .rw[Cp ⟨f,trivial⟩]at o;have b:=T o.symm;have bu:((p.toNat:J)==34)=AP:=kf9;have bn:∀V,JO W (Ct bs fm d l) _ v V->(convert 50 9<|G ak ao al).run _ V=.ok _ V:=λV h=>Rt h.a0
  go_wp2_with(first
   |(go_at_call 116;apply Ec (P _) n.next λ_ h=>h.h;intro w2 t u w c2 A;have b1:=bn _ t)
   |(refine Fb 6 73 Z Z (O (U W)+1) (0,0) Z Z ?_ ?_;exact t.a))
  have L:=t.ai (0,0);refine Ik results128 L (.string _) (.int _ _) Z Z Z Z ⟨?_,L.2⟩;rw[AE b];rfl
 rw[Cl λh=>f h.1]at o;have bu:((p.toNat:J)==34)=AQ:=B7;by_cases aa:p.toNat=92
 .rw[Cp ⟨aa,trivial⟩]at o;have bv:((p.toNat:J)==92)=AP:=by rw[aa];rfl
  have ad:=λV=>cE V _<|Eu B m s;rw[show(k+1:I)=(k:J)+1 by omega]at ad;have a7:=λr q h=>eK (r:=r) (q:=q) (Eu B m s) h;have bm:=λae=>Xe bs lim (k+1) ae;rcases hes:Ia bs lim (k+1)with ae|bw
  .rw[hes]at o ad;have b:=T o.symm;have b6:(ae.1==0)=AQ:=B2<|Xe bs lim _ _ _ hes
   go_wp2_with(first
    |(go_at_call 116;apply Ec (P _) n.next λ_ h=>h.h;intro w2 t u w c2 A)
    |(go_at_call 162;apply (ad _).mono;rintro e Q ⟨he,au⟩;obtain rfl:=he;have z:=T<|t.next au)
    |(refine Fb 10 83 Z Z (O<|U Q) (ae) Z Z ?_ ?_;exact Cj Q;apply FA;intro V4 R;have N:=T<|R▸z.next (KP);have HM:=T<|R▸CR _ _ _ _ _ _ (Cj _);have a1:=T<|Cd z.a;generalize O (U Q)=M at *;have u0:=Cc HM 0;unfold Cf at u0))
   apply Dl (S:=λa3=>A7 a3 M _ 103) (HM) B6;intro hS;refine Cb 1 4 (Ae ⟨#[]⟩) hS <| Cb 2 5 (C Y 0) hS <| Ch 0 87 _ Z (λa3 hZ=>yF 10 hZ Z Z) hS <| CH 3 λb0 hK=>?_;rw[Cp B6];refine Jf 103 _ _ Z (O (U W)+1) (Cf ae) Z Z 103 (Cf (0,0)) N.drew.a (KG) Z (Qd) ?_;refine hK.out _ _ (sx (AY<|AE a1) hS) λ_=>?_;refine CK ?_;go_simp;go_wp2;have L:=N.drew.ai<|ae;refine Ik results128 L (.string _) (.int _ 0) Z Z Z Z ⟨?_,L.2⟩;rw[AE b];rfl
  obtain⟨r,q⟩:=bw;rw[hes]at o ad;have HN:=T o;obtain⟨bc,bb⟩:=a7 r q hes;have bj:=T bc;have a0:=T bb;have b8:=eM r;have bt:=tr r;have bl:K v<=800000000:=B3 (AE ha) B.2;clear o m cB cH cE y s x f aa a7 bm hes bc bb
  go_wp2_with(first
   |(go_at_call 116;apply Ec (P _) n.next λ_ h=>h.h;clear P u w c2 A;intro w2 t u w c2 A)
   |(go_at_call 162;apply (ad _).mono;clear ad u w c2 A;rintro e Q ⟨he,au⟩;obtain⟨cb,rfl,hO⟩:=he;obtain⟨vg,vc,rfl⟩:=Xv hO bt;have bh:=T hO;clear hO;have z:=T<|t.next au)
   |(refine Fb 10 83 Z Z (O<|U Q) (0,0) Z Z ?_ ?_;exact Cj Q;apply FA;intro V4 R;have N:=T<|R▸z.next (KP);have HM:=T<|R▸CR _ _ _ _ _ _ (Cj _);have bi:=T<|R▸MM bh (KP);have a1:=T<|Cd z.a;clear R;generalize O (U Q)=M at *;have u0:=Cc HM 0;unfold Cf at u0)
   |(at_builtin;(apply K8 _ Z _ _ 50 Z _ 5 i0 _ 1 1 underlying50 a8 bd be bf Z B8 _ _ _ Z N.a0.1 _ _ vc _ Z Ba (tn bi) (tq) Bc E N.a0.2.1);intro v' w5 ag ab ay;clear ay;have c:=tp N.a0 ag ab;obtain⟨a5,n5,c5,rfl⟩:=c.2.2;have aq:=T<|N.a2 ab c;clear ag ab c))
  go_roundg g;exact⟨q,_,a5,n5,c5,Z,Z,by show _<=_;have:=AE hg;have:=AE a0;omega,by show _<=_;rw[Dj];have:=AE ha;have:=AE a0;omega,aq,bj,HN⟩;omega
 rw[Cl λh=>aa h.1]at o;have bv:((p.toNat:J)==92)=AQ:=B7;have ax:k<lim:=AY B.2;have br:=eJ a ba ax;obtain⟨nn,an⟩:∃nn:I,nn=min (K bs:J) lim:=⟨(min (K bs:J) lim).toNat,E⟩
 have af:=sB a an B m s f aa x v hg.out;rw[AE y]at af;rw[<-an]at br;have cG:=λV=>eF V nn m hb E E;have b7:nn<=K bs:=E;have a4:=cB;obtain⟨j,ar,av⟩:∃j ar,ML bs nn k p=(j,ar):=⟨_,_,rfl⟩
 rw[av]at af cG;cases ar
 .simp only[]at af;obtain⟨ac,aj⟩:=af;have b:=T aj;have ah:=λV=>cB V (k+j) 9;rw[show(k+j:I)=k+(j:J) by omega]at ah;have a9:=ac.1;generalize D5 bs l (k+j) 9=xx at *;clear o m cB a4 cH cE y s x f aa an av ac aj ax ha;have ai:∀V,Ar _ _ _ V λe W'=>e=Ak (Af #[.int _ j,Ah AQ])/\W'=V:=cG;clear cG
  go_wp2_with(first
   |(go_at_call 116;apply Ec (P _) n.next λ_ h=>h.h;clear P u w c2 A;intro w2 t u w c2 A)
   |(go_at_call 163;apply (ai _).mono;clear ai;rintro e Q ⟨rfl,az⟩;subst az)
   |(go_at_call 84;apply Ec (ah _) t.next λ_ h=>h.h;clear ah u w c2 A;intro w4 N u w c2 A)
   |(refine Fb 6 54 Z Z (O (U W)+1) (xx) Z Z ?_ ?_;exact N.a))
  have L:=N.ai<|xx;refine Ik results128 L (.string _) (.int _ 0) Z Z Z Z ⟨?_,L.2⟩;rw[AE b];rfl
 simp only[]at af;obtain⟨b3,ac,b4,aj⟩:=af;have HN:=T aj.symm;have bg:=T ac;have a9:=ac.1;have b5:=Int.le_trans ac.2 bq;have aw:=TM a9;have ap:D<|(⟨Aw bs⟩:AT).extract (k:J).toNat (k+(j:J)).toNat=⟨Aw<|DB bs k j⟩:=by show _=_;rw[show(k:J).toNat=k by omega,show(k+(j:J)).toNat=k+j by omega];exact Xu bs k j
 have a6:=NJ<|DB bs k j;have bl:K v<=800000000:=B3 (AE ha) B.2;clear o m cB a4 cH cE y s x f aa an av ac aj ax;have ai:∀V,Ar _ _ _ V λe W'=>e=Ak (Af #[.int _ j,Ah AP])/\W'=V:=cG;clear cG
 go_wp2_with(first
  |(go_at_call 116;apply Ec (P _) n.next λ_ h=>h.h;clear P u w c2 A;intro w2 t u w c2 A)
  |(go_at_call 163;apply (ai _).mono;clear ai;rintro e Q ⟨rfl,az⟩;subst az)
  |(at_builtin;(apply wpList_append_own_string _ Z _ _ 50 9 Z _ 5 i0 underlying50 underlying9 a8 bd be bf _ _ _ Z t.a0.1 ((⟨_⟩:AT).extract (k:J).toNat (k+(j:J)).toNat) Z (by rw[AE ap,a6,aw];unfold maxLen;omega) (by rw[AE ap,a6,aw];omega) t.a0.2.1);intro v' w5 ag ab ay;clear ay;rw[AE ap]at ag;obtain⟨c,_⟩:=NS t.a0 ag ab;obtain⟨a5,n5,c5,rfl⟩:=c.2.2;have aq:=T<|t.a2 ab c;clear ag ab c))
 go_roundg (g+1-j);exact⟨_,_,a5,n5,c5,Bb,Z,by show _<=_;have:=AE hg;omega,by show _<=_;rw[Dj,aw];have:=AE ha;omega,aq,bg,HN⟩;omega
def JP(m:AK)(r:A5 AH):A5 AI:=match r with
 |.ok (x,p)=>.ok (if m=AP then -(x:AI)else(x:AI),p)
 |.error e=>.error e
def JQ(bs:A1)(lim:AI)(r:A5 AI)(e:Ending):Prop:=∃r',GI bs lim r r'/\(∀z q,r'=.ok (z,q)->Cx bs lim q /\ -9223372036854775808<=z/\z<=9223372036854775807)/\df r' e
def Xw{m:AK}(h:R=.error f):JQ bs lim (JP m R)<|Ak<|Af #[.agg Cv,C Y 0,.agg<|Cf f]:=⟨.error f,AF keS,(λz q e=>keC),rfl⟩
theorem eO{m:AK}(h:R=.ok (num,k))(hi:Cx bs lim k)(a:z=if m=AP then -(num:J)else(num:J))(b : -9223372036854775808<=z)(c:z<=9223372036854775807):JQ bs lim (JP m R) (Ak<|Af #[.agg<|Cg 3 z ⟨#[]⟩ Cq Cq,C Y k,.agg<|Cf (0,0)]) :=
 ⟨.ok (z,k),AF<|by rw[h,a];rfl,(λd q e=>B9),rfl⟩
def ts{m:AK}(h:R=.error (8,(k:J)))(d:(k:J)=lim)(c:k<K bs)(a : -9223372036854775808<=z)(b:z<=9223372036854775807):JQ bs lim (JP m R) (Ak<|Af #[.agg<|Cg 3 z ⟨#[]⟩ Cq Cq,C Y k,.agg<|Cf (0,0)]) :=
 ⟨.ok (z,k),AG ⟨k,keS,d,c,_,rfl⟩,(λf q e=>by injection e with e;injection e with e1 e2;subst e1;subst e2;exact⟨⟨E,E⟩,a,b⟩),Z⟩
theorem TP(h:CN bs l p=AQ):GH bs l p=AQ:=by grind [CN,GH]
theorem tu(z:AK)(b:k<=K bs):Ee bs lim most z (K bs+1-k) k num=match bs[k]? with
  |none=>.ok (num,k)
  |some c=>if(k:J)=lim then .error (8,(k:J))else
   if Ey c=AP then(if z=AP then .error (9,(k:J))else if(most-(c.toNat-48))/10<num then .error (10,(k:J))else Ee bs lim most z (K bs+1-(k+1)) (k+1) (num*10+(c.toNat-48)))
   else if c.toNat=46\/c.toNat=101\/c.toNat=69 then .error (10,(k:J))else .ok (num,k):=by
 obtain⟨g,a⟩:∃g,K bs+1-k=g+1:=⟨K bs-k,E⟩
 grind [Ee]
theorem eP(hl:Lm bs l lim)(hi:Cx bs lim p)(h:bs[p]?=H c)(e:¬(p:J)=lim):GH bs l p=Ey c:=by have a:=Dk h;have b:=hl p a;have d:=hi.2;grind [GH]
def tw(f:bs[i]?=H c)(r:c.toNat=45)(hb:K bs<=281474976710656){x:J×J}(o:GH bs l (i+1)=AQ)(p:D5 bs l (i+1) 9=x):Ar As 130 #[.agg<|Ct bs fm d l,C Y i] W λe b=>df (.error x) e/\A0 W b:=by
 have v:=Dk f;have w:=Et f;have u:((c.toNat:J)==45)=AP:=by rw[r];rfl
 have n:∀V,Ar _ _ #[.agg _,.int _<|i+1] V _:=λV=>by have:=d9 V bs fm d l (i:=(i+1));rw[o]at this;exact this
 have m:∀V,Ar _ 84 #[.agg _,.int _<|i+1,.int _ 9] V λe b=>e=Ak (.agg<|Cf x)/\Below _ V b:=λV=>by have:=M3 V bs fm d l (i+1) 9;rw[p]at this;exact this
 have s:=Ln W bs fm d l;clear f r o p;unfold Ct;go_enter func130,ntmps130
 go_wp2_with(first
  |(go_at_call 165;apply Ec (n _) s.next λ_ h=>h.h;clear n;intro z t g j c2 k)
  |(go_at_call 84;apply Ec (m _) t.next λ_ h=>h.h;clear m g j c2 k;intro A a g j c2 k)
  |((with_reducible refine RC 4 (y:=23) rfl rfl (O (U W)+1) (Cv) ?_ ?_ ?_ ?_ ?_);exact Z;exact Z;exact a.b;exact thg)
  |((with_reducible refine Fb 6 26 rfl rfl (O (U W)+2) (x) ?_ ?_ ?_ ?_);exact Z;exact Z;exact Gm a CT))
 have q:=EO a CT (Cv)<|x;refine F4 results130 q _ Z Z Z Z ⟨?_,q.2.2⟩;rfl
def tA(bs:A1)(l lim:AI)(m:AK)(B f k num:AH)(ch:AU)(R:A5 AH):Prop :=
 (GH bs l k=AQ/\CN bs l k=AQ/\(∀z:AI,z=(if m=AP then -(num:AI)else(num:AI)) -> -9223372036854775808<=z->z<=9223372036854775807->JQ bs lim (JP m R) (Ak<|Af #[.agg<|Cg 3 z ⟨#[]⟩ Cq Cq,Ab Al k,.agg<|Cf (0,0)])))\/(GH bs l k=AQ/\CN bs l k=AP/\∃cc,bs[k]?=An cc/\((cc.toNat:AI)==46)=AQ/\((cc.toNat:AI)==101)=AQ/\((cc.toNat:AI)==69)=AQ/\(∀z:AI,z=(if m=AP then -(num:AI)else(num:AI)) -> -9223372036854775808<=z->z<=9223372036854775807->JQ bs lim (JP m R) (Ak<|Af #[.agg<|Cg 3 z ⟨#[]⟩ Cq Cq,Ab Al k,.agg<|Cf (0,0)])))\/(GH bs l k=AQ/\CN bs l k=AP/\∃cc,bs[k]?=An cc/\((cc.toNat:AI)==46)=AP/\D5 bs l k 10=(10,(k:AI))/\JQ bs lim (JP m R) (Ak<|Af #[.agg Cv,Ab Al 0,.agg<|Cf (10,(k:AI))]))\/(GH bs l k=AQ/\CN bs l k=AP/\∃cc,bs[k]?=An cc/\((cc.toNat:AI)==46)=AQ/\((cc.toNat:AI)==101)=AP/\D5 bs l k 10=(10,(k:AI))/\JQ bs lim (JP m R) (Ak<|Af #[.agg Cv,Ab Al 0,.agg<|Cf (10,(k:AI))]))\/(GH bs l k=AQ/\CN bs l k=AP/\∃cc,bs[k]?=An cc/\((cc.toNat:AI)==46)=AQ/\((cc.toNat:AI)==101)=AQ/\((cc.toNat:AI)==69)=AP/\D5 bs l k 10=(10,(k:AI))/\JQ bs lim (JP m R) (Ak<|Af #[.agg Cv,Ab Al 0,.agg<|Cf (10,(k:AI))]))\/(GH bs l k=AP/\∃cc,bs[k]?=An cc/\48<=(cc.toNat:AI)/\(cc.toNat:AI)<=57/\(f:AI)<(k:AI)/\((ch.toNat:AI)==48)=AP/\D5 bs l k 9=(9,(k:AI))/\JQ bs lim (JP m R) (Ak<|Af #[.agg Cv,Ab Al 0,.agg<|Cf (9,(k:AI))]))\/(GH bs l k=AP/\∃cc,bs[k]?=An cc/\48<=(cc.toNat:AI)/\(cc.toNat:AI)<=57/\(f:AI)<(k:AI)/\((ch.toNat:AI)==48)=AQ /\ -(num:AI)<(-9223372036854775808+((cc.toNat:AI)-48)).tdiv 10/\D5 bs l k 10=(10,(k:AI))/\JQ bs lim (JP m R) (Ak<|Af #[.agg Cv,Ab Al 0,.agg<|Cf (10,(k:AI))]))\/(GH bs l k=AP/\∃cc,bs[k]?=An cc/\48<=(cc.toNat:AI)/\(cc.toNat:AI)<=57/\(f:AI)<(k:AI)/\((ch.toNat:AI)==48)=AQ/\¬-(num:AI)<(-9223372036854775808+((cc.toNat:AI)-48)).tdiv 10/\m=AQ/\(-(num:AI)*10-((cc.toNat:AI)-48) == -9223372036854775808)=AP /\ -9223372036854775808 <= -(num:AI)*10 /\ -9223372036854775808 <= -(num:AI)*10-((cc.toNat:AI)-48)/\D5 bs l k 10=(10,(k:AI))/\JQ bs lim (JP m R) (Ak<|Af #[.agg Cv,Ab Al 0,.agg<|Cf (10,(k:AI))]))\/(GH bs l k=AP/\∃cc,bs[k]?=An cc/\48<=(cc.toNat:AI)/\(cc.toNat:AI)<=57/\_root_.Decidable.decide ((f:AI)<(k:AI))=AQ/\(k:AI)<=(f:AI)/\¬-(num:AI)<(-9223372036854775808+((cc.toNat:AI)-48)).tdiv 10 /\ -9223372036854775808 <= -(num:AI)*10 /\ -9223372036854775808 <= -(num:AI)*10-((cc.toNat:AI)-48)/\(m=AQ->(-(num:AI)*10-((cc.toNat:AI)-48) == -9223372036854775808)=AQ)/\num*10+(cc.toNat-48)<=B/\Cx bs lim (k+1)/\Ee bs lim B (ch.toNat==48) (At bs+1-(k+1)) (k+1) (num*10+(cc.toNat-48))=R)\/(GH bs l k=AP/\∃cc,bs[k]?=An cc/\48<=(cc.toNat:AI)/\(cc.toNat:AI)<=57/\(f:AI)<(k:AI)/\((ch.toNat:AI)==48)=AQ/\¬-(num:AI)<(-9223372036854775808+((cc.toNat:AI)-48)).tdiv 10 /\ -9223372036854775808 <= -(num:AI)*10 /\ -9223372036854775808 <= -(num:AI)*10-((cc.toNat:AI)-48)/\(m=AQ->(-(num:AI)*10-((cc.toNat:AI)-48) == -9223372036854775808)=AQ)/\num*10+(cc.toNat-48)<=B/\Cx bs lim (k+1)/\Ee bs lim B (ch.toNat==48) (At bs+1-(k+1)) (k+1) (num*10+(cc.toNat-48))=R)
theorem tB{m:AK}{f:I}(v:(m=AP/\B=9223372036854775808)\/(m=AQ/\B=9223372036854775807))(hn:num<=B)(hl:Lm bs l lim)(hi:Cx bs lim k)(L:bs[f]?=H ch)(hd:Ey ch=AP)(P:¬(f:J)=lim)(ab:f<=k)(hR:Ee bs lim B (ch.toNat==48) (K bs+1-(f+1)) (f+1) (ch.toNat-48)=R)(S:(k=f/\num=0)\/(f<k/\Ee bs lim B (ch.toNat==48) (K bs+1-k) k num=R)):tA bs l lim m B f k num ch R:=by
 have ac:k=f->bs[k]?=H ch:=λh=>by rw[h];exact L
 have j:¬k=f->R=_:=λh=>by
  rcases S with b|b
  .omega
  exact b.2.symm.trans<|tu _ hi.1
 rcases hck:bs[k]? with _|a
 .have d:=j λh=>B9;rw[hck]at d;exact AF ⟨TP<|Id hck,Id hck,λz h b n=>eO d hi h b n⟩
 rw[hck]at j;simp only[]at j;by_cases g:(k:J)=lim
 .have d:=j λh=>P (by rw[<-h];exact g);rw[Cp g]at d;exact AF ⟨TP<|Hs hl hck g,Hs hl hck g,λz h b n=>ts d g (Dk hck) b n⟩
 have i:=eP hl hi hck g;have p:=λe=>Ie hl hi hck g e;have t:=J5 hl hi hck g;rw[Cl g]at j;cases c:Ey a
 .have d:=j λh=>B9;rw[Cl<|by rw[c];decide]at d;by_cases y:a.toNat=46\/a.toNat=101\/a.toNat=69
  .rw[Cp y]at d;have q:=Xw (bs:=bs) (lim:=lim) (m:=m) d;by_cases aa:a.toNat=46
   .exact AG<|AG<|AF ⟨Ca i c,t,a,hck,B7,p 10,q⟩
   by_cases W:a.toNat=101
   .exact AG<|AG<|AG<|AF ⟨Ca i c,t,a,hck,B7,B7,p 10,q⟩
   exact AG<|AG<|AG<|AG<|AF ⟨Ca i c,t,a,hck,B7,B7,B7,p 10,q⟩
  rw[Cl y]at d;exact AG<|AF ⟨Ca i c,t,a,hck,B7,B7,B7,λz h b n=>eO d hi h b n⟩
 rw[Cp c]at j;obtain⟨r,s⟩:=Dr (by unfold Ey at c;exact c);have u:=qP num (a.toNat-48) E;rw[show(a.toNat-48:I)=(a.toNat:J)-48 by omega]at u;by_cases F:f<k/\ch.toNat=48
 .have b:=j E;rw[Cp<|by simp[F.2]]at b;exact AG<|AG<|AG<|AG<|AG<|AF ⟨Ca i c,a,hck,r,s,E,B7,p 9,Xw b⟩
 have V:f<k->¬(ch.toNat==48)=AP:=λh b=>F ⟨h,BG⟩;by_cases Q:(B-(a.toNat-48))/10<num
 .have N:f<k:=E;have b:=j E;rw[Cl<|V N,Cp Q]at b;have q:=Xw (bs:=bs) (lim:=lim) (m:=m) b;by_cases o : -(num:J)<(-9223372036854775808+((a.toNat:J)-48)).tdiv 10
  .exact AG<|AG<|AG<|AG<|AG<|AG<|AF ⟨Ca i c,a,hck,r,s,E,B7,o,p 10,q⟩
  have n:=λh=>o<|u.2 h;exact AG<|AG<|AG<|AG<|AG<|AG<|AG<|AF ⟨Ca i c,a,hck,r,s,E,B7,o,v.elim (λh=>E) λh=>h.1,B7,E,E,p 10,q⟩
 have n:¬(9223372036854775808-(a.toNat-48))/10<num:=E;have o:=λh=>n<|u.1 h;have x:Ee bs lim B (ch.toNat==48) (K bs+1-(k+1)) (k+1) (num*10+(a.toNat-48))=R:=B9;have w:m=AQ->(-num*10-((a.toNat:J)-48) == -9223372036854775808)=AQ:=λh=>v.elim (λb=>B9) λb=>B7;have A:=Eu hi hck g;by_cases h:f<k
 .exact AG<|AG<|AG<|AG<|AG<|AG<|AG<|AG<|AG<|⟨Ca i c,a,hck,r,s,E,B7,o,E,E,w,E,A,x⟩
 exact AG<|AG<|AG<|AG<|AG<|AG<|AG<|AG<|AF ⟨Ca i c,a,hck,r,s,B7,E,o,E,E,w,E,A,x⟩
theorem eQ(W:X)(fm d:J){f:I}{m:AK}(hc:bs[i]?=H c)(u:(m=AP/\c.toNat=45/\f=i+1/\B=9223372036854775808)\/(m=AQ/\¬c.toNat=45/\f=i/\B=9223372036854775807))(L:bs[f]?=H ch)(hd:Ey ch=AP)(ak:¬(f:J)=lim)(hl:Lm bs l lim)(hi:Cx bs lim f)(hb:K bs<=281474976710656):Ar As 130 #[.agg<|Ct bs fm d l,C Y i] W λaa g=>JQ bs lim (JP m<|Ee bs lim B (ch.toNat==48) (K bs+1-(f+1)) (f+1)<|ch.toNat-48) aa/\A0 W g:=by
 obtain⟨an,S⟩:=CC<|Ee bs lim B (ch.toNat==48) (K bs+1-(f+1)) (f+1)<|ch.toNat-48;rw[AE S];have a1:=Dk hc;have ay:=Dk L;have av:=Et hc;have a2:=λV=>Et L V;have P:=T hi;have ae:=T λk num N hn hi h=>tB (k:=k) (num:=num) (u.imp (λh=>⟨h.1,h.2.2.2⟩) λh=>⟨h.1,h.2.2.2⟩) hn hl hi L hd ak N S h;have cD:∀V (k:I),Ar _ _ #[.agg _,.int _ k] V _:=λV k=>d9 V bs fm d l;have cH:=NL bs fm d l;have ag:∀V,Ar As 165 #[Ag #[Ae ⟨Aw bs⟩,C Y fm,C Y d,C Y l],C Y f] V λaa g=>aa=Ak (Ah AP)/\A0 V g:=λV=>by grind [eP]
 have v:=Ln W bs fm d l;clear hc L hd ak hl hi S;unfold Ct;rcases u with⟨rfl,u,hf,hB⟩|⟨rfl,u,hf,hB⟩
 have ap:((c.toNat:J)==45)=AP:=(by rw[u];rfl);rotate_left
 have ap:=Df (c:=c) 45 E;rotate_left
 all_goals
  have HB:=T hB;have ad:=T<|show _=(f:J)from(congrArg _ hf).symm;clear u hf hB;go_enter func130,ntmps130
  go_wp2_with fail
  first
   |rw[show(i:J)+1=(f:J)from AE ad]
   |rw[show i=(f:J)from AE ad]
  refine MJ (ag _) v.next ?_
  clear ag;intro w2 ar p;obtain⟨q,r,c2,s⟩:=Eb p.h
  go_wp2_with fail
  clear q r c2 s ar v
  go_loopg[1,9] (K bs+1-f) (λao zi zn wr=>∃k num:I,zi=C Y k/\zn=C Y (-(num:J))/\D (K bs+1<=k+ao)/\D (f<=k)/\D (num<=B)/\D (Jj W (Ct bs fm d l) wr)/\D (Cx bs lim k)/\D ((k=f/\num=0)\/(f<k/\Ee bs lim B (ch.toNat==48) (K bs+1-k) k num=an)))
  grind [D];clear p P;obtain⟨k,num,rfl,rfl,hg,N,al,v,P,HP⟩:=hrel;have a5:=AE al;have ax:=AE HB;obtain⟨q,r,c2,s⟩:=Eb v.h;have R:=λV=>cD V k;have e:=λV=>cH V k;rcases ae.out k num N.out al.out P HP with⟨j,w,o⟩|⟨j,w,n,b,ab,ah,aq,o⟩|⟨j,w,n,b,ab,t,o⟩|⟨j,w,n,b,ab,ah,t,o⟩|⟨j,w,n,b,ab,ah,aq,t,o⟩|⟨j,n,b,z,A,ac,hz,t,o⟩|⟨j,n,b,z,A,ac,hz,hA,t,o⟩|⟨j,n,b,z,A,ac,hz,hA,aw,F,ai,aj,t,o⟩|⟨j,n,b,z,A,az,a0,hA,ai,aj,F,x,y,Q⟩|⟨j,n,b,z,A,ac,hz,hA,ai,aj,F,x,y,Q⟩
  all_goals
   rw[j]at R
   try rw[w]at e
   try(have a3:=Et b;have a4:=Dk b)
   try(have af:=NK fm d t)
   try have HV:=T o
   try have am:=T Q
   try have y:=T y
   try have x:=T x
   try have F:=F rfl
   try clear o
   try clear Q b
   clear cD cH HP av j ae
   try cases aw
  all_goals
   go_wp2_with(first
    |(go_at_call 165;refine Ec (R _) v.next (λ_ h=>h.h) ?_;clear R q r c2 s;intro w2 p q r c2 s;have a:=p)
    |(go_at_call 116;refine Ec (e _) p.next (λ_ h=>h.h) ?_;clear e q r c2 s a;intro w3 a q r c2 s;have p:=a)
    |(go_at_call 84;refine Ec (af _) p.next (λ_ h=>h.h) ?_;clear af q r c2 s a;intro w4 a q r c2 s)
    |((with_reducible refine RC 4 rfl rfl (O (U W)+1) (Cv) ?_ ?_ ?_ ?_ ?_);exact Z;exact Z;exact a.b;exact thg)
    |((with_reducible refine RC 4 rfl rfl (O (U W)+1) (Cg 3 (-(num:J)) ⟨#[]⟩ Cq Cq) ?_ ?_ ?_ ?_ ?_);exact Z;exact Z;exact a.b;exact thg)
    |((with_reducible refine RC 4 rfl rfl (O (U W)+1) (Cg 3 (num:J) ⟨#[]⟩ Cq Cq) ?_ ?_ ?_ ?_ ?_);exact Z;exact Z;exact a.b;exact thg)
    |((with_reducible refine Fb 6 _ rfl rfl (O (U W)+2) (0,0) ?_ ?_ ?_ ?_);exact Z;exact Z;exact Gm a CT)
    |((with_reducible refine Fb 6 _ rfl rfl (O (U W)+2) (9,(k:J)) ?_ ?_ ?_ ?_);exact Z;exact Z;exact Gm a CT)
    |((with_reducible refine Fb 6 _ rfl rfl (O (U W)+2) (10,(k:J)) ?_ ?_ ?_ ?_);exact Z;exact Z;exact Gm a CT))
   try exact F4 results130 (EO a CT _ _) _ rfl rfl rfl rfl ⟨HV,(EO a CT _ _).2.2⟩
   try exact F4 results130 (EO a CT _ _) _ rfl rfl rfl rfl ⟨HV _ rfl E E,(EO a CT _ _).2.2⟩
  all_goals
   obtain⟨gg,au⟩:∃gg,gk=gg+1:=⟨gk-1,AY<|AE hg⟩
   subst au;go_roundg gg;exact⟨k+1,num*10+(n.toNat-48),Bb,congrArg (Value.int Y) E,B9,by grind [D],x,p,y,AG ⟨AY<|AE N,am⟩⟩;omega
def uz(bs:A1)(p a j:I):DB bs p a++DB bs (p+a) j=DB bs p (a+j):=by unfold DB;rw[List.take_add,ni]
theorem uA(bs:A1)(p:I):DB bs p 0=[]:=by simp[DB]
theorem uB(b:0<m)(a:bs[k]?=H c)(d:¬(k:J)=lim):EV bs lim m k acc=EV bs lim (m-1) (k+1) (acc++[c]):=by
 obtain⟨g,rfl⟩:∃g,m=g+1:=⟨m-1,E⟩
 grind [EV]
theorem uC(b:0<m)(hi:Cx bs lim k)(hl:Lm bs l lim)(a:bs[k]?=Ao\/∃c,bs[k]?=H c/\(k:J)=lim):EV bs lim m k acc=.error (D5 bs l k 9)/\CN bs l k=AQ:=by
 obtain⟨g,rfl⟩:∃g,m=g+1:=⟨m-1,E⟩
 rw[EV];rcases a with a|⟨c,a,d⟩
 .rw[a,IN hi.1 a];grind [Id]
 grind [Gl,Hs]
theorem uD{wh:I}(b:0<m)(hi:Cx bs lim k)(hl:Lm bs l lim)(a:bs[k]?=Ao\/∃c,bs[k]?=H c/\(k:J)=lim):Ds bs lim m k acc wh=.error (D5 bs l k 9)/\CN bs l k=AQ:=by
 obtain⟨g,rfl⟩:∃g,m=g+1:=⟨m-1,E⟩
 rw[Ds];rcases a with a|⟨c,a,d⟩
 .rw[a,IN hi.1 a];grind [Id]
 grind [Gl,Hs]
def NZ(txt:AK)(bs:A1)(lim:AI)(m k:AH)(acc:A1):A5 A1:=bif txt then Ds bs lim m k acc (At acc)else EV bs lim m k acc
def uE(d:AK)(b:0<m)(hi:Cx bs lim k)(hl:Lm bs l lim)(a:bs[k]?=Ao\/∃c,bs[k]?=H c/\(k:J)=lim):NZ d bs lim m k acc=.error (D5 bs l k 9)/\CN bs l k=AQ:=by
 cases d
 .exact uC b hi hl a
 exact uD b hi hl a
theorem fJ{txt:AK}{n:J}(hn:n=min (x:J) 9223372036854775807)(hl:Lm bs l lim)(hi:Cx bs lim i)(hb:K bs<=200000000):Ar As 133 #[.agg<|Ct bs fm d l,C Y i,C Y n,Ah txt] W λe z=>NV (NZ txt bs lim x i []) e/\A0 W z:=by
 obtain⟨ad,p⟩:=CC<|NZ txt bs lim x i [];rw[AE p];have a3:=NJ bs;have a0:=hi.1;have HL:=T hl;have t:=T hi;have R:=NL bs fm d l;have Q:=OX bs fm d l;have s:=RB W bs fm d l;obtain⟨m,a4⟩:=DF<|IntKind.i64.wrap<|i+n;have HW:D<|(n=x/\x<=K bs/\m=i+x)\/(K bs<x/\¬n<=K bs/\(K bs<m\/m<0)):=by grind [D,IntKind.wrap_i64]
 clear hl hi hn;unfold Ct;go_enter func133,ntmps133;go_wp2
 go_loopg[11] (K bs+1-i) (λar ay wr=>∃k:I,ay=C Y k/\D (K bs+1<=k+ar)/\D (IP W (Ct bs fm d l) (O (U W)+1) wr)/\D (Cx bs lim k)/\D (i<=k/\k-i<=x)/\D (NZ txt bs lim (x-(k-i)) k (DB bs i<|k-i)=ad))
 grind [D,uA];clear p s t;obtain⟨k,rfl,hg,s,t,g,p⟩:=hrel;have a1:=t.1;obtain⟨a,c,c2,f⟩:=Eb s.h;have ah:=g.1;have ab:=AE HW;by_cases B:k-i=x/\x<=K bs
 .have r:¬k<m:=E;have a2:¬(K bs)<n:=E
  replace B:=B.1
  clear ab;have P:D<|ad=.ok (DB bs i x,k):=by
   show _=_;have h:=AE p;rw[B,Rg]at h;rw[<-h];cases txt
   .rfl
   simp[NZ,Ds]
  have aq:D<|(⟨Aw bs⟩:AT).extract (i:J).toNat (k:J).toNat=⟨Aw<|DB bs i x⟩:=by show _=_;rw[show(i:J).toNat=i by omega,show(k:J).toNat=i+x by omega];exact Xu bs i x
  have az:i<=(k:J):=E;have an:k<=(K bs:J):=E;clear p R Q g hg
  go_wp2_with(first
   |((with_reducible refine Fb 10 95 rfl rfl (O (U W)+1) (0,0) ?_ ?_ ?_ ?_);exact Z;exact Z;exact s.a))
  have q:=Ht s CT (0,0);refine Ik results133 q (.string<|(⟨_⟩:AT).extract (i:J).toNat (k:J).toNat) (.int _ k) Z Z Z Z ⟨?_,q.2⟩;rw[AE P,AE aq];rfl
 have hm:0<x-(k-i):=AY g.2;have o:=λV=>R V k;rcases RA (bs:=bs) (lim:=lim) k with ap|⟨ch,w,hp⟩
 .obtain⟨h1,h2⟩:=uE (acc:=DB bs i<|k-i) txt hm t HL ap;have P:=T<|Ca p.symm h1;rw[h2]at o;have v:=λV=>Q V k 9;generalize D5 bs l k 9=xx at *;have S:k<m\/(¬k<m/\K bs<n):=E;clear p h1 h2 ap R Q g hg ah B ab;rcases S with r|⟨r,F⟩
  all_goals
   go_wp2_with(first
    |(go_at_call 116;apply Ec (o _) s.next λ_ h=>h.h;clear o a c c2 f;intro w2 u a c c2 f)
    |(go_at_call 84;apply Ec (v _) u.next λ_ h=>h.h;clear v a c c2 f;intro w4 y a c c2 f)
    |((with_reducible refine Fb 10 35 rfl rfl (O (U W)+1) xx ?_ ?_ ?_ ?_);exact Z;exact Z;exact y.a))
   have q:=Ht y CT xx;refine Ik results133 q (.string _) (.int _ 0) Z Z Z Z ⟨?_,q.2⟩;rw[AE P];rfl
 have aw:=Dk w;have hh:=J5 HL t w hp;rw[hh]at o;have step:∀j,1<=j->Cx bs lim (k+j)->j<=x-(k-i)->NZ txt bs lim (x-(k-i)) k (DB bs i<|k-i)=NZ txt bs lim (x-(k-i)-j) (k+j) (DB bs i (k-i)++DB bs k j)->D (NZ txt bs lim (x-(k+j-i)) (k+j) (DB bs i<|k+j-i)=ad):=λj _ _ _ h=>by have e:=uz bs i (k-i) j;grind
 cases txt
 .have HN:=step 1 (Cr _) (Eu t w hp) hm (by rw[Xo w];exact uB hm w hp);have ag:=show D (Cx bs lim _)from Eu t w hp;have S:k<m\/(¬k<m/\K bs<n):=E;clear ab B step;rcases S with r|⟨r,F⟩
  all_goals
   go_wp2_with(first
    |(go_at_call 116;apply Ec (o _) s.next λ_ h=>h.h;clear o a c c2 f;intro w2 u a c c2 f))
   go_roundg (gk-1);exact⟨_,Bb,by grind [D],u,ag,⟨E,E⟩,HN⟩;have:=AE hg;omega
 have an:k<lim:=AY t.2;have ai:=eJ HL aw an;obtain⟨nn,ao⟩:∃nn:I,min (K bs:J) lim=nn:=⟨(min (K bs:J) lim).toNat,E⟩
 obtain⟨N,aj⟩:∃N:I,N=min (min (K bs:J) lim) (k+(x-(k-i)):I):=⟨(min (min (K bs:J) lim) (k+(x-(k-i)):I)).toNat,E⟩
 have ac:=sC HL aj t w hp hm<|DB bs i<|k-i;have cG:=λV=>eF V N w E E E;obtain⟨j,ae,ak⟩:∃j ae,ML bs N k ch=(j,ae):=⟨_,_,rfl⟩
 rw[ak]at ac cG;have b:∀V,Ar _ _ _ V λe z=>e=Ak (Af #[.int _ j,Ah ae])/\V=z:=λV=>Ce (cG V) λe z h=>⟨h.1,h.2.symm⟩
 rw[ao]at ai aj;have S:((k:J)<m/\n<=K bs/\min (nn:J) m=N)\/((k:J)<m/\¬n<=K bs/\(nn:J)=N)\/(¬(k:J)<m/\¬n<=K bs/\(nn:J)=N):=E;clear ao ak cG aj hh w hp;cases ae
 .simp only[]at ac;obtain⟨A,am,aa⟩:=ac;have av:=A.1;have hR:=Ca p.symm aa;by_cases af:j=x-(k-i)
  .rw[Cp af]at hR;obtain⟨r,F,L⟩:k<m/\n<=K bs/\min (nn:J) m=N:=E;obtain⟨kj,ax⟩:∃kj,kj+1=k+j:=⟨k+j-1,E⟩
   have P:D<|ad=.error (9,(kj:J)):=B9;have v:∀V,Ar As 84 #[Ag #[Ae ⟨Aw bs⟩,C Y fm,C Y d,C Y l],C Y<|(k:J)+(j:J)-1,C Y 9] V λe z=>e=Ak (.agg<|Cf (9,(kj:J)))/\A0 V z:=λV=>by grind [D,RP]
   have au:(k+j==m)=AP:=B7;have al:1<=k+(j:J):=E;clear p R Q aa A af ax g hg ah S ab hR B step
   go_wp2_with(first
    |(go_at_call 116;apply Ec (o _) s.next λ_ h=>h.h;clear o a c c2 f;intro w2 u a c c2 f)
    |(go_at_call 163;apply (b _).mono;clear b;rintro e w3 ⟨rfl,rfl⟩)
    |(go_at_call 84;apply Ec (v _) u.next λ_ h=>h.h;clear v a c c2 f;intro w4 y a c c2 f)
    |((with_reducible refine Fb 10 77 rfl rfl (O (U W)+1) (9,(kj:J)) ?_ ?_ ?_ ?_);exact Z;exact Z;exact y.a))
   have q:=Ht y CT (9,kj);refine Ik results133 q (.string _) (.int _ 0) Z Z Z Z ⟨?_,q.2⟩;rw[AE P];rfl
  rw[Cl af]at hR;have au:(k+j==m)=AQ:=B7;have P:=T hR;have v:=λV=>Q V (k+j) 9;rw[show(k+j:I)=k+(j:J) by omega]at v;generalize D5 bs l (k+j) 9=xx at *;clear p R Q aa A g hg af ah ab hR B step;rcases S with⟨r,F,L⟩|⟨r,F,L⟩|⟨r,F,L⟩
  all_goals
   try rw[L]at ai
   go_wp2_with(first
    |(go_at_call 116;apply Ec (o _) s.next λ_ h=>h.h;clear o a c c2 f;intro w2 u a c c2 f)
    |(go_at_call 163;apply (b _).mono;clear b;rintro e w3 ⟨rfl,rfl⟩)
    |(go_at_call 84;apply Ec (v _) u.next λ_ h=>h.h;clear v a c c2 f;intro w4 y a c c2 f)
    |((with_reducible refine Fb 10 84 rfl rfl (O (U W)+1) xx ?_ ?_ ?_ ?_);exact Z;exact Z;exact y.a))
   have q:=Ht y CT xx;refine Ik results133 q (.string _) (.int _ 0) Z Z Z Z ⟨?_,q.2⟩;rw[AE P];rfl
 simp only[]at ac;obtain⟨al,A,am,aa⟩:=ac;have av:=A.1;have HN:=step j al A am aa;have ag:=T A;clear p R Q aa A ab step B;rcases S with⟨r,F,L⟩|⟨r,F,L⟩|⟨r,F,L⟩
 all_goals
  try rw[L]at ai
  go_wp2_with(first
   |(go_at_call 116;apply Ec (o _) s.next λ_ h=>h.h;clear o a c c2 f;intro w2 u a c c2 f)
   |(go_at_call 163;apply (b _).mono;clear b;rintro e w3 ⟨rfl,rfl⟩))
  go_roundg (gk-j);exact⟨_,Bb,by grind [D],u,ag,⟨E,E⟩,HN⟩;have:=AE hg;omega
def RY(z:J):∀w:X,(Instr.typeAssert (Ai 281<|C Y z) 89 279 AP).run As w=.ok (Af #[Ah AQ,Ah AQ]) w:=λw=>B6
def RZ(z:J):∀w:X,(Instr.typeAssert (Ai 281<|C Y z) 89 281 AP).run As w=.ok (Af #[C Y z,Ah AP]) w:=λw=>B6
def Km(z:AI):A1:=if z<0 then Hy z else Ha z.toNat
def Kn(z:AI):A1:=if z<0 then Dd 1 (-1-z).toNat else Dd 0 z.toNat
theorem vA(s : -9223372036854775808<=z)(L:z<=9223372036854775807)(hl:K bs<=999999999)(h:Cn W base v bs):Ar As 115 #[v,Tn z] W λe k=>∃m,e=Ak m/\Cn k base m (bs++Km z)/\Below base W k:=by
 unfold Tn;obtain⟨t,r,a,n,c,rfl⟩:=h;have j:D<|Cn W base (G a n c) bs:=⟨t,r,a,n,c,Z⟩
 have F:D<|Km z=if z<0 then Hy z else Ha z.toNat:=rfl;by_cases l:z<0
 .have i:D<|Km z=Hy z:=B9;have p:_root_.Decidable.decide (z<0)=AP:=by simp;exact l
  have w:=RY z;have y:=RZ z;go_enter func115,ntmps115
  go_wp2_with(first
   |(go_at_call 157;refine Ce (sZ s l hl j) ?_;rintro e B ⟨A,rfl,b,g⟩;obtain⟨d,f,o,u,q,rfl⟩:=b))
  go_ret;rw[AE i];exact⟨_,Z,⟨d,f,_,_,_,Z⟩,g⟩
 have i:D<|Km z=Ha z.toNat:=B9;obtain⟨x,rfl⟩:∃x:I,z=x:=⟨z.toNat,E⟩
 have p:_root_.Decidable.decide ((x:J)<0)=AQ:=Ba;have w:=RY (x:J);have y:=RZ (x:J);go_enter func115,ntmps115
 go_wp2_with(first
  |(go_at_call 158;refine Ce (sY x E hl j) ?_;rintro e B ⟨A,rfl,b,g⟩;obtain⟨d,f,o,u,q,rfl⟩:=b))
 go_ret;rw[AE i];exact⟨_,Z,⟨d,f,_,_,_,Z⟩,g⟩
theorem vB(L : -9223372036854775808<=z)(N:z<=9223372036854775807)(hl:K bs<=999999999)(h:Cn W base v bs):Ar As 114 #[v,Tn z] W λe b=>∃d,e=Ak d/\Cn b base d (bs++Kn z)/\Below base W b:=by
 unfold Tn;obtain⟨r,q,a,n,c,rfl⟩:=h;have l:D<|Cn W base (G a n c) bs:=⟨r,q,a,n,c,Z⟩
 have F:D<|Kn z=if z<0 then Dd 1 (-1-z).toNat else Dd 0 z.toNat:=rfl;by_cases A:z<0
 .have f:D<|Kn z=Dd 1 (-1-z).toNat:=B9;obtain⟨x,rfl⟩:∃x:I,z = -1-(x:J):=⟨(-1-z).toNat,E⟩
  have B:=λV h=>NU (W:=V) (base:=base) (v:=(G a n c)) 1 x E E hl h;have p:∀V,Cn V base (G a n c) bs->Ar As 155 #[G a n c,C Am 1,C .u64<|-1-(-1-(x:J))] V λe b=>∃d,e=Ak d/\Cn b base d (bs++Dd 1 x)/\Below base V b:=B9;rw[show(-1-(-1-(x:J))).toNat=x by omega]at f;have t:=RY<|-1-(x:J);have u:=RZ<|-1-(x:J);go_enter func114,ntmps114
  go_wp2_with(first
   |(go_at_call 155;refine Ce (p _ l) ?_;rintro e y ⟨w,rfl,g,k⟩;obtain⟨i,j,m,s,o,rfl⟩:=g))
  go_ret;rw[AE f];exact⟨_,Z,⟨i,j,_,_,_,Z⟩,k⟩
 have f:D<|Kn z=Dd 0 z.toNat:=B9;obtain⟨x,rfl⟩:∃x:I,z=x:=⟨z.toNat,E⟩
 have t:=RY (x:J);have u:=RZ (x:J);go_enter func114,ntmps114
 go_wp2_with(first
  |(go_at_call 155;refine Ce (NU 0 x E E hl l) ?_;rintro e y ⟨w,rfl,g,k⟩;obtain⟨i,j,m,s,o,rfl⟩:=g))
 go_ret;rw[AE f];exact⟨_,Z,⟨i,j,_,_,_,Z⟩,k⟩
def XQ  : ∀w:X,(Instr.typeAssert (Ai 268<|Ag #[]) 89 279 AP).run As w=.ok (Af #[Ah AQ,Ah AQ]) w:=λw=>B6
def XR  : ∀w:X,(Instr.typeAssert (Ai 268<|Ag #[]) 89 281 AP).run As w=.ok (Af #[C Y 0,Ah AQ]) w:=λw=>B6
def XS  : ∀w:X,(Instr.typeAssert (Ai 268<|Ag #[]) 89 283 AP).run As w=.ok (Af #[.string ByteArray.empty,Ah AQ]) w:=λw=>B6
def XT  : ∀w:X,(Instr.typeAssert (Ai 268<|Ag #[]) 89 219 AP).run As w=.ok (Af #[G Ao 0 0,Ah AQ]) w:=λw=>B6
def S0  : ∀w:X,(Instr.typeAssert (Ai 268<|Ag #[]) 89 221 AP).run As w=.ok (Af #[G Ao 0 0,Ah AQ]) w:=λw=>B6
def S1  : ∀w:X,(Instr.typeAssert (Ai 268<|Ag #[]) 89 223 AP).run As w=.ok (Af #[G Ao 0 0,Ah AQ]) w:=λw=>B6
def Qu(b:AK):∀w:X,(Instr.typeAssert (Ai 279<|Ah b) 89 279 AP).run As w=.ok (Af #[Ah b,Ah AP]) w:=λw=>B6
def XU(s:AT):∀w:X,(Instr.typeAssert (Ai 283<|.string s) 89 279 AP).run As w=.ok (Af #[Ah AQ,Ah AQ]) w:=λw=>B6
def XV(s:AT):∀w:X,(Instr.typeAssert (Ai 283<|.string s) 89 281 AP).run As w=.ok (Af #[C Y 0,Ah AQ]) w:=λw=>B6
def XW(s:AT):∀w:X,(Instr.typeAssert (Ai 283<|.string s) 89 283 AP).run As w=.ok (Af #[.string s,Ah AP]) w:=λw=>B6
def S2(a:A4)(n c:I):∀w:X,(Instr.typeAssert (Ai 219<|G a n c) 89 279 AP).run As w=.ok (Af #[Ah AQ,Ah AQ]) w:=λw=>B6
def S3(a:A4)(n c:I):∀w:X,(Instr.typeAssert (Ai 219<|G a n c) 89 281 AP).run As w=.ok (Af #[C Y 0,Ah AQ]) w:=λw=>B6
def S4(a:A4)(n c:I):∀w:X,(Instr.typeAssert (Ai 219<|G a n c) 89 283 AP).run As w=.ok (Af #[.string ByteArray.empty,Ah AQ]) w:=λw=>B6
def S5(a:A4)(n c:I):∀w:X,(Instr.typeAssert (Ai 219<|G a n c) 89 219 AP).run As w=.ok (Af #[G a n c,Ah AP]) w:=λw=>B6
def gG(a:A4)(n c:I):∀w:X,(Instr.typeAssert (Ai 221<|G a n c) 89 279 AP).run As w=.ok (Af #[Ah AQ,Ah AQ]) w:=λw=>B6
def gH(a:A4)(n c:I):∀w:X,(Instr.typeAssert (Ai 221<|G a n c) 89 281 AP).run As w=.ok (Af #[C Y 0,Ah AQ]) w:=λw=>B6
def gI(a:A4)(n c:I):∀w:X,(Instr.typeAssert (Ai 221<|G a n c) 89 283 AP).run As w=.ok (Af #[.string ByteArray.empty,Ah AQ]) w:=λw=>B6
def gJ(a:A4)(n c:I):∀w:X,(Instr.typeAssert (Ai 221<|G a n c) 89 219 AP).run As w=.ok (Af #[G Ao 0 0,Ah AQ]) w:=λw=>B6
def U7(a:A4)(n c:I):∀w:X,(Instr.typeAssert (Ai 221<|G a n c) 89 221 AP).run As w=.ok (Af #[G a n c,Ah AP]) w:=λw=>B6
def gK(a:A4)(n c:I):∀w:X,(Instr.typeAssert (Ai 223<|G a n c) 89 279 AP).run As w=.ok (Af #[Ah AQ,Ah AQ]) w:=λw=>B6
def gL(a:A4)(n c:I):∀w:X,(Instr.typeAssert (Ai 223<|G a n c) 89 281 AP).run As w=.ok (Af #[C Y 0,Ah AQ]) w:=λw=>B6
def gM(a:A4)(n c:I):∀w:X,(Instr.typeAssert (Ai 223<|G a n c) 89 283 AP).run As w=.ok (Af #[.string ByteArray.empty,Ah AQ]) w:=λw=>B6
def gN(a:A4)(n c:I):∀w:X,(Instr.typeAssert (Ai 223<|G a n c) 89 219 AP).run As w=.ok (Af #[G Ao 0 0,Ah AQ]) w:=λw=>B6
def U9(a:A4)(n c:I):∀w:X,(Instr.typeAssert (Ai 223<|G a n c) 89 221 AP).run As w=.ok (Af #[G Ao 0 0,Ah AQ]) w:=λw=>B6
def Ua(a:A4)(n c:I):∀w:X,(Instr.typeAssert (Ai 223<|G a n c) 89 223 AP).run As w=.ok (Af #[G a n c,Ah AP]) w:=λw=>B6
def vC(hl:K bs<=999999999)(h:Cn W base v bs):Ar As 115 #[v,Ai 268<|Ag #[]] W λe f=>∃b,e=Ak b/\Cn f base b (bs++[192])/\Below base W f:=by
 obtain⟨m,k,a,n,c,rfl⟩:=h;have d:=T m;have r:=XQ;have s:=XR;have t:=XS;have u:=XT;have w:=S0;have x:=S1;go_enter func115,ntmps115
 go_wp2_with(first
  |(at_builtin;refine Ke 192 d ?_;intro b i g l q;have j:D<|Cn i base b (bs++[192])/\Below base W i:=TO k d Z g l;obtain⟨p,o,rfl⟩:=ownsRow_succ g))
 go_ret;exact⟨_,Z,j⟩
def vD(hl:K bs<=999999999)(h:Cn W base v bs):Ar As 115 #[v,Ai 279<|Ah AP] W λe f=>∃b,e=Ak b/\Cn f base b (bs++[195])/\Below base W f:=by
 obtain⟨m,k,a,n,c,rfl⟩:=h;have d:=T m;have r:=Qu AP;go_enter func115,ntmps115
 go_wp2_with(first
  |(at_builtin;refine Ke 195 d ?_;intro b i g l q;have j:D<|Cn i base b (bs++[195])/\Below base W i:=TO k d Z g l;obtain⟨p,o,rfl⟩:=ownsRow_succ g))
 go_ret;exact⟨_,Z,j⟩
def vE(hl:K bs<=999999999)(h:Cn W base v bs):Ar As 115 #[v,Ai 279<|Ah AQ] W λe f=>∃b,e=Ak b/\Cn f base b (bs++[194])/\Below base W f:=by
 obtain⟨m,k,a,n,c,rfl⟩:=h;have d:=T m;have r:=Qu AQ;go_enter func115,ntmps115
 go_wp2_with(first
  |(at_builtin;refine Ke 194 d ?_;intro b i g l q;have j:D<|Cn i base b (bs++[194])/\Below base W i:=TO k d Z g l;obtain⟨p,o,rfl⟩:=ownsRow_succ g))
 go_ret;exact⟨_,Z,j⟩
def vF(l:A1)(hl:K bs<=999999999)(o:K l<=999999999)(h:Cn W base v bs):Ar As 115 #[v,Ai 283<|Ae ⟨Aw l⟩] W λe b=>∃d,e=Ak d/\Cn b base d (bs++(EP (K l)++l))/\Below base W b:=by
 obtain⟨p,m,a,n,c,rfl⟩:=h;have f:D<|Cn W base (G a n c) bs:=⟨p,m,a,n,c,Z⟩
 have t:=XU ⟨Aw l⟩;have u:=XV ⟨Aw l⟩;have w:=XW ⟨Aw l⟩;go_enter func115,ntmps115
 go_wp2_with(first
  |(go_at_call 159;refine Ce (tj hl o f) ?_;rintro e y ⟨x,rfl,g,k⟩;obtain⟨i,j,q,s,r,rfl⟩:=g))
 go_ret;exact⟨_,Z,⟨i,j,_,_,_,Z⟩,k⟩
def vG(hl:K bs<=999999999)(h:Cn W base v bs):Ar As 114 #[v,Ai 268<|Ag #[]] W λe b=>∃d,e=Ak d/\Cn b base d (bs++Dd 7 22)/\Below base W b:=by
 obtain⟨m,l,a,n,c,rfl⟩:=h;have f:D<|Cn W base (G a n c) bs:=⟨m,l,a,n,c,Z⟩
 have r:=XQ;have s:=XR;have t:=XS;have u:=XT;have w:=S0;have x:=S1;go_enter func114,ntmps114
 go_wp2_with(first
  |(go_at_call 155;refine Ce (NU 7 22 E E hl f) ?_;rintro e z ⟨y,rfl,g,k⟩;obtain⟨i,j,o,q,p,rfl⟩:=g))
 go_ret;exact⟨_,Z,⟨i,j,_,_,_,Z⟩,k⟩
def vH(hl:K bs<=999999999)(h:Cn W base v bs):Ar As 114 #[v,Ai 279<|Ah AP] W λe b=>∃d,e=Ak d/\Cn b base d (bs++Dd 7 21)/\Below base W b:=by
 obtain⟨m,l,a,n,c,rfl⟩:=h;have f:D<|Cn W base (G a n c) bs:=⟨m,l,a,n,c,Z⟩
 have r:=Qu AP;go_enter func114,ntmps114
 go_wp2_with(first
  |(go_at_call 155;refine Ce (NU 7 21 E E hl f) ?_;rintro e t ⟨s,rfl,g,k⟩;obtain⟨i,j,o,q,p,rfl⟩:=g))
 go_ret;exact⟨_,Z,⟨i,j,_,_,_,Z⟩,k⟩
def vI(hl:K bs<=999999999)(h:Cn W base v bs):Ar As 114 #[v,Ai 279<|Ah AQ] W λe b=>∃d,e=Ak d/\Cn b base d (bs++Dd 7 20)/\Below base W b:=by
 obtain⟨m,l,a,n,c,rfl⟩:=h;have f:D<|Cn W base (G a n c) bs:=⟨m,l,a,n,c,Z⟩
 have r:=Qu AQ;go_enter func114,ntmps114
 go_wp2_with(first
  |(go_at_call 155;refine Ce (NU 7 20 E E hl f) ?_;rintro e t ⟨s,rfl,g,k⟩;obtain⟨i,j,o,q,p,rfl⟩:=g))
 go_ret;exact⟨_,Z,⟨i,j,_,_,_,Z⟩,k⟩
def vJ(l:A1)(hl:K bs<=999999999)(o:K l<=999999999)(h:Cn W base v bs):Ar As 114 #[v,Ai 283<|Ae ⟨Aw l⟩] W λe b=>∃d,e=Ak d/\Cn b base d (bs++(Dd 3 (K l)++l))/\Below base W b:=by
 obtain⟨p,m,a,n,c,rfl⟩:=h;have f:D<|Cn W base (G a n c) bs:=⟨p,m,a,n,c,Z⟩
 have t:=XU ⟨Aw l⟩;have u:=XV ⟨Aw l⟩;have w:=XW ⟨Aw l⟩;go_enter func114,ntmps114
 go_wp2_with(first
  |(go_at_call 156;refine Ce (te hl o f) ?_;rintro e y ⟨x,rfl,g,k⟩;obtain⟨i,j,q,s,r,rfl⟩:=g))
 go_ret;exact⟨_,Z,⟨i,j,_,_,_,Z⟩,k⟩
def gO{P:Program}(a:P.underlying t=H (.slice e))(b:P.underlying t'=H (.slice e))(s:Aq)(x:Aq):(Builtin.append_ #[t,t'] ty #[s,x]).run P w=(Builtin.append_ #[t,t] ty #[s,x]).run P w:=by cases s<;>simp[Builtin.append_,Mv a,Mv b]
def gP{P:Program}(F:o.guard=Ao){x:Operand}(N:o.op=.call {callee:=.builtin .append,args:=#[s,x],argTypes:=#[t,t']}){i:TypeInfo}{z:Aq}{bytes:I}(g:P.underlying t=H (.slice e))(aa:P.underlying t'=H (.slice e))(hi:P.info? e=H i)(hz:i.zero=H z)(V:i.size=size)(A:i.bytes=bytes)(ab:z.cells.size=size)(W:0<size)(S:a.eval s=v)(R:w.ownsRow base e size v n xs){ad:Addr}(m c:I){news:AJ Aq}(hx:a.eval x=G (H ad) m c)(hl:K news=m*size)(L:∀j u,news[j]?=H u->AC w (ad.add j)=H u)(k:∀u∈news,u.oneCell'=AP)(q:n+m<=maxLen)(B:(n+m)*bytes<=140737488355328)(y:base<=O (U w))(h:∀d b,b.ownsRow base e size d (n+m) (xs++news)->w.grownBy b (Ax v)->wpList P ops Q rest (a.put o.dst d) b):wpList P ops Q (o::rest) a w:=by refine LQ F λac r=>?_;obtain⟨d,b,f,l,p,_⟩:=Re (P:=P) w base t o.type e i z size bytes g hi hz V A ab W v n xs R ad m c news hl L k q B y;rw[<-gO g aa]at f;unfold Oper.wp execOp;simp only[N,resolve,invoke,builtin,GU,Gf,G0,OF,I8,Mw,S,hx,f];exact r _ _<|h d b l p
def Ub{P:Program}(f:o.guard=Ao){x:Operand}(g:o.op=.call {callee:=.builtin .append,args:=#[s,x],argTypes:=#[t,t']}){i:TypeInfo}(c:P.underlying t=H (.slice e))(l:P.underlying t'=H (.slice e))(hi:P.info? e=H i)(k:a.eval s=v)(j:w.ownsRow base e size v n xs)(hx:a.eval x=G Ao 0 0)(h:wpList P ops Q rest (a.put o.dst v) w):wpList P ops Q (o::rest) a w:=by refine LQ f λm d=>?_;have b:=aa (P:=P) (w:=w) base t o.type e i size c hi v n xs j;rw[<-gO c l]at b;unfold Oper.wp execOp;simp only[g,resolve,invoke,builtin,GU,Gf,G0,OF,I8,Mw,k,hx,b];exact d _ _ h
theorem DQ.cell(h:DQ V t size F (G (Aa g) n cap) n xs):∀j u,xs[j]?=H u->AC V ((⟨g,0,Ao⟩:Addr).add j)=H u:=by obtain⟨b,a⟩:=h;grind [Addr.add,cell_of_row]
theorem XX{l:A1}(h:Cn W base v bs)(f:W'.ownsRow base 5 1 v' (K bs+K l)<|bs.map CP++l.map CP)(c:W.grownBy W'<|Ax v):Cn W' base v' (bs++l)/\Below base W W':=by obtain⟨d,b,_⟩:=h;have a:=GX (Cu base W) d c b;refine⟨⟨B9,CE b a.size,?_⟩,a⟩;rcases f.2 with⟨e,_⟩|⟨g,i,j,e,_⟩<;>grind
theorem O4{s:I}:K (Dd s x)<=9:=kfU
theorem vK:K (Gs x)<=9:=by grind [Gs,Im]
theorem vL(hF:∀k,F k->k<base){l:A1}(hl:K bs<=999999999)(an:K l<=999999999)(o:DQ W 5 1 F u (K l)<|l.map CP)(h:Cn W base v bs):Ar As 114 #[v,Ai 219 u] W λe i=>∃f,e=Ak f/\Cn i base f (bs++(Dd 2 (K l)++l))/\Below base W i:=by
 obtain⟨i0,B,ab,ac,ad⟩:=DL Tryz.infoU8;obtain⟨b,Q,a,n,c,rfl⟩:=h;have N:D<|Cn W base (Ac a n c) bs:=⟨b,Q,a,n,c,Z⟩
 have s:Ar As 155 #[Ac a n c,C Am 2,C .u64<|K l] W λe i=>∃f,e=Ak f/\Cn i base f (bs++Dd 2 (K l))/\Below base W i:=NU 2 (K l) B8 E hl N;have R:K (Dd 2<|K l)<=9:=O4;rcases o.2 with⟨rfl,L⟩|⟨g,j,aj,rfl,ak,al,am⟩
 .have V:=R0 L;rw[L]at s R;rw[V];have ae:=S2 Ao 0 0;have af:=S3 Ao 0 0;have ag:=S4 Ao 0 0;have ah:=S5 Ao 0 0;go_enter func114,ntmps114
  go_wp2_with(first
   |(go_at_call 155;refine Ce s ?_;rintro e A ⟨v2,rfl,t,w⟩;obtain⟨z,r,q,y,c2,rfl⟩:=t;have d:D<|Cn A base (Ac q y c2)<|bs++Dd 2 0:=⟨z,r,_,_,_,Z⟩;have m:=T w)
   |(at_builtin;refine Ub Z Z underlying50 underlying219 B Z d.1 Z ?_))
  go_ret;rw[Rd];exact⟨_,Z,d,m⟩
 have P:=T o;have ae:=S2 (Aa g) (K l) j;have af:=S3 (Aa g) (K l) j;have ag:=S4 (Aa g) (K l) j;have ah:=S5 (Aa g) (K l) j;go_enter func114,ntmps114
 go_wp2_with(first
  |(go_at_call 155;refine Ce s ?_;rintro e A ⟨v2,rfl,t,w⟩;obtain⟨z,r,q,y,c2,rfl⟩:=t;have d:D<|Cn A base (Ac q y c2)<|bs++Dd 2 (K l):=⟨z,r,_,_,_,Z⟩;have m:=T w)
  |(at_builtin;refine gP rfl rfl underlying50 underlying219 B ab ac ad rfl B8 rfl d.1 (K l) j rfl Ba (P.same (G:=F) (λk x=>x) λk x=>Co m k<|hF k x).cell (λu o=>by obtain⟨ai,_,rfl⟩:=List.mem_map.mp o;rfl) kfh B9 d.2.1 ?_;intro f w5 aa S;have p:=T<|XX d aa S))
 go_ret;rw[La]at p;exact⟨_,Z,p.1,Cs m p.2⟩
theorem vM(hF:∀k,F k->k<base){l:A1}(hl:K bs<=999999999)(an:K l<=999999999)(j:DQ W 5 1 F u (K l)<|l.map CP)(h:Cn W base v bs):Ar As 115 #[v,Ai 219 u] W λe A=>∃y,e=Ak y/\Cn A base y (bs++(Gs (K l)++l))/\Below base W A:=by
 obtain⟨i0,B,ab,ac,ad⟩:=DL Tryz.infoU8;obtain⟨b,Q,a,n,c,rfl⟩:=h;have N:D<|Cn W base (Ac a n c) bs:=⟨b,Q,a,n,c,Z⟩
 have q:=t8 (K l) E hl N;have R:K (Gs<|K l)<=9:=vK;rcases j.2 with⟨rfl,L⟩|⟨g,f,aj,rfl,ak,al,am⟩
 .have V:=R0 L;rw[L]at q R;rw[V];have ae:=S2 Ao 0 0;have af:=S3 Ao 0 0;have ag:=S4 Ao 0 0;have ah:=S5 Ao 0 0;go_enter func115,ntmps115
  go_wp2_with(first
   |(go_at_call 160;refine Ce q ?_;rintro e z ⟨v2,rfl,r,s⟩;obtain⟨x,p,o,w,c2,rfl⟩:=r;have d:D<|Cn z base (Ac o w c2)<|bs++Gs 0:=⟨x,p,_,_,_,Z⟩;have i:=T s)
   |(at_builtin;refine Ub Z Z underlying50 underlying219 B Z d.1 Z ?_))
  go_ret;rw[Rd];exact⟨_,Z,d,i⟩
 have P:=T j;have ae:=S2 (Aa g) (K l) f;have af:=S3 (Aa g) (K l) f;have ag:=S4 (Aa g) (K l) f;have ah:=S5 (Aa g) (K l) f;go_enter func115,ntmps115
 go_wp2_with(first
  |(go_at_call 160;refine Ce q ?_;rintro e z ⟨v2,rfl,r,s⟩;obtain⟨x,p,o,w,c2,rfl⟩:=r;have d:D<|Cn z base (Ac o w c2)<|bs++Gs (K l):=⟨x,p,_,_,_,Z⟩;have i:=T s)
  |(at_builtin;refine gP rfl rfl underlying50 underlying219 B ab ac ad rfl B8 rfl d.1 (K l) f rfl Ba (P.same (G:=F) (λk t=>t) λk t=>Co i k<|hF k t).cell (λu j=>by obtain⟨ai,_,rfl⟩:=List.mem_map.mp j;rfl) kfh B9 d.2.1 ?_;intro y w5 aa S;have m:=T<|XX d aa S))
 go_ret;rw[La]at m;exact⟨_,Z,m.1,Cs i m.2⟩
def Uf{K:Act->X->Prop}(hi:ops[i]?=H o)(b:o.guard=Ao)(h:o.upon As a K Q<|(execOp a.eval o).run As w):wpOp As ops Q i K a w:=by unfold wpOp;rw[hi];simp only[Region.wanted,b,if_true];exact AF h
theorem Y0{y:Aq}(h:p<a.tmps.size):(a.put (H p) y).eval (.tmp p)=y:=by simp[Act.put,Act.eval,Array.getD,h]
theorem hH(h:i≠j):(a.put (H i) u).put (H j) v=(a.put (H j) v).put (H i) u:=by grind [Act.put,Array.setIfInBounds_comm]
theorem i4(a:Act)(p:I)(y:Aq):(a.put (H p) y).tmps.size=a.tmps.size:=by simp[Act.put]
def i5{b:AU}(a:A6 w g 0<|C Am (b.toNat:J)):(convert 50 9<|G (Aa g) 1 1).run As w=.ok (Ae ⟨#[b]⟩) w:=by refine R5 _ 50 9 5 ⟨g,0,Ao⟩ 1 [b] underlying50 underlying5 underlying9 ?_;intro j c;obtain rfl:j=0:=BO;exact a
theorem O5{oc ob ov:Oper}(c b v n p q:I){f:FuncId}{r:Aq}(u:AU)(ab:ops[c]?=H oc/\ops[b]?=H ob/\ops[v]?=H ov)(N:(oc.guard,oc.dst,ob.guard,ob.dst,ov.guard,ov.dst,ov.op)=(Ao,H n,Ao,H p,Ao,H q,.convert 50 9<|.tmp p))(P:((Region.ready .any ops listed).all (λi=>i==c||i==b)&&(Region.ready .any ops<|Ay listed c AP).all (·==b)&&(Region.ready .any ops<|Ay listed b AP).all (λi=>i==c||i==v)&&(Region.ready .any ops<|Ay (Ay listed c AP) b AP).all (·==v)&&(Region.ready .any ops<|Ay (Ay listed b AP) v AP).all (·==c) && !(Region.ready .any ops listed).isEmpty && !(Region.ready .any ops<|Ay listed c AP).isEmpty && !(Region.ready .any ops<|Ay listed b AP).isEmpty && !(Region.ready .any ops<|Ay (Ay listed c AP) b AP).isEmpty && !(Region.ready .any ops<|Ay (Ay listed b AP) v AP).isEmpty&&_root_.Decidable.decide (c≠b/\c≠v/\b≠v/\n≠p/\n≠q/\p≠q/\p<a.tmps.size))=AP)(A:∀y ac V,(execOp a.eval oc).run As V=.ok (.enter f args) V/\(execOp (a.put (H p) y).eval oc).run As V=.ok (.enter f args) V/\(execOp ((a.put (H p) y).put (H q) ac).eval oc).run As V=.ok (.enter f args) V)(hb:∀V,(execOp a.eval ob).run As V=.ok (.value<|G (H ⟨O<|U V,0,Ao⟩) 1 1) (Az V<|M #[C Am u.toNat] 5)/\(execOp (a.put (H n) r).eval ob).run As V=.ok (.value<|G (H ⟨O<|U V,0,Ao⟩) 1 1) (Az V<|M #[C Am u.toNat] 5))(hC:∀V,Ar As f args V λe l=>e=Ak r/\A0 V l)(o:∀V,A0 w V->S V)(h:∀V y,A0 w V->wpAnyH As .any ops Q S fuel (Ay (Ay (Ay listed c AP) b AP) v AP) (((a.put (H n) r).put (H p) y).put (H q)<|Ae ⟨#[u]⟩) V):wpAnyH As .any ops Q S (fuel+3) listed a w:=by
 simp only[Fj,Hi,W5,Wn,VV,VT,List.isEmpty_eq_false_iff]at P;obtain⟨⟨⟨⟨⟨⟨⟨⟨⟨⟨r1,r2⟩,r3⟩,r4⟩,r5⟩,n1⟩,n2⟩,n3⟩,R⟩,n5⟩,d1,d2,d3,d4,d5,d6,d7⟩:=P;simp only[LP]at N;obtain⟨g1,g2,F,L,g5,g6,g7⟩:=N;obtain⟨o1,W,o3⟩:=ab;have x:∀{a':Act} {V:X} {K:Act->X->Prop},(execOp a'.eval oc).run As V=.ok (.enter f args) V->(∀l,A0 V l->K (a'.put (H n) r) l)->wpOp As ops Q c K a' V:=λ{a' V K} e k=>by refine Uf o1 g1 ?_;rw[e];refine(hC V).mono ?_;grind
 have aa:∀{a':Act} {V:X} {K:Act->X->Prop} {g:I},a'.eval (.tmp p)=G (H ⟨g,0,Ao⟩) 1 1->AC V ⟨g,0,Ao⟩=H (C Am (u.toNat:J))->K (a'.put (H q)<|Ae ⟨#[u]⟩) V->wpOp As ops Q v K a' V:=λ{a' V K g} e k h=>by refine Uf o3 g5 ?_;unfold execOp;simp only[g7,e,GU,i5 k];show K (a'.put ov.dst _) V;rw[g6];exact h
 have cell:∀{V l:X},Below (O (U V)+1) (Az V<|M #[C Am u.toNat] 5) l->AC l ⟨O<|U V,0,Ao⟩=H (C Am (u.toNat:J)):=λ{V l} d=>by rw[d.cell (p:=⟨O<|U V,0,Ao⟩) Ba];simp_all
 have z:∀V:X,O (U<|Az V<|M #[C Am u.toNat] 5)=O (U V)+1:=λV=>Ba;have B:∀V:X,A0 V<|Az V<|M #[C Am u.toNat] 5:=λV=>Cm;refine PT Z n1 λi hi=>?_;rcases r1 i hi with rfl|rfl
 .refine x (A AO AO w).1 λV d=>⟨o V d,PT Z n2 λj m=>?_⟩
  obtain rfl:=r2 j m;refine Uf W F ?_;rw[(hb V).2];show S _/\_;rw[L];have t:=d.trans<|(B V).mono d.size;refine⟨o _ t,PT Z R λj m=>?_⟩;grind [Y0,i4,Below.refl]
 refine Uf W F ?_;rw[(hb w).1];show S _/\_;rw[L];have s:=B w;refine⟨o _ s,PT Z n3 λj m=>?_⟩;rcases r3 j m with rfl|rfl
 .refine x (A _ AO _).2.1 λV d=>?_;have t:=s.trans (d.mono<|by rw[z];omega);simp only[CL,A0]at d;rw[nh _ _ d1.symm,hH d4.symm];refine⟨o _ t,PT Z R λj m=>?_⟩;grind [Y0,i4]
 refine aa (Y0 d7) (cell<|Cu _ _) ⟨o _ s,PT Z n5 λj m=>?_⟩;obtain rfl:=r5 j m;refine x (A _ _ _).2.2 λV d=>?_;have t:=s.trans (d.mono<|by rw[z];omega);grind [hH,Array.setIfInBounds_comm]
def Y1(h:A0 W V)(k:Below (O<|U V) {V with drawn:=V.drawn+1} V'):A0 W V':=h.drew.trans<|k.mono h.size
theorem i6:∀(k x:I),CJ x (k+1)=CJ (x/256) k++[AW<|x%256]
 |0,x=>by simp[CJ]
 |k+1,x=>by rw[CJ,i6 k x,CJ,Kw,Nat.div_div_eq_div_mul,show 256*2^(8*k)=2^(8*(k+1)) by rw[Nat.mul_succ,Nat.pow_add];omega]
theorem EX{l:A1}{m:A1}:(⟨Aw l⟩:AT)++⟨Aw m⟩=⟨Aw<|l++m⟩:=by apply ByteArray.ext;simp
theorem w8(x:J)(h:0<=x/\x<=255):IntKind.u8.wrap x=x:=Bj
theorem Hz(h:x<256):(AW x).toNat=x:=Bv
theorem Pd:∀(k n:I) (W:X),n<=9223372036854775807->k<=8->Ar As 125 #[C Y n,C Y k] W λe i=>e=Ak (CX<|CJ n k)/\A0 W i
 |0,n,W,_,_=>by unfold CX CJ;go_enter func125,ntmps125;go_wp2;go_ret;exact⟨Z,CT⟩
 |k+1,n,W,hn,hk=>by
  have c:=λV=>Pd k (n/256) V E E;obtain⟨u,r⟩:=DF<|AW<|n%256;have l:(n:J).tdiv 256=((n/256:I):J):=B9;have o:(n:J).tmod 256=((n%256:I):J):=B9;have h:D<|IntKind.u8.wrap ((n:J).tmod 256)=(u.toNat:J):=by grind [D,Hz,w8]
  have g:D<|IntKind.i64.wrap ((n:J).tdiv 256)=((n/256:I):J):=by grind [D,If]
  have f:D<|IntKind.i64.wrap (((k+1:I):J)-1)=(k:J):=by grind [D,If]
  have p:(((k+1:I):J)==0)=AQ:=B7;have d:D<|CJ n (k+1)=CJ (n/256) k++[u]:=by grind [D,i6]
  have q:¬(K (CJ (n/256) k)+1>9223372036854775807):=keF;rw[AE d];generalize((k+1:I):J)=k1 at *;go_enter func125,ntmps125
  go_wp2_with fail
  refine Dl (S:=λ_=>True) trivial B6 λa=>Cb 0 7 (C Y n) a <| Ch 1 8 (C Y ((n/256:I):J)) Z (λb _=>by go_simp;exact g) a <| Cb 2 9 (C Y k1) a <| Ch 3 10 (C Y k) Z (λb _=>by go_simp;exact f) a <| Cb 5 12 (C Y n) a <| Ch 6 13 (C Y<|(n:J).tmod 256) Z (λb _=>Bh) a <| Ch 7 14 (C Am u.toNat) Z (λb _=>by go_simp;exact h) a <| O5 4 8 9 11 15 16 u ⟨Z,Z,Z⟩ Z B6 (λ_ _ _=>⟨B6,B6,B6⟩) (λ_=>⟨B6,B6⟩) c (λ_ _=>trivial) λV y j=>?_;refine Ch 10 17 (CX<|CJ (n/256) k++[u]) Z (λb _=>by unfold CX;go_simp;exact EX (m:=[u])) a <| Cb 11 4 (CX<|CJ (n/256) k++[u]) a <| CK ?_;go_simp;go_wp2;go_ret;exact⟨Z,(CT (w:=W)).drew.trans j⟩
def Fo(n:AH):AH:=if n<256 then 0 else if n<65536 then 1 else if n<4294967296 then 2 else 3
theorem S6(n:I):Fo n<=3:=by grind [Fo]
theorem S7(W:X)(n:J):Ar As 123 #[C Y n] W λe f=>e=Ak (C Y ((2^Fo n.toNat:I):J))/\A0 W f:=by
 have h:(n<256/\D (Fo n.toNat=0))\/(¬n<256/\n<65536/\D (Fo n.toNat=1))\/(¬n<256/\¬n<65536/\n<4294967296/\D (Fo n.toNat=2))\/(¬n<256/\¬n<65536/\¬n<4294967296/\D (Fo n.toNat=3)):=by unfold Fo D;by_cases a:n<256<;>grind
 rcases h with⟨a,d⟩|⟨a,b,d⟩|⟨a,b,c,d⟩|⟨a,b,c,d⟩
 all_goals
  go_enter func123,ntmps123;go_wp2;go_ret;rw[AE d];exact⟨Z,CT⟩
theorem Ma(h:j<=m)(a:m<=3):1<=2^j/\2^j<=8:=by rcases(show j=0\/j=1\/j=2\/j=3 by omega)with rfl|rfl|rfl|rfl<;>decide
theorem Ug(W:X)(q:m<=3):Ar As 124 #[C Y ((2^m:I):J)] W λe i=>e=Ak (C Y m)/\A0 W i:=by
 obtain⟨c,h⟩:∃c:I,D<|2^m=c:=⟨_,show _=_ from rfl⟩
 rw[AE h];go_enter func124,ntmps124;go_wp2
 go_loopg[3,4] m (λg l n wr=>∃j b:I,l=C Y j/\n=C Y b/\wr=W/\D (j+g=m)/\D (b=2^j))
 grind [D];obtain⟨j,b,rfl,rfl,rfl,d,r⟩:=hrel;have p:j<=3:=AY<|AE d;have o:b<=8:=by grind [D,Ma]
 obtain _|g:=gk
 .have k:¬(b:J)<(c:J):=by grind [D]
  have f:D<|j=m:=AE d;go_wp2;go_ret;rw[AE f];exact⟨Z,CT⟩
 have k:(b:J)<(c:J):=by have e:=AE d;have:=ab (a:=2) B8 (show j<m by omega);grind [D]
 go_wp2;go_roundg g;exact⟨j+1,b*2,Bb,Bb,Z,B9,by grind [D]⟩;omega
def JS(w:X)(v:J)(b:AU)(a:v=b.toNat):(convert 50 9<|G (Aa<|O<|U w) 1 1).run As (Az w<|M #[C Am v] 5)=.ok (Ae ⟨#[b]⟩) (Az w<|M #[C Am v] 5):=by subst a;exact i5<|Cc (Cj w) 0
def wa(s:I)(h:¬n<24):Dd s n=AW (32*s+24+Fo n)::CJ n (2^Fo n):=by
 unfold Dd Fo;rw[Cl h];by_cases a:n<256
 .rw[Cp E,Cp a]
 rw[Cl E,Cl a];by_cases b:n<65536
 .rw[Cp E,Cp b]
 rw[Cl E,Cl b];by_cases c:n<4294967296
 .rw[Cp E,Cp c]
 rw[Cl E,Cl c]
def Qv(W:World)(s n:Nat)(hs:s<=7)(hn:n<=9223372036854775807):Calls prog 120 #[.int .i64 s,.int .i64 n] W λe F=>e=.returned (CX<|Dd s n)/\Below W.heap.size W F:=by
 by_cases v:n<24
 .obtain⟨u,f⟩:=DF<|UInt8.ofNat<|32*s+n;have k:Hid<|Dd s n=[u]:=by show _=_;unfold Dd;rw[Cp v,f]
  rw[k.out];have hc:=JS W ((s:Int)*32+n) u (by rw[<-f,Hz E];omega);have R:(n:Int)<24:=E;go_enter func120,ntmps120;go_wp2;go_ret;exact⟨Z,Cm⟩
 obtain⟨m,r⟩:=DF<|Fo n;have w:=r▸S6 n;obtain⟨u,f⟩:=DF<|UInt8.ofNat<|32*s+24+m;have x:Hid<|(u.toNat:Int)=(s:Int)*32+(24+m:Nat):=by show _=_;rw[<-f,Hz E];omega
 have k:Hid<|Dd s n=[u]++CJ n (2^m):=by show _=_;rw[wa s v,r,f];rfl
 rw[k.out];have q:=λV=>S7 V (n:Int);rw[OE,r]at q;have t:=λV=>Pd (2^m) n V hn (Ma (Cr m) w).2;have Q:¬(1+(CJ n<|2^m).length>9223372036854775807):=by rw[Im];have:=(Ma (Cr m) w).2;omega
 obtain⟨c,o⟩:∃c:Nat,Hid<|2^m=c:=⟨_,show _=_ from rfl⟩
 rw[o.out]at q t Q ⊢;have R:¬(n:Int)<24:=E;go_enter func120,ntmps120
 go_wp2_with(first|(go_at_call 123;refine(q _).mono ?_;rintro e w2 ⟨rfl,N⟩))
 go_loopg[6,7] m (λg zi zw wr=>∃j d:Nat,zi=.int .i64 ((24+j:Nat):Int)/\zw=.int .i64 d/\wr=w2/\Hid (j+g=m)/\Hid (d=2^j))
 exact⟨0,1,Z,Z,Z,Bg,Z⟩;obtain⟨j,d,rfl,rfl,rfl,h,i⟩:=hrel;have P:j<=3:=AY h.out;have h8:d<=8:=by rw[i.out];exact(Ma (Cr j) P).2
 obtain _|g:=gk
 .obtain rfl:j=m:=h.out;have y:¬(d:Int)<(c:Int):=B3 i.out o.out;have z:Hid<|IntKind.i64.wrap ((s:Int)*32)=(s:Int)*32:=If E;have A:Hid<|IntKind.i64.wrap ((s:Int)*32+(24+j:Nat))=u.toNat:=by show _=_;rw[x.out];exact If E
  have B:Hid<|IntKind.u8.wrap (u.toNat:Int)=u.toNat:=w8 _<|AY u.toNat_lt
  go_wp2_with fail
  refine Dl (S:=λ_=>True) trivial B6 λb=>Cb 0 26 (.int .i64 s) b <| Ch 1 27 (.int .i64<|(s:Int)*32) Z (λp _=>by go_simp<;>exact z.out) b ?_;refine Cb 2 28 (.int .i64 ((24+j:Nat):Int)) b <| Ch 3 29 (.int .i64 u.toNat) Z (λp _=>by go_simp<;>exact A.out) b ?_;refine Ch 4 30 (.int .u8 u.toNat) Z (λp _=>by go_simp<;>exact B.out) b <| Cb 7 33 (.int .i64 n) b <| Cb 8 34 (.int .i64 c) b <| O5 9 5 6 35 31 32 u ⟨rfl,rfl,rfl⟩ rfl B6 (λ_ _ _=>⟨B6,B6,B6⟩) (λ_=>⟨B6,B6⟩) t (λ_ _=>trivial) λV aa L=>?_;refine Ch 10 36 (CX<|[u]++CJ n c) Z (λp _=>by unfold CX;go_simp;exact EX (l:=[u])) b <| Cb 11 4 (CX<|[u]++CJ n c) b <| CK ?_;go_simp;go_wp2;go_ret;exact⟨Z,Y1 N L⟩
 have y:(d:Int)<(c:Int):=by have e:=h.out;have:=ab (a:=2) B8 (show j<m by omega);rw[o.out,<-i.out]at this;omega
 go_wp2;go_roundg g;exact⟨j+1,d*2,Bb,Bb,Z,AZ h.out,by show _=_;rw[i.out,Wg]⟩;omega
def S9:Cn W (O<|U W) (G Ao 0 0) []:=by refine⟨?_,Cr _,Ao,0,0,rfl⟩;exact Fi ..
def jz: String := "internal" ++ (String.singleton (Char.ofNat 47) ++ "strconv.uint64pow10")
def Jr(B:AH)(w:Ap):Prop:=Lib.TabBelow As B w jz .u64 Lib.pow10Tab
def yR(bs:A1):Lib.byteCells bs=bs.map CP:=by unfold Lib.byteCells CP;rfl
theorem yS(i : -9223372036854775808<=z)(j:z<=9223372036854775807)(hl:K bs<=999999999)(h:Cn W base v bs)(l:Jr base W):Ar As 151 #[v,C Y z,C Y 10] W λe b=>∃a,e=Ak a/\Cn b base a (bs++Lib.itoa z)/\Below base W b:=by
 obtain⟨k,f,o⟩:=h;refine Ce (Any.strconv_AppendInt_10 Tryz.laysM176 base (K bs) z i j v (bs.map CP) W k f E<|Eq.mp (congrArg (λs=>Lib.TabBelow As base W s .u64 Lib.pow10Tab) B6) l) ?_;rintro e w ⟨a,rfl,d,c,_⟩;refine⟨a,Z,⟨?_,?_,?_⟩,c⟩
 .rw[Dj,Kb,<-yR<|Lib.itoa z];exact d
 .have:=c.size;omega
 rcases d.2 with⟨e,_⟩|⟨g,m,n,e,_⟩<;>grind
theorem ze(n:I)(h:¬n<32)(c:n<4294967296):EP n=AW (217+Fo n)::CJ n (2^Fo n):=by
 unfold EP Fo;rw[Cl h];by_cases a:n<256
 .rw[Cp E,Cp a];rfl
 rw[Cl E,Cl a];by_cases b:n<65536
 .rw[Cp E,Cp b];rfl
 rw[Cl E,Cl b,Cp c];rfl
theorem jD(W:X)(L:n<4294967296):Ar As 122 #[C Y n] W λe o=>e=Ak (CX<|EP n)/\A0 W o:=by
 by_cases A:n<32
 .obtain⟨u,w⟩:=DF<|AW<|160+n;have b:D<|EP n=[u]:=by grind [D,EP]
  rw[AE b];have B:=JS W (160+(n:J)) u keQ;have v:(n:J)<32:=E;go_enter func122,ntmps122;go_wp2;go_ret;exact⟨Z,Cm⟩
 obtain⟨m,h⟩:=DF<|Fo n;have i:=h▸S6 n;obtain⟨u,w⟩:=DF<|AW<|217+m;have x:D<|(u.toNat:J)=217+m:=by grind [D,Hz]
 have b:D<|EP n=[u]++CJ n (2^m):=by grind [D,ze]
 rw[AE b];have d:=λV=>S7 V (n:J);rw[OE,h]at d;have p:=λV=>Pd (2^m) n V E (Ma (Cr m) i).2;have q:=λV=>Ug V i;have F:¬(1+K (CJ n<|2^m)>9223372036854775807):=by grind [Im,Ma]
 generalize 2^m=kv at *;obtain⟨f,j⟩:=CC<|[u]++CJ n kv;rw[AE j];have v:¬(n:J)<32:=E;have k:D<|IntKind.i64.wrap (217+(m:J))=u.toNat:=by grind [D,If]
 have l:D<|IntKind.u8.wrap (u.toNat:J)=u.toNat:=w8 _ (by grind [D]);go_enter func122,ntmps122
 go_wp2_with(first|(go_at_call 123;refine(d _).mono ?_;rintro e N ⟨rfl,s⟩))
 refine Dl (S:=λ_=>True) trivial B6 λa=>Cb 0 13 (C Y kv) a <| Cb 6 19 (C Y n) a <| Cb 7 20 (C Y kv) a <| CH 1 λz t=>?_;go_simp;refine(q _).mono ?_;rintro e P ⟨rfl,g⟩;refine t.out _ _ a λ_=>?_;refine Ch 2 15 (C Y u.toNat) Z (λc _=>kfy) a <| Ch 3 16 (C Am u.toNat) Z (λc _=>by go_simp<;>exact l) a ?_;refine O5 8 4 5 21 17 18 u ⟨Z,Z,Z⟩ Z B6 (λ_ _ _=>⟨B6,B6,B6⟩) (λ_=>⟨B6,B6⟩) p (λ_ _=>trivial) λV y r=>?_;refine Ch 9 22 (CX f) Z (λc _=>by unfold CX;go_simp;grind [D,EX]) a <| Cb 10 2 (CX f) a <| CK ?_;go_wp2;go_ret;exact⟨B6,Y1 s<|g.trans<|r.mono g.size⟩
def N9(sh lo n:AH):A1:=if n<16 then[AW<|sh+n]else if n<=65535 then AW lo::CJ n 2 else AW (lo+1)::CJ n 4
def jE:N9 144 220 n=KL n/\N9 128 222 n=KN n:=⟨rfl,rfl⟩
theorem jF(W:X)(b lo:I)(q:b<=200)(r:lo<=250)(i:n<=9223372036854775807):Ar As 126 #[C Y b,C Y lo,C Y n] W λe l=>e=Ak (CX<|N9 b lo n)/\A0 W l:=by
 by_cases s:n<16
 .obtain⟨u,j⟩:=DF<|AW<|b+n;have c:D<|N9 b lo n=[u]:=by grind [D,N9]
  rw[AE c];have t:=JS W ((b:J)+(n:J)) u keQ;have o:(n:J)<16:=E;go_enter func126,ntmps126;go_wp2;go_ret;exact⟨Z,Cm⟩
 have o:¬(n:J)<16:=E;by_cases v:n<=65535
 .obtain⟨u,j⟩:=DF<|AW lo;have c:D<|N9 b lo n=[u]++CJ n 2:=by grind [D,N9]
  rw[AE c];have g:=λV=>Pd 2 n V i E;have m:¬(1+K (CJ n 2)>9223372036854775807):=keF;have p:(n:J)<65536:=E;have f:D<|IntKind.u8.wrap (lo:J)=u.toNat:=by grind [D,Hz,w8]
  go_enter func126,ntmps126
  go_wp2_with fail
  refine Dl (S:=λ_=>True) trivial B6 λa=>Cb 0 17 (C Y lo) a <| Ch 1 18 (C Am u.toNat) Z (λd _=>by go_simp<;>exact f) a ?_;refine Cb 4 21 (C Y n) a <| O5 5 2 3 22 19 20 u ⟨Z,Z,Z⟩ Z B6 (λ_ _ _=>⟨B6,B6,B6⟩) (λ_=>⟨B6,B6⟩) g (λ_ _=>trivial) λV y h=>?_;refine Ch 6 23 (CX<|[u]++CJ n 2) Z (λd _=>BI) a <| Cb 7 6 (CX<|[u]++CJ n 2) a <| CK ?_;go_simp;go_wp2;go_ret;exact⟨Z,(Cu _ _).drew.trans h⟩
 obtain⟨u,j⟩:=DF<|AW<|lo+1;have c:D<|N9 b lo n=[u]++CJ n 4:=by grind [D,N9]
 rw[AE c];have g:=λV=>Pd 4 n V i E;have m:¬(1+K (CJ n 4)>9223372036854775807):=keF;have p:¬(n:J)<65536:=E;have k:D<|IntKind.i64.wrap ((lo:J)+1)=u.toNat:=by grind [D,Hz,If]
 have f:D<|IntKind.u8.wrap (u.toNat:J)=u.toNat:=w8 _<|AY u.toNat_lt;go_enter func126,ntmps126
 go_wp2_with fail
 refine Dl (S:=λ_=>True) trivial B6 λa=>Cb 0 24 (C Y lo) a <| Ch 1 25 (C Y u.toNat) Z (λd _=>kfy) a ?_;refine Ch 2 26 (C Am u.toNat) Z (λd _=>by go_simp<;>exact f) a <| Cb 5 29 (C Y n) a <| O5 6 3 4 30 27 28 u ⟨rfl,rfl,rfl⟩ rfl B6 (λ_ _ _=>⟨B6,B6,B6⟩) (λ_=>⟨B6,B6⟩) g (λ_ _=>trivial) λV y h=>?_;refine Ch 7 31 (CX<|[u]++CJ n 4) Z (λd _=>BI) a <| Cb 8 6 (CX<|[u]++CJ n 4) a <| CK ?_;go_simp;go_wp2;go_ret;exact⟨Z,(Cu _ _).drew.trans h⟩
def Pp(z:AI):AH:=if z < -4611686018427387904 then 3 else Fo ((-1-z)*2).toNat
theorem zf(n:I)(h:¬n<128):Ha n=AW (204+Fo n)::CJ n (2^Fo n):=by
 unfold Ha Fo;rw[Cl h];by_cases a:n<256
 .rw[Cp E,Cp a];rfl
 rw[Cl E,Cl a];by_cases b:n<65536
 .rw[Cp E,Cp b];rfl
 rw[Cl E,Cl b];by_cases c:n<4294967296
 .rw[Cp E,Cp c];rfl
 rw[Cl E,Cl c];rfl
theorem zg(z:J)(h:z < -32):Hy z=AW (208+Pp z)::CJ (z%18446744073709551616).toNat (2^Pp z):=by
 unfold Hy Pp Fo;rw[Cl E];by_cases d:z < -4611686018427387904
 .rw[Cp d,Cl E,Cl E,Cl E];rfl
 rw[Cl d];by_cases a : -128<=z
 .rw[Cp a,Cp<|show((-1-z)*2).toNat<256 by omega];rfl
 rw[Cl a,Cl<|show¬((-1-z)*2).toNat<256 by omega];by_cases b : -32768<=z
 .rw[Cp b,Cp<|show((-1-z)*2).toNat<65536 by omega];rfl
 rw[Cl b,Cl<|show¬((-1-z)*2).toNat<65536 by omega];by_cases c : -2147483648<=z
 .rw[Cp c,Cp<|show((-1-z)*2).toNat<4294967296 by omega];rfl
 rw[Cl c,Cl<|show¬((-1-z)*2).toNat<4294967296 by omega];rfl
theorem zh(z:J):Pp z<=3:=by grind [Pp,S6]
def jG{q:J}(hi:i<8)(a:q=z/2^(8*i)):((z%18446744073709551616).toNat/2^(8*i)%256:I)=(q%256).toNat/\q/256=z/2^(8*(i+1)):=by subst a;rcases(show i=0\/i=1\/i=2\/i=3\/i=4\/i=5\/i=6\/i=7 by omega)with rfl|rfl|rfl|rfl|rfl|rfl|rfl|rfl<;>(simp;omega)
theorem zl(W:X)(n:I)(N:n<=9223372036854775807):Ar As 121 #[C Y n] W λe o=>e=Ak (CX<|Ha n)/\A0 W o:=by
 have F:0<=(n:J):=E;by_cases A:n<128
 .obtain⟨u,w⟩:=DF<|AW n;have b:D<|Ha n=[u]:=by grind [D,Ha]
  rw[AE b];have B:=JS W (n:J) u keQ;have v:(n:J)<128:=E;go_enter func121,ntmps121;go_wp2;go_ret;exact⟨Z,Cm⟩
 obtain⟨m,h⟩:=DF<|Fo n;have i:=h▸S6 n;obtain⟨u,w⟩:=DF<|AW<|204+m;have x:D<|(u.toNat:J)=204+m:=by grind [D,Hz]
 have b:D<|Ha n=[u]++CJ n (2^m):=by grind [D,zf]
 rw[AE b];have d:=λV=>S7 V (n:J);rw[OE,h]at d;have p:=λV=>Pd (2^m) n V E (Ma (Cr m) i).2;have q:=λV=>Ug V i;have L:¬(1+K (CJ n<|2^m)>9223372036854775807):=by grind [Im,Ma]
 generalize 2^m=kv at *;obtain⟨f,j⟩:=CC<|[u]++CJ n kv;rw[AE j];have v:¬(n:J)<128:=E;have k:D<|IntKind.i64.wrap (204+(m:J))=u.toNat:=by grind [D,If]
 have l:D<|IntKind.u8.wrap (u.toNat:J)=u.toNat:=w8 _ (by grind [D]);go_enter func121,ntmps121
 go_wp2_with(first|(go_at_call 123;refine(d _).mono ?_;rintro e P ⟨rfl,s⟩))
 refine Dl (S:=λ_=>True) trivial B6 λa=>Cb 0 18 (C Y kv) a <| Cb 6 24 (C Y n) a <| Cb 7 25 (C Y kv) a <| CH 1 λz t=>?_;go_simp;refine(q _).mono ?_;rintro e Q ⟨rfl,g⟩;refine t.out _ _ a λ_=>?_;refine Ch 2 20 (C Y u.toNat) Z (λc _=>kfy) a <| Ch 3 21 (C Am u.toNat) Z (λc _=>by go_simp<;>exact l) a ?_;refine O5 8 4 5 26 22 23 u ⟨Z,Z,Z⟩ Z B6 (λ_ _ _=>⟨B6,B6,B6⟩) (λ_=>⟨B6,B6⟩) p (λ_ _=>trivial) λV y r=>?_;refine Ch 9 27 (CX f) Z (λc _=>by unfold CX;go_simp;grind [D,EX]) a <| Cb 10 2 (CX f) a <| CK ?_;go_wp2;go_ret;exact⟨B6,Y1 s<|g.trans<|r.mono g.size⟩
theorem YB(q:J):∃b:I,b<256/\q%256=b/\(q-b).tdiv 256=q/256/\((q.tmod 256=b-256/\0<b)\/q.tmod 256=b):=by refine⟨(q%256).toNat,E,E,?_,?_⟩<;>grind
theorem zm(hz:z<0)(h1 : -9223372036854775808<=z):Ar As 121 #[C Y z] W λe Q=>e=Ak (CX<|Hy z)/\A0 W Q:=by
 have an:¬0<=z:=E;by_cases am : -32<=z
 .obtain⟨u,hu⟩:=DF<|AW (z%256).toNat;have P:D<|Hy z=[u]:=by grind [D,Hy]
  rw[AE P];have L:=JS W (z+256) u keQ;go_enter func121,ntmps121;go_wp2;go_ret;exact⟨Z,Cm⟩
 obtain⟨m,hm⟩:=DF<|Pp z;have ab:=hm▸zh z;obtain⟨u,hu⟩:=DF<|AW<|208+m;obtain⟨f,HZ⟩:=CC<|(z%18446744073709551616).toNat;have P:D<|Hy z=[u]++CJ f (2^m):=by grind [D,zg]
 rw[AE P];have ao:=(Ma (Cr m) ab).2;have o:=λV al=>S7 V al;have h:=λV=>Ug V ab;have B:D (∀w:X,(convert 50 9<|G (Aa<|O<|U w) 1 1).run As (Az w<|M #[C Am<|208+(m:J)] 5)=.ok (Ae ⟨#[u]⟩) (Az w<|M #[C Am<|208+(m:J)] 5)):=λw=>JS w _ u keQ;have ag:(z < -4611686018427387904/\m=3)\/(¬z < -4611686018427387904/\Fo ((-1-z)*2).toNat=m):=by grind [Pp]
 rcases ag with⟨ae,rfl⟩|⟨ae,hm⟩
 .have ad:∀V,Ar As 124 #[C Y 8] V λe Q=>e=Ak (C Y 3)/\A0 V Q:=h;have ac:D (∀w:X,(convert 50 9<|G (Aa<|O<|U w) 1 1).run As (Az w<|M #[C Am 211] 5)=.ok (Ae ⟨#[u]⟩) (Az w<|M #[C Am 211] 5)):=B
  replace h:=ad
  replace B:=ac
  go_enter func121,ntmps121
  go_wp2_with(first|(go_at_call 123;refine(o _ _).mono ?_;rintro e w2 ⟨rfl,F⟩))
  go_loopg[0,5,6] 8 (λg zq zs zi wr=>∃(q:J) (i:I),zq=C Y q/\zs=Ae ⟨Aw<|CJ f i⟩/\zi=C Y i/\D (i+g=8)/\D (q=z/2^(8*i))/\D (-9223372036854775808<=q/\q<=9223372036854775807)/\D (A0 W wr))
  exact⟨z,0,Z,Z,Z,Bg,BR,⟨h1,E⟩,F⟩;obtain⟨q,i,rfl,rfl,rfl,c,N,j,a⟩:=hrel;have ah:i<=8:=AY<|AE c;have ai:¬(1+K (CJ f i)>9223372036854775807):=keF;obtain _|g:=gk
  .have p:D<|i=8:=AE c;have x:¬(i:J)<8:=AY<|AE p
   go_wp2_with(first|(go_at_call 124;refine(h _).mono ?_;clear h;rintro e w3 ⟨rfl,y⟩;have L:=B.out w3))
   go_ret;refine⟨?_,a.trans<|(y.mono a.size).alloc (CE a.size y.size) _⟩;obtain rfl:=AE p;exact congrArg (λaa=>Ending.returned<|Value.string aa)<|EX (l:=[u])
  have x:(i:J)<8:=AY<|AE c;obtain⟨b,hb,S,d,k⟩:=YB q;obtain⟨v,A⟩:=DF<|AW b;have L:=JS wr (b:J) v (by rw[<-A,Hz hb]);have hn:=jG (AY<|AE c) N.out;have r:D<|CJ f (i+1)=[v]++CJ f i:=by grind [D,CJ]
  have hw:=AE j;have n:wrap64 ((wrap64<|q-b).tdiv 256)=q/256:=kfB;have s:D<|wrap64 ((wrap64<|q-b).tdiv 256)=z/2^(8*(i+1)):=B9;have t:D<|-9223372036854775808<=wrap64 ((wrap64<|q-b).tdiv 256)/\wrap64 ((wrap64<|q-b).tdiv 256)<=9223372036854775807:=by grind [D]
  have aj:=j.out.1;have ak:=j.out.2;clear hn S d n hw A h;rcases k with⟨k,af⟩|k
  .have R:(b:J)-256<0:=E;go_wp2;go_roundg g;exact⟨_,i+1,Z,by rw[AE r,<-EX],Bb,B9,s,t,a.alloc a.size _⟩;omega
  have R:¬(b:J)<0:=E;go_wp2;go_roundg g;exact⟨_,i+1,Z,by rw[AE r,<-EX],Bb,B9,s,t,a.alloc a.size _⟩;omega
 replace o:=λV=>o V<|(-1-z)*2
 rw[hm]at o;generalize 2^m=kv at *;go_enter func121,ntmps121
 go_wp2_with(first|(go_at_call 123;refine(o _).mono ?_;clear o;rintro e w2 ⟨rfl,F⟩))
 go_loopg[0,5,6] kv (λg zq zs zi wr=>∃(q:J) (i:I),zq=C Y q/\zs=Ae ⟨Aw<|CJ f i⟩/\zi=C Y i/\D (i+g=kv)/\D (q=z/2^(8*i))/\D (-9223372036854775808<=q/\q<=9223372036854775807)/\D (A0 W wr))
 exact⟨z,0,Z,Z,Z,Bg,BR,⟨h1,E⟩,F⟩;obtain⟨q,i,rfl,rfl,rfl,c,N,j,a⟩:=hrel;have ah:i<=8:=AY<|AE c;have ai:¬(1+K (CJ f i)>9223372036854775807):=keF;obtain _|g:=gk
 .have p:D<|i=kv:=AE c;have x:¬(i:J)<(kv:J):=AY<|AE p;clear c N j F
  go_wp2_with(first|(go_at_call 124;refine(h _).mono ?_;clear h;rintro e w3 ⟨rfl,y⟩;have L:=B.out w3))
  go_ret;refine⟨?_,a.trans<|(y.mono a.size).alloc (CE a.size y.size) _⟩;obtain rfl:=AE p;exact congrArg (λaa=>Ending.returned<|Value.string aa)<|EX (l:=[u])
 have x:(i:J)<(kv:J):=AY<|AE c;obtain⟨b,hb,S,d,k⟩:=YB q;obtain⟨v,A⟩:=DF<|AW b;have L:=JS wr (b:J) v (by rw[<-A,Hz hb]);have hn:=jG (AY<|AE c) N.out;have r:D<|CJ f (i+1)=[v]++CJ f i:=by grind [D,CJ]
 have hw:=AE j;have n:wrap64 ((wrap64<|q-b).tdiv 256)=q/256:=kfB;have s:D<|wrap64 ((wrap64<|q-b).tdiv 256)=z/2^(8*(i+1)):=B9;have t:D<|-9223372036854775808<=wrap64 ((wrap64<|q-b).tdiv 256)/\wrap64 ((wrap64<|q-b).tdiv 256)<=9223372036854775807:=by grind [D]
 have aj:=j.out.1;have ak:=j.out.2;clear hn S d n hw A h;rcases k with⟨k,af⟩|k
 .have R:(b:J)-256<0:=E;go_wp2;go_roundg g;exact⟨_,i+1,Z,by rw[AE r,<-EX],Bb,B9,s,t,a.alloc a.size _⟩;omega
 have R:¬(b:J)<0:=E;go_wp2;go_roundg g;exact⟨_,i+1,Z,by rw[AE r,<-EX],Bb,B9,s,t,a.alloc a.size _⟩;omega
end
end Go.Proofs.YtaehkdnabiccnaaGreatDoor


