import Derived.Test.YtihfjkjbfaneeaaGreatDoorGq04
set_option maxRecDepth 100000
set_option maxHeartbeats 8000000
set_option linter.all false
namespace Go.Proofs.YtihfjkjbfaneeaaGreatDoor
open Go.Proofs.Tryz
open _root_ renaming Nat->I,Int->J
open Go.Value renaming int->C,slice->T
open _root_.List renaming length->O
open Go.World renaming heap->U
open _root_.Array renaming size->K
open Go.IntKind renaming i64->Y
open Go.RowKit renaming Hid->D
open Go renaming World->X
open Option renaming some->H
open Go.Obj renaming cells->M
open Go.Value renaming int->Ab,slice->Ac,string->Ae,tuple->Af,agg->Ag,bool->Ah,iface->Ai,ownBlock->Ax
open Go.Obj renaming cells->Aj
open Go.Ending renaming returned->Ak
open Go.IntKind renaming i64->Al
open Option renaming none->Ao
open Go renaming DataW->AM,TypeId->AN,undef->AO,World->Ap,Value->Aq,Calls->Ar
open Go.Proofs.Tryz renaming prog->As
open _root_.List renaming length->At,toArray->Aw
open Go.World renaming setCell->AB,cell?->AC,setRow->AD,heap->Av,alloc->Az
open Go.RowKit.Hid renaming out->AE
open Or renaming inl->AF,inr->AG
open _root_ renaming Nat->AH,Int->AI,List->AJ,Bool->AK,Except->AS,ByteArray->AT
open _root_.Bool renaming true->AP,false->AQ
variable{P:Program}{acc bs:A1}{d depth fm l lim r:J}{L N b base cap g i j k last lo n p q tb wi x:I}{rd:I->AS (J×J) (AM Unit×I)}{nm:UInt8->I->A5 J}{c:UInt8}{V V' W W' W0 w w2:X}{s:AT}{F f:J×J}{A args cs tmps:A3}{R:Ending->X->Prop}{ks:AJ A1}{fn:Func}{u u2:Tmp}{t ty:AN}{fr:I×I}{sv v v' v2:Aq}{Q:Exit->Act->X->Prop}{ops:Array Oper}{o:Oper}{a:Act}{pre:AJ DP}{xs ys:AJ Aq}{rs:AJ (AJ (I×A1)×J×J)}
section
open Go.RowKit
theorem VQ{α:Type}{itF:α->I->A5 α}(c:∀a p b q,itF a p=.ok (b,q)->p<q):∀(g p:I) (a b:α) (q:I),Fy bs lim itF last g p a=.ok (b,q)->p<q
 |0,p,a,b,q,h=>by rw[Fy]at h;cases h
 |g+1,p,a,b,q,h=>by
  rw[Fy]at h;split at h
  .cases h
  next u1 p1 h1 =>
  split at h
  .cases h
  next a2 p2 h2 =>
  split at h
  .cases h
  next u3 p3 h3 =>
  have:=KY _ _ _ _ h1;have:=c _ _ _ _ h2;have:=KY _ _ _ _ h3;split at h
  .cases h
  split at h
  .cases h
  split at h
  .grind
  split at h
  .have:=VQ c g _ a2 b q h;omega
  cases h
theorem aM{α:Type}{itF:α->I->A5 α}(b:∀a p a' q,itF a p=.ok (a',q)->p<q){a a':α}(h:G3 bs lim itF last p a=.ok (a',q)):p<q:=by
 unfold G3 at h;split at h
 .cases h
 next u1 p1 h1 =>
 have:=KY _ _ _ _ h1;split at h
 .have:=VQ b _ _ _ _ _ h;omega
 split at h
 .cases h
 split at h
 .grind
 have:=VQ b _ _ _ _ _ h;omega
theorem pv{d:A2}(a:∀p d q,rd p=.ok (d,q)->p<q)(b:∀z q,(c.toNat=45\/Eh c=AP)->nm c p=.ok (z,q)->p<=q)(h:JU bs lim depth wi rd nm c p=.ok (d,q)):p<=q:=by
 unfold JU at h;split at h
 .split at h
  .cases h
  next u r hr =>
  injection h with h;injection h with h1 h2;have:=Oe _ _ _ _ _ _ hr;omega
 split at h
 .split at h
  .cases h
  next u r hr =>
  injection h with h;injection h with h1 h2;have:=Oe _ _ _ _ _ _ hr;omega
 split at h
 .split at h
  .cases h
  next u r hr =>
  injection h with h;injection h with h1 h2;have:=Oe _ _ _ _ _ _ hr;omega
 split at h
 .split at h
  .cases h
  next l r hr =>
  injection h with h;injection h with h1 h2;have:=Pu _ _ _ _ _ _ hr;omega
 split at h
 .split at h
  .cases h
  split at h
  .cases h
  next l r hr =>
  injection h with h;injection h with h1 h2;have:=aM (aJ a) hr;omega
 split at h
 .split at h
  .cases h
  split at h
  .cases h
  next l r hr =>
  injection h with h;injection h with h1 h2;have:=aM (VN a) hr;omega
 grind
theorem SH(s:Cs):∀(g a p:I) (d:A2) (q:I),Fl s.bs s.lim s.depth (Hx s) g a p=.ok (d,q)->p<q
 |0,_,_,_,_,h=>by rw[Fl]at h;cases h
 |g+1,a,p,d,q,h=>by
  rw[Fl]at h;split at h
  .cases h
  split at h
  .cases h
  have:=pv (nm:=Hx s) (SH s g _) (λz q b c=>(VP b c).2) h;omega
theorem aN:∀(g:I) (W:X) (b:I) (s:Cs),Ch W b s->O s.bs<=200000000->(∀V,Cg b W V->U8 V)->7<b->s.depth<=100000->(s.within:J)<=s.depth->s.depth<s.within+g ->
  Ar As 272 #[Ag #[A8 b]] W (Od g W b s (Fl s.bs s.lim s.depth (Hx s) g s.within s.pos))
 |0,W,b,s,_,_,_,_,_,a,h2=>E
 |g+1,W,b,s,h,hlen,hU,h7,hdp,hwd,hgd=>by
  have n:¬s.within=s.depth->Pt g b {s with within:=s.within+1} W (Fl s.bs s.lim s.depth (Hx s) g (s.within+1)):=λm f p k j =>
   aN g f b _ k hlen (λi l=>hU i (j.trans l)) h7 hdp B9 B9
  rcases Ji h with a|a|⟨c,a⟩
  .have e:Fl s.bs s.lim s.depth (Hx s) (g+1) s.within s.pos=.error (9,s.pos):=by rw[Fl,Hm (by have:s.pos=O s.bs:=a;omega)]
   rw[e];exact aL 9 h (λV d=>Ka d a)
  .have e:Fl s.bs s.lim s.depth (Hx s) (g+1) s.within s.pos=.error (8,s.pos):=by rw[Fl,D3 a.1];simp only[];rw[Cn a.2]
   rw[e];exact aL 8 h (λV d=>Kb d a)
  have e:Fl s.bs s.lim s.depth (Hx s) (g+1) s.within s.pos=JU s.bs s.lim s.depth s.within (Fl s.bs s.lim s.depth (Hx s) g (s.within+1)) (Hx s) c (s.pos+1):=by rw[Fl,a.1];simp only[];rw[Ci a.2]
  grind [pu,SH]
def Lw(sp:AH->A5 Unit)(th:AH->AS (AI×AI) (AM Unit×AH))(bs:A1)(lim:AI):AS (AI×AI) (AM Unit) :=
 match sp 0 with
 |.error e=>.error e
 |.ok (_,p0)=>match th p0 with
  |.error e=>.error e
  |.ok (d,p1)=>match sp p1 with
   |.error e=>.error e
   |.ok (_,p2)=>match KS ⟨Ao,bs,0,0,lim,p2,0⟩with
    |.error e=>.error e
    |.ok _=>.ok d
def Mc(k:AH)(W:Ap)(r:AS (AI×AI) (AM Unit))(e:Ending)(W':Ap):Prop :=
 A0 W W'/\match r with
 |.ok d=>∃t y,e=Ak (Ai t y)/\Cv k W' (λj=>_root_.Array.size (Av W)<=j/\j<_root_.Array.size (Av W')) (Ai t y) d
 |.error (en,pl)=>CV en pl e
theorem QF.toJ{s:Cs}{r:AS (J×J) (AM Unit×I)}{e:Ending}(h:QF k W b s r e W'):Od k W b s r e W':=by refine⟨h.1,?_⟩;have a:=h.2;grind
def rT(js:AK):AN:=bif js then 215 else 218
def rV(js:AK)(f b:AH):Aq:=bif js then Ag #[A8 b]else Ag #[A8 b,.func (.func f) #[] #[]]
def rW(js:AK)(b:AH):Aq:=bif js then Ag #[A8 b]else A8 b
def rS(js:AK):FuncId:=bif js then 273 else 267
def rR(js:AK):FuncId:=bif js then 272 else 301
theorem VR(n:AK)(k:I)(fm:J)(f:I){ia:A4}(h:Fi W ia bs){sp:I->A5 Unit}{th:I->AS (J×J) (AM Unit×I)}(cR:∀V,Fi V ia bs->Ar As 80 #[C Y fm,Ag #[C Y d,C Y l],T ia (O bs) cap] V λe W'=>∃b,e=Ak (Ai (rT n) (rV n f b))/\Ch W' b ⟨ia,bs,cap,d,l,0,0⟩/\K (U V)<=b/\A0 V W')(cS:∀(b:I) (V:X) (p:I),K (U W)<=b->Ch V b ⟨ia,bs,cap,d,l,p,0⟩->Ar As (rS n) #[rW n b] V (GS V b ⟨ia,bs,cap,d,l,p,0⟩ (λ_:Unit=>Af #[]) (sp p)))(cT:∀(b:I) (V:X) (p:I),K (U W)<=b->A0 W V->Ch V b ⟨ia,bs,cap,d,l,p,0⟩->Ar As (rR n) #[rV n f b] V (Od k V b ⟨ia,bs,cap,d,l,p,0⟩ (th p))):Ar As 43 #[C Y fm,Ag #[C Y d,C Y l],T ia (O bs) cap] W (Mc k W (Lw sp th bs l)):=by
 have ag:Below _ W (Az W (M #[C Y d,C Y l] 94)):=Cl;have ab:=G ag;have cN:=cR _ (h.below ag);obtain⟨ay,HR⟩:=CA (Lw sp th bs l);rw[AE HR];have a:=AE HR;unfold Lw at a;cases n
 case' false=>let z:AK:=AQ
 case' true=>let z:AK:=AP
 all_goals
  dsimp only[rT,rV,rS,rW,rR,cond]at *;go_enter func43,ntmps43
  go_wp2_with(first
   |(go_at_call 80;apply cN.mono;rintro e w2 ⟨b,rfl,hS,a0,R⟩))
  have ac:=G (ab.trans (R.mono ab.size));have c:K (U W)<=b:=BI;have A:=cS b w2 0 c hS;have ak:=λV p hV=>cS b V p c hV;have al:=λV p R hV=>cT b V p c R hV;apply Sl (y:=(rS z,rW z b)) (w:=w2) B6;dsimp only[z,rS,rW,cond]
  go_wp2_with fail
  rcases h1:sp 0 with m|v
  .obtain⟨i,o⟩:=m;rw[h1]at a A;simp only[]at a;subst a;apply A.mono;rintro e P ⟨t,hF⟩;obtain rfl:=(show CV i o e from hF)
   go_wp2;exact⟨Z,MW ac t c,Z⟩
  obtain⟨u0,p0⟩:=v;rw[h1]at a A;simp only[]at a;apply A.mono;rintro e P ⟨t,an⟩;obtain⟨rfl,af⟩:=(show e=Ak (.tuple _)/\Ch P b ⟨ia,bs,cap,d,l,p0,0⟩from an)
  have S:=G (MW ac t c);have F:=al P p0 S af;have aw:=G (Cc af.row)
  go_wp2_with fail
  apply Sl (y:=(rR z,rV z f b)) (w:=P) B6;dsimp only[z,rR,rV,cond]
  go_wp2_with fail
  rcases h2:th p0 with m|dq
  .obtain⟨i,o⟩:=m;rw[h2]at a F;simp only[]at a;subst a;apply F.mono;rintro e q ⟨aa,hF⟩;obtain rfl:=(show CV i o e from hF)
   go_wp2;exact⟨Z,MW S aa c,Z⟩
  obtain⟨L,p1⟩:=dq;rw[h2]at a F;simp only[]at a;apply F.mono;rintro e q ⟨aa,ao⟩;obtain⟨⟨ax,y,rfl,am⟩,ar⟩:=(show(∃ax y,e=Ak _/\Cv k q _ _ L)/\Ch q b ⟨ia,bs,cap,d,l,p1,0⟩from ao)
  have ad:=G (MW S aa c);have av:=AE aw;have HD:D (Cv k q (λj=>b<j/\j<K (U q)) _ L):=am.same (λj g=>⟨CK av g.1,g.2⟩) (λ_ _=>rfl);have B:=ak q p1 ar
  go_wp2_with fail
  apply Sl (y:=(rS z,rW z b)) (w:=q) B6;dsimp only[z,rS,rW,cond]
  go_wp2_with fail
  rcases h3:sp p1 with m|v
  .obtain⟨i,o⟩:=m;rw[h3]at a B;simp only[]at a;subst a;apply B.mono;rintro e r ⟨s,hF⟩;obtain rfl:=(show CV i o e from hF)
   go_wp2;exact⟨Z,MW ad s c,Z⟩
  obtain⟨u2,N⟩:=v;rw[h3]at a B;simp only[]at a;apply B.mono;rintro e r ⟨s,ap⟩;obtain⟨rfl,au⟩:=(show e=Ak (.tuple _)/\Ch r b ⟨ia,bs,cap,d,l,N,0⟩from ap)
  have ae:=G (MW ad s c);have ai:D (Cv k r (λj=>b<j/\j<K (U r)) _ L):=HD.same (λj g=>⟨g.1,CK g.2 s.size⟩) (λj g=>s.block j g.2 E);have x:Ar _ _ _ r (GS r b ⟨ia,bs,cap,d,l,N,0⟩ _ (KS ⟨Ao,bs,0,0,l,N,0⟩)):=mW au
  go_wp2_with fail
  apply Sl (y:=(266,A8 b)) (w:=r) B6
  go_wp2_with fail
  rcases h4:KS ⟨Ao,bs,0,0,l,N,0⟩with m|v
  .obtain⟨i,o⟩:=m;rw[h4]at a x;simp only[]at a;subst a;apply x.mono;rintro e Q ⟨u,hF⟩;obtain rfl:=(show CV i o e from hF)
   go_wp2;exact⟨Z,MW ae u c,Z⟩
  obtain⟨u4,p4⟩:=v;rw[h4]at a x;simp only[]at a;subst a;apply x.mono;rintro e Q ⟨u,aq⟩;obtain⟨rfl,az⟩:=(show e=Ak (.tuple _)/\Ch Q b ⟨ia,bs,cap,d,l,p4,0⟩from aq)
  have aj:D (Cv k Q (λj=>K (U W)<=j/\j<K (U Q)) _ L):=ai.same (λj g=>⟨E,CK g.2 u.size⟩) (λj g=>u.block j g.2 E);have ah:=G (MW ae u c);go_wp2;go_ret;exact⟨ah,_,_,Z,aj⟩
structure Lx(W:World):Prop where
 u8:U8 W
 hd:Iq W
 big:9<=W.heap.size
theorem U8.but(h:U8 W)(e:Cg b W V)(j:7<b)(hb:9<=K (U W)):U8 V:=by have a:∀(q off:I) (v:Aq),q<=7->AC W _=H v->A6 V q off v:=λq off v k g=>(JN (e.block q E E)).trans g;exact⟨λc f=>a _ _ _ B8 (h.1 c f),λi d=>⟨a _ _ _ B8 (h.2 i d).1,a _ _ _ B8 (h.2 i d).2⟩⟩
theorem Lx.below(h:Lx W)(hb:A0 W V):Lx V:=⟨h.u8.below hb,h.hd.below hb,Cy h.big hb.size⟩
theorem pw:(List.range 256).all (λc=>_root_.Decidable.decide ((E2 c).1<=10/\(E2 c).2.1<=8/\((E2 c).2.1=0\/(E2 c).2.2=0)/\(E2 c).2.2<18446744073709551616))=AP:=B6
theorem VS:∀c,c<256->(E2 c).1<=10/\(E2 c).2.1<=8/\((E2 c).2.1=0\/(E2 c).2.2=0)/\(E2 c).2.2<18446744073709551616:=λc a=>Dk (GN.1 pw c (Hn.2 a))
theorem px:(List.range 256).all (λc=>_root_.Decidable.decide ((Dy c).1<=10/\(Dy c).2.1<=8/\((Dy c).2.1=0\/(Dy c).2.2=0)/\(Dy c).2.2<18446744073709551616))=AP:=B6
theorem VT:∀c,c<256->(Dy c).1<=10/\(Dy c).2.1<=8/\((Dy c).2.1=0\/(Dy c).2.2=0)/\(Dy c).2.2<18446744073709551616:=λc a=>Dk (GN.1 px c (Hn.2 a))
theorem py(h:Iq W)(hb:1<b):N7 111 E2 b W :=
 ⟨AF rfl,λc a=>(VS c a).1,λc a=>(VS c a).2,λc V d=>ng (W:=V) c.toNat_lt (h.but d hb)⟩
theorem pA(h:Iq W)(hb:1<b):N7 112 Dy b W :=
 ⟨AG rfl,λc a=>(VT c a).1,λc a=>(VT c a).2,λc V d=>ni (W:=V) c.toNat_lt (h.but d hb)⟩
def Jo(fm:AI)(bs:A1)(lim:AI)(p:AH):A5 Unit:=if fm=1 then DL bs lim (At bs+1-p) p else .ok ((),p)
def GY(fm:AI)(bs:A1)(d lim:AI)(p:AH):AS (AI×AI) (AM Unit×AH) :=
 if fm=1 then Fl bs lim d (λc p=>GT ⟨Ao,bs,0,0,lim,p,0⟩ c) (d.toNat+1) 0 p else if fm=2 then DM E2 bs lim d (d.toNat+1) 0 p else DM Dy bs lim d (d.toNat+1) 0 p
def DN(fm:AI)(bs:A1)(d lim:AI):AS (AI×AI) (AM Unit):=Lw (Jo fm bs lim) (GY fm bs d lim) bs lim
theorem pC{ia:A4}(u:fm=1\/fm=2\/fm=3)(h:Fi W ia bs)(g:Lx W)(o:0<=d)(q:d<=100000)(s:O bs<=200000000):Ar As 43 #[C Y fm,Ag #[C Y d,C Y l],T ia (O bs) cap] W (Mc (d.toNat+1) W (DN fm bs d l)):=by
 have v:=g.big;rcases u with rfl|rfl|rfl
 .have i:Jo 1 bs l=λp=>DL bs l (O bs+1-p) p:=by grind [Jo]
  have j:GY 1 bs d l=λp=>Fl bs l d (λc p=>GT ⟨Ao,bs,0,0,l,p,0⟩ c) (d.toNat+1) 0 p:=by grind [GY]
  unfold DN;rw[i,j];refine VR AP _ 1 0 h (λV m=>Vo cap m 1 (AF ⟨Z,Z⟩)) (λb V p n a=>Qt a) (λb V p n f a=>?_);exact aN _ V b _ a s (λt k=>(g.below f).u8.but k E (g.below f).big) E q BY B9
 .have i:Jo 2 bs l=λp=>.ok ((),p):=by grind [Jo]
  have j:GY 2 bs d l=λp=>DM E2 bs l d (d.toNat+1) 0 p:=by grind [GY]
  unfold DN;rw[i,j];refine VR AQ _ 2 111 h (λV m=>Vo cap m 2 (AG ⟨_,AF ⟨Z,Z⟩,Z⟩)) (λb V p n a=>(aO V b).mono ?_) (λb V p n f a=>?_)
  .rintro e w ⟨rfl,rfl⟩;exact⟨Cg.refl _ _,Z,a⟩
  exact(VL E2 _ _ V b _ a s (λt k=>(g.below f).u8.but k E (g.below f).big) E (py (g.below f).hd E) q BY B9).mono λe w r=>r.toJ
 have i:Jo 3 bs l=λp=>.ok ((),p):=by grind [Jo]
 have j:GY 3 bs d l=λp=>DM Dy bs l d (d.toNat+1) 0 p:=by grind [GY]
 unfold DN;rw[i,j];refine VR AQ _ 3 112 h (λV m=>Vo cap m 3 (AG ⟨_,AG ⟨Z,Z⟩,Z⟩)) (λb V p n a=>(aO V b).mono ?_) (λb V p n f a=>?_)
 .rintro e w ⟨rfl,rfl⟩;exact⟨Cg.refl _ _,Z,a⟩
 exact(VL Dy _ _ V b _ a s (λt k=>(g.below f).u8.but k E (g.below f).big) E (pA (g.below f).hd E) q BY B9).mono λe w r=>r.toJ
theorem pD{f:FuncId}{p:Prop}(h:Ar P f args w R)(c:∀e a,R e a->p):p:=by obtain⟨e,a,fr,b,_⟩:=h [];exact c e a b
def Dz{α:Type}(r:AS (AI×AI) α):Prop:=∀en pl,r=.error (en,pl)->en≠0
theorem Pv:∀(k p a:I),Dz (CR bs lim k p a)
 |0,p,a,en,pl,h=>by rw[CR]at h;cases h
 |k+1,p,a,en,pl,h=>by
  rw[CR]at h
  repeat' split at h
  all_goals first|(injection h with h;grind)|exact Pv k _ _ en pl h
theorem VU{so w:J}{p:J}:Dz (Fj so w x p):=λa b h=>by grind [Fj]
theorem aP:∀(k p:I) (a:A1),Dz (EJ bs lim k p a)
 |0,p,a,en,pl,h=>by rw[EJ]at h;cases h
 |k+1,p,a,en,pl,h=>by
  rw[EJ]at h
  repeat' split at h
  all_goals first|(injection h with h;grind)|exact aP k _ _ en pl h
theorem SI:∀(k p:I) (a:A1) (b:I),Dz (Dm bs lim k p a b)
 |0,p,a,b,en,pl,h=>kfc
 |k+1,p,a,b,en,pl,h=>by
  rw[Dm]at h;split at h
  .grind
  split at h
  .grind
  split at h
  .grind
  exact SI k _ _ _ en pl h
theorem pE(c:I->I×I×I):Dz (E8 c bs lim ks p):=λa b h=>by
 unfold E8 at h;split at h
 .grind
 split at h
 .grind
 split at h
 .split at h
  .next e he=>injection h with h;subst h;exact Pv _ _ _ a b he
  split at h
  .next e he=>injection h with h;subst h;exact SI _ _ _ _ a b he
  grind
 grind
theorem aQ(a:∀p,Dz (rd p)):∀(n p:I) (acc:AJ (AM Unit)),Dz (GD rd n p acc)
 |0,p,acc,en,pl,h=>by grind [GD]
 |n+1,p,acc,en,pl,h=>by
  rw[GD]at h;split at h
  .next e he=>injection h with h;subst h;exact a _ en pl he
  exact aQ a n _ _ en pl h
theorem aR{kf:AJ A1->I->A5 A1}(b:∀a p,Dz (kf a p))(c:∀p,Dz (rd p)):∀(n p:I) (a:AJ A1) (acc:AJ (Lit×AM Unit)),Dz (Gj kf rd n p a acc)
 |0,p,a,acc,en,pl,h=>by grind [Gj]
 |n+1,p,a,acc,en,pl,h=>by
  rw[Gj]at h;split at h
  .next e he=>injection h with h;subst h;exact b _ _ en pl he
  split at h
  .next e he=>injection h with h;subst h;exact c _ en pl he
  exact aR b c n _ _ _ en pl h
theorem pF{li:I->I->AS (J×J) (AJ (AM Unit)×I)}{ma:I->I->AS (J×J) (AJ (Lit×AM Unit)×I)}{so w:I}(c:so=9->∀x q,Dz (li x q))(d:so=10->∀x q,Dz (ma x q)):Dz (G0 bs lim li ma so w x q):=λa b h=>by
 unfold G0 at h;split at h
 .cases h
 .cases h
 .split at h
  .next e he=>injection h with h;subst h;exact VU a b he
  cases h
 .split at h
  .next e he=>injection h with h;subst h;exact VU a b he
  cases h
 .split at h
  .next e he=>injection h with h;subst h;exact VU a b he
  cases h
 .split at h
  .next e he=>injection h with h;subst h;exact aP _ _ _ a b he
  cases h
 .split at h
  .next e he=>injection h with h;subst h;exact SI _ _ _ _ a b he
  cases h
 .split at h
  .next e he=>injection h with h;subst h;exact c Z _ _ a b he
  cases h
 .split at h
  .next e he=>injection h with h;subst h;exact d Z _ _ a b he
  cases h
 cases h
theorem SJ(b:I->I×I×I):∀(g a p:I),(a:J)<=depth->depth<a+g->Dz (DM b bs lim depth g a p)
 |0,a,p,h1,h2,_,_,_=>E
 |g+1,a,p,h1,h2,en,pl,h=>by
  rcases hc:bs[p]? with _|c
  .grind [DM]
  by_cases k:(p:J)=lim
  .grind [DM]
  rw[SB hc k rfl]at h;split at h
  .grind
  split at h
  .grind
  next hn =>
  split at h
  .next e he=>injection h with h;subst h;exact Pv _ _ _ en pl he
  have f:¬a=depth->∀q,Dz (DM b bs lim depth g _ q):=λl q=>SJ b g (a+1) q E E;exact pF (λj x q=>aQ (f (λd=>hn ⟨AF j,d⟩)) _ _ _) (λi x q=>aR (λm p=>pE b) (f (λd=>hn ⟨AG i,d⟩)) _ _ _ _) en pl h
theorem Oh:∀(k p:I),Dz (DL bs lim k p)
 |0,p,en,pl,h=>by rw[DL]at h;cases h
 |k+1,p,en,pl,h=>by
  rw[DL]at h;split at h
  .cases h
  split at h
  .grind
  split at h
  .exact Oh k _ en pl h
  cases h
theorem Md:∀(l:A1) (p:I),Dz (Dn bs lim l p)
 |[],p,en,pl,h=>kfd
 |x::xs,p,en,pl,h=>by
  rw[Dn]at h;split at h
  .grind
  split at h
  .grind
  split at h
  .exact Md xs _ en pl h
  grind
theorem QJ(bs:A1)(lim:J):∀(k p a:I),Dz (E3 bs lim k p a)
 |0,p,a,en,pl,h=>by rw[E3]at h;cases h
 |k+1,p,a,en,pl,h=>by
  rw[E3]at h;split at h
  .grind
  split at h
  .grind
  split at h
  .grind
  exact QJ bs lim k _ _ en pl h
theorem pG:Dz (Ir bs lim p):=λa b h=>by
 unfold Ir at h;split at h
 .next e he=>injection h with h;subst h;exact QJ _ _ _ _ _ a b he
 split at h
 .grind
 split at h
 .split at h
  .next e he=>injection h with h;subst h;exact Md _ _ a b he
  split at h
  .next e he=>injection h with h;subst h;exact QJ _ _ _ _ _ a b he
  grind
 cases h
theorem VV(bs:A1)(lim:J)(p:I):Dz (Hp bs lim p):=λa b h=>by
 unfold Hp at h;split at h
 .grind
 split at h
 .grind
 repeat' split at h
 all_goals first|(injection h with h;grind)|exact pG a b h|cases h
theorem QK:∀(g p:I) (a:A1) (b:I),Dz (Dr bs lim g p a b)
 |0,p,a,b,en,pl,h=>by grind [Dr]
 |g+1,p,a,b,en,pl,h=>by
  rw[Dr]at h;split at h
  .grind
  split at h
  .grind
  split at h
  .cases h
  split at h
  .split at h
   .next e he=>injection h with h;subst h;exact VV _ _ _ en pl he
   exact QK g _ _ _ en pl h
  split at h
  .grind
  split at h
  .grind
  exact QK g _ _ _ en pl h
theorem VW{most:I}{z:AK}:∀(g p a:I),Dz (DZ bs lim most z g p a)
 |0,p,a,en,pl,h=>by grind [DZ]
 |g+1,p,a,en,pl,h=>by
  unfold DZ at h;split at h
  .cases h
  split at h
  .grind
  split at h
  .split at h
   .grind
   split at h
   .grind
   exact VW g _ _ en pl h
  grind
theorem aS{s:Cs}:Dz (GT s c):=λa b h=>by
 unfold GT at h;split at h
 .split at h
  .grind
  split at h
  .grind
  split at h
  .split at h
   .cases h
   next e he=>injection h with h;subst h;exact VW _ _ _ a b he
  grind
 split at h
 .cases h
 next e he=>injection h with h;subst h;exact VW _ _ _ a b he
theorem VX{α:Type}{itF:α->I->A5 α}(b:∀a p,Dz (itF a p)):∀(g p:I) (a:α),Dz (Fy bs lim itF last g p a)
 |0,p,a,en,pl,h=>by grind [Fy]
 |g+1,p,a,en,pl,h=>by
  rw[Fy]at h;split at h
  .next e he=>injection h with h;subst h;exact Oh _ _ en pl he
  split at h
  .next e he=>injection h with h;subst h;exact b _ _ en pl he
  split at h
  .next e he=>injection h with h;subst h;exact Oh _ _ en pl he
  split at h
  .grind
  split at h
  .grind
  split at h
  .cases h
  split at h
  .exact VX b g _ _ en pl h
  grind
theorem aT{α:Type}{itF:α->I->A5 α}(d:∀a p,Dz (itF a p)){a:α}:Dz (G3 bs lim itF last p a):=λb c h=>by
 unfold G3 at h;split at h
 .next e he=>injection h with h;subst h;exact Oh _ _ b c he
 split at h
 .exact VX d _ _ _ b c h
 split at h
 .grind
 split at h
 .cases h
 exact VX d _ _ _ b c h
theorem pH(c:∀p,Dz (rd p))(a:AJ (AM Unit))(p:I):Dz (FL rd a p):=λb d h=>by
 unfold FL at h;split at h
 .next e he=>injection h with h;subst h;exact c _ b d he
 cases h
theorem pI:Dz (J2 bs lim ks p):=λa b h=>by
 unfold J2 at h;split at h
 .next e he=>injection h with h;subst h;exact Md _ _ a b he
 split at h
 .next e he=>injection h with h;subst h;exact QK _ _ _ _ a b he
 grind
theorem aU(d:∀p,Dz (rd p))(a:AJ A1×AJ (Lit×AM Unit))(p:I):Dz (Fk bs lim rd a p):=λb c h=>by
 unfold Fk at h;split at h
 .next e he=>injection h with h;subst h;exact pI b c he
 split at h
 .next e he=>injection h with h;subst h;exact Oh _ _ b c he
 split at h
 .next e he=>injection h with h;subst h;exact Md _ _ b c he
 split at h
 .next e he=>injection h with h;subst h;exact Oh _ _ b c he
 split at h
 .next e he=>injection h with h;subst h;exact d _ b c he
 cases h
theorem pJ(d:¬(wi:J)=depth->∀p,Dz (rd p))(f:∀c p,Dz (nm c p)):Dz (JU bs lim depth wi rd nm c p):=λa b h=>by
 unfold JU at h;split at h
 .split at h
  .next e he=>injection h with h;subst h;exact Md _ _ a b he
  cases h
 split at h
 .split at h
  .next e he=>injection h with h;subst h;exact Md _ _ a b he
  cases h
 split at h
 .split at h
  .next e he=>injection h with h;subst h;exact Md _ _ a b he
  cases h
 split at h
 .split at h
  .next e he=>injection h with h;subst h;exact QK _ _ _ _ a b he
  cases h
 split at h
 .split at h
  .grind
  next hn =>
  split at h
  .next e he=>injection h with h;subst h;exact aT (pH (d hn)) a b he
  cases h
 split at h
 .split at h
  .grind
  next hn =>
  split at h
  .next e he=>injection h with h;subst h;exact aT (aU (d hn)) a b he
  cases h
 split at h
 .split at h
  .next e he=>injection h with h;subst h;exact f _ _ a b he
  cases h
 grind
theorem VY(b:∀c p,Dz (nm c p)):∀(g a p:I),(a:J)<=depth->depth<a+g->Dz (Fl bs lim depth nm g a p)
 |0,a,p,h1,h2,_,_,_=>E
 |g+1,a,p,h1,h2,en,pl,h=>by
  rw[Fl]at h;split at h
  .grind
  split at h
  .grind
  exact pJ (λd q=>VY b g _ q E E) b en pl h
theorem pK(b:0<=d):Dz (GY fm bs d l p):=λa e h=>by
 unfold GY at h;split at h
 .exact VY (λc p=>aS) _ _ _ BB E a e h
 split at h
 .exact SJ _ _ _ _ BB E a e h
 exact SJ _ _ _ _ BB E a e h
theorem QL(fm:J)(bs:A1)(d l:J)(f:0<=d):Dz (DN fm bs d l):=λa b h=>by
 have c:∀p,Dz (Jo fm bs l p):=λp a b h=>by
  unfold Jo at h;split at h
  .exact Oh _ _ a b h
  cases h
 unfold DN Lw at h;split at h
 .next e he=>injection h with h;subst h;exact c _ a b he
 split at h
 .next e he=>injection h with h;subst h;exact pK f a b he
 split at h
 .next e he=>injection h with h;subst h;exact c _ a b he
 grind [KS]
end
section
open Go.RowKit Go.Lib
theorem pQ{P:Program}{fn:Func}{p u u2:Tmp}{ty:AN}(h:fn.results=#[.tmp u,.tmp u2,.cell p ty]){tmps:A3}{w:X}{g:I}{t:AN}{cs:A3}{fr:I×I}{d:TypeDesc}(f:tmps.getD p AO=A8 g)(c:w.heap[g]?=H (M cs t fr))(i:P.underlying ty=H d)(b:(match d with|.struct _|.array _ _=>AP|_=>AQ)=AP)(hi:(P.info? ty).map (·.size)=H cs.size){v v2:Aq}(j:tmps.getD u AO=v)(k:tmps.getD u2 AO=v2):(results fn tmps).run P w=.ok (Af #[v,v2,.agg cs]) w:=by have e:(results fn tmps).run P w=((asAddr (tmps.getD p AO)).run P w).andThen λa l=>((loadVar ty a).run P l).andThen λv m=>.ok (Af #[tmps.getD u AO,tmps.getD u2 AO,v]) m:=Bk;subst j k;rw[e,f];simp only[asAddr,Ga,FT,Jd w g t ty cs fr d c i b hi]
theorem pR{p:Tmp}(h:fn.results=#[.tmp u,.tmp u2,.cell p 103])(a:A7 w g (Cd F) 103)(b:tmps.getD p AO=A8 g)(c:tmps.getD u AO=v)(d:tmps.getD u2 AO=v2):(results fn tmps).run As w=.ok (Af #[v,v2,.agg (Cd F)]) w :=
 pQ h b a underlying103 rfl (Ke) c d
theorem Hz{p:Tmp}{A:Act}{B:Prop}(h:fn.results=#[.tmp u,.tmp u2,.cell p 103])(c:A7 w g (Cd F) 103/\B)(v a:Aq)(d:A.tmps.getD p AO=A8 g)(e:A.tmps.getD u AO=v)(f:A.tmps.getD u2 AO=a)(b:A.defers=[])(k:R (Ak (Af #[v,a,.agg (Cd F)])) w):bodyPost As fn R .ret A w:=CL (pR h c.1 d e f) b k
structure Hb(W:World)(A:A3)(M:Nat)(f:Int×Int)(V:World):Prop where
 box:V.heap[W.heap.size]?=some (.cells A 115)
 flt:V.heap[W.heap.size+1]?=some (.cells (Cd (0,0)) 103)
 loc:V.heap[M]?=some (.cells (Cd f) 103)
 below:A0 W V
 lt:W.heap.size+1<M
theorem Hb.next{M:I}(h:Hb W A M f V)(hb:A0 V V'):Hb W A M f V' :=
 ⟨(hb.block _ (Cc h.box)).trans h.box,(hb.block _ (Cc h.flt)).trans h.flt,(hb.block _ (Cc h.loc)).trans h.loc,h.below.trans (hb.mono h.below.size),h.lt⟩
theorem Hb.drew{M:I}(h:Hb W A M f V):Hb W A M f V.drew:=⟨h.box,h.flt,h.loc,h.below.drew,h.lt⟩
theorem Hb.put{M:I}(h:Hb W A M f V)(g:J×J):Hb W A M g (AD V M (Cd g)):=by have a:=h.lt;exact⟨sx E h.box,sx E h.flt,CM _ _ _ _ _ _ h.loc,Dj h.below E,h.lt⟩
theorem aY(h:Iu W A (K (U W)+1) V){g:J×J}:Hb W A (K (U V)) g ((Az V (M (Cd (0,0)) 103)).setRow (K (U V)) (Cd g)):=by
 have a:=Cc h.flt;have b:Hb W A _ _ (Az V (M (Cd (0,0)) _)) :=
  ⟨(Cx _ _ _ E).trans h.box,(Cx _ _ _ a).trans h.flt,Cj _,h.below.alloc E _,a⟩
 exact b.put g
theorem Hb.fin{M:I}(h:Hb W A M f V)(g:J×J):(AD V (K (U W)+1) (Cd g)).heap[K (U W)+1]?=H (Aj (Cd g) 103)/\A0 W (AD V (K (U W)+1) (Cd g))/\(AD V (K (U W)+1) (Cd g)).heap[M]?=H (Aj (Cd f) 103) :=
 ⟨CM _ _ _ _ _ _ h.flt,Dj h.below E,(Dg _ _ _ _ (AY h.lt)).trans h.loc⟩
theorem QO:∀(k p a x q:I),Ct bs lim p->E3 bs lim k p a=.ok (x,q)->q=p+k/\Ct bs lim q/\x<(a+1)*16^k
 |0,p,a,x,q,hi,h=>by grind [E3]
 |k+1,p,a,x,q,hi,h=>by
  rw[E3]at h;rcases hc:bs[p]? with _|c
  .rw[hc]at h;cases h
  rw[hc]at h;simp only[]at h;by_cases b:(p:J)=lim
  .grind
  rw[Ci b]at h;rcases hv:Jj c with _|g
  .rw[hv]at h;cases h
  rw[hv]at h;obtain⟨f,d,e⟩:=QO k _ _ x q (Ed hi hc b) h;have i:=Sm hv;refine⟨E,d,CK e ?_⟩;rw[UT,UU (16^k) 16,<-Nat.mul_assoc];exact P2 _ E
theorem QP:∀(w:A1) (p q:I),Ct bs lim p->Dn bs lim w p=.ok ((),q)->q=p+O w/\Ct bs lim q
 |[],p,q,hi,h=>kfd
 |x::w,p,q,hi,h=>by
  rw[Dn]at h;rcases hc:bs[p]? with _|c
  .rw[hc]at h;cases h
  rw[hc]at h;simp only[]at h;by_cases a:(p:J)=lim
  .rw[Cn a]at h;cases h
  rw[Ci a]at h;by_cases b:c=x
  .rw[Cn b]at h;obtain⟨e,d⟩:=QP w _ q (Ed hi hc a) h;exact⟨by rw[FU];omega,d⟩
  rw[Ci b]at h;cases h
theorem QQ(hl:Lm bs l lim)(hi:Ct bs lim (p+1))(e:J):CU bs l p e=(e,(p:J)):=by have a:=hi.1;have b:=hi.2;have c:=hl p E;grind [CU]
theorem VZ(h:Ck W' b v bs)(hb:N<b):Ax v≠H N:=λe=>AY (DK h.1 e)
theorem W5{b':I}(h:Ck W' b v bs)(hb:b'<=b):Ck W' b' v bs:=by
 obtain⟨⟨i,d⟩,k,j⟩:=h;refine⟨⟨i,?_⟩,E,j⟩;rcases d with d|⟨g,e,f,a,b,c⟩
 .exact AF d
 exact AG ⟨g,e,f,a,E,c⟩
theorem W6(h:Ck W' b v bs)(n:Ax v≠H N):Ck (AD W' N cs) b v bs:=by
 obtain⟨⟨k,f⟩,l,m⟩:=h;refine⟨⟨k,?_⟩,ke5,m⟩;rcases f with f|⟨g,i,j,a,b,c,d⟩
 .exact AF f
 refine AG ⟨g,i,j,a,b,(Dg _ _ _ _ (λe=>n ?_)).trans c,d⟩;rw[a,<-e];rfl
def Oj(W:Ap)(r:A5 AI)(e:Ending)(W':Ap):Prop:=match r with
 |.ok (x,q)=>∃v,e=Ak (Af #[v,Ab Al q,.agg (Cd (0,0))])/\Ck W' (_root_.Array.size (Av W)) v (Ei x)
 |.error f=>e=Ak (Af #[Ac Ao 0 0,Ab Al 0,.agg (Cd f)])
theorem Hb.ck{f:FuncId}{r:Ending}{Q:Ending->X->Prop}{M:I}{x:J×J}(h:Hb W (Cp bs fm d l) M x V)(c:Ar As f args V λe b=>e=r/\A0 V b)(k:∀w,D (Hb W (Cp bs fm d l) M x w)->AC w ⟨K (U W),0,Ao⟩=(#[Ae ⟨Aw bs⟩,C Y fm,C Y d,C Y l]:A3)[0]?->AC w ⟨K (U W),1,Ao⟩=(#[Ae ⟨Aw bs⟩,C Y fm,C Y d,C Y l]:A3)[1]?->AC w ⟨K (U W),2,Ao⟩=(#[Ae ⟨Aw bs⟩,C Y fm,C Y d,C Y l]:A3)[2]?->AC w ⟨K (U W),3,Ao⟩=(#[Ae ⟨Aw bs⟩,C Y fm,C Y d,C Y l]:A3)[3]?->A6 w M 0 (C Y x.1)->Q r w):Ar As f args V Q :=
 _root_.Go.Proofs.YtihfjkjbfaneeaaGreatDoor.ck c h.next λw a=>k w a (DV a.out.box).1 (DV a.out.box).2.1 (DV a.out.box).2.2.1 (DV a.out.box).2.2.2 (Cb a.out.loc 0)
theorem Hb.st{rest:AJ Oper}{M:I}(h:Hb W (Cp bs fm d l) M (0,0) V)(x y:I)(c:o.guard=Ao)(e:o.op=.store 103 (.tmp x) (.tmp y))(F:J×J)(b:a.eval (.tmp x)=A8 M/\a.eval (.tmp y)=.agg (Cd F))(k:∀w,D (Hb W (Cp bs fm d l) M F w)->AC w ⟨K (U W),0,Ao⟩=(#[Ae ⟨Aw bs⟩,C Y fm,C Y d,C Y l]:A3)[0]?->AC w ⟨K (U W),1,Ao⟩=(#[Ae ⟨Aw bs⟩,C Y fm,C Y d,C Y l]:A3)[1]?->AC w ⟨K (U W),2,Ao⟩=(#[Ae ⟨Aw bs⟩,C Y fm,C Y d,C Y l]:A3)[2]?->AC w ⟨K (U W),3,Ao⟩=(#[Ae ⟨Aw bs⟩,C Y fm,C Y d,C Y l]:A3)[3]?->A6 w M 0 (C Y F.1)->wpList As ops Q rest (a.put o.dst AO) w):wpList As ops Q (o::rest) a V :=
 EW x y c e M F b.1 b.2 h.loc (k _ (h.put F) (DV (h.put F).box).1 (DV (h.put F).box).2.1 (DV (h.put F).box).2.2.1 (DV (h.put F).box).2.2.2 (Cb (h.put F).loc 0))
def JV(bs:A1)(fm d l:AI)(i x:AI)(F:AI×AI):Prop:=∀V,Ar As 210 #[Ag #[Ae ⟨Aw bs⟩,Ab Al fm,Ab Al d,Ab Al l],Ab Al i] V λe W'=>e=Ak (Af #[Ab Al x,.agg (Cd F)])/\A0 V W'
def QR(bs:A1)(fm d l:AI)(i x:AI)(F:AI×AI):Prop:=∀V,Ar As 127 #[Ag #[Ae ⟨Aw bs⟩,Ab Al fm,Ab Al d,Ab Al l],Ab Al i,Ae ⟨#[92,117]⟩] V λe W'=>e=Ak (Af #[Ab Al x,.agg (Cd F)])/\A0 V W'
def SK(bs:A1)(fm d l:AI)(i:AI)(F:AI×AI):Prop:=∀V,Ar As 84 #[Ag #[Ae ⟨Aw bs⟩,Ab Al fm,Ab Al d,Ab Al l],Ab Al i,Ab Al 9] V λe W'=>e=Ak (.agg (Cd F))/\A0 V W'
def W7(x:AI):Prop:=∀V,Ar As 211 #[Ab Al x] V λe W'=>∃v,e=Ak v/\Ck W' (_root_.Array.size (Av V)) v (Ei x)/\A0 V W'
theorem pS(W:World){bs:List UInt8}(fm d l:Int){i:Nat}(af:i<=bs.length)(hb:bs.length<=281474976710656)(R:Except (Int×Int) (Int×Nat))(x y:Int)(F:Int×Int)(ag:0<=x)(ah:x<65536)(ai:0<=y)(aj:y<65536)(hw:(JV bs fm d l i 0 F/\(F.1==0)=false/\R=.error F)\/(JV bs fm d l i x (0,0)/\55296<=x/\x<56320/\QR bs fm d l ((i:Int)+4) 0 F/\(F.1==0)=false/\R=.error F)\/(JV bs fm d l i x (0,0)/\55296<=x/\x<56320/\QR bs fm d l ((i:Int)+4) ((i:Int)+6) (0,0)/\JV bs fm d l ((i:Int)+6) 0 F/\(F.1==0)=false/\R=.error F)\/(JV bs fm d l i x (0,0)/\56320<=x/\x<=57343/\SK bs fm d l ((i:Int)+3) F/\R=.error F)\/(JV bs fm d l i x (0,0)/\55296<=x/\x<56320/\QR bs fm d l ((i:Int)+4) ((i:Int)+6) (0,0)/\JV bs fm d l ((i:Int)+6) y (0,0)/\(y<56320\/57343<y)/\SK bs fm d l ((i:Int)+6+3) F/\R=.error F)\/(JV bs fm d l i x (0,0)/\(x<55296\/57343<x)/\W7 x/\F=(0,0)/\R=.ok (x,i+4))\/(JV bs fm d l i x (0,0)/\55296<=x/\x<56320/\QR bs fm d l ((i:Int)+4) ((i:Int)+6) (0,0)/\JV bs fm d l ((i:Int)+6) y (0,0)/\56320<=y/\y<=57343/\W7 (65536+(x-55296)*1024+y-56320)/\F=(0,0)/\R=.ok (65536+(x-55296)*1024+y-56320,i+10))):Calls prog 189 #[.agg (Cp bs fm d l),.int .i64 i] W λe Q=>Oj W R e Q/\Below W.heap.size W Q:=by
 have HX:=QD W bs fm d l;have m:∀{p:Prop} [Decidable p],¬p->Hid _:=λh=>Fv h;have B:∀{p:Prop} [Decidable p],p->Hid _:=λh=>F4 h;unfold Cp;rcases hw with⟨k,aa,rfl⟩|⟨k,n,u,q,aa,rfl⟩|⟨k,n,u,q,t,aa,rfl⟩|⟨k,n,u,z,rfl⟩|⟨k,n,u,q,t,v|v,z,rfl⟩|⟨k,n|n,A,rfl,rfl⟩|⟨k,n,u,q,t,v,h4,A,rfl,rfl⟩
 let b:Nat:=20;rotate_left
 let b:Nat:=48;rotate_left
 let b:Nat:=58;rotate_left
 rotate_left 6
 all_goals
  unfold JV at *
  try unfold QR at *
  try unfold SK at *
  try unfold W7 at *
  try have d1:=(m (p:=x<55296) E).out
  try have d2:=(m (p:=57343<x) E).out
  try have d3:=(m (p:=56320<=x) E).out
  try have N:=m (p:=y<56320) E
  try have N:=B (p:=y<56320) E
  try have P:=m (p:=57343<y) E
  try have P:=B (p:=57343<y) E
  clear m B;go_enter func189,ntmps189
  go_wp2_with(first
   |(go_at_call 210;refine Mb (k _) HX.out.next ?_;clear k;intro r ac s;obtain⟨c,f,c2,g⟩:=DV s.out.box)
   |(go_at_call 127;refine a.out.ck (q _) ?_;clear q d1 d2 d3 c f c2 g j a;intro w3 a c f c2 g j)
   |(go_at_call 210;apply a.out.ck (t _);clear t c f c2 g j a;intro w4 a c f c2 g j)
   |(go_at_call 84;apply a.out.ck (z _);clear z c f c2 g j a;intro w5 a c f c2 g j)
   |(go_at_call 211;apply (A _).mono;clear A c f c2 g j;rintro e w5 ⟨ak,rfl,w,ad⟩;obtain⟨va,vn,vc,rfl⟩:=w.2.2;have HO:=G (W5 w a.out.below.size);have ab:=G (VZ w (Cc a.out.flt));clear w;have a:=G (a.out.next ad))
   |((first|((with_reducible refine EW 8 16 rfl rfl (r.heap.size) (0,0) ?_ ?_ ?_ ?_);exact Z;exact Z;exact Cj r;refine Gx ?_;intro V2 o;have a:=G (o▸aY s.out);clear o)|((with_reducible refine EW 8 16 rfl rfl (r.heap.size) F ?_ ?_ ?_ ?_);exact Z;exact Z;exact Cj r;apply Gx;intro V2 o;have a:=G (o▸aY s.out);clear o));generalize r.heap.size=M at *;clear c f c2 g ac s;have j:=Cb a.out.loc 0;unfold Cd at j;obtain⟨c,f,c2,g⟩:=DV a.out.box)
   |((with_reducible refine a.out.st 8 _ rfl rfl (0,0) ?_ ?_);exact⟨Z,Z⟩;clear c f c2 g j a;intro V3 a c f c2 g j;try(have e1:=N.out;have e2:=P.out))
   |((with_reducible refine a.out.st 8 _ rfl rfl F ?_ ?_);exact⟨Z,Z⟩;clear c f c2 g j a;intro V3 a c f c2 g j)
   |((with_reducible refine EW 6 _ rfl rfl (W.heap.size+1) F ?_ ?_ ?_ ?_);exact Z;exact Z;exact a.out.flt)
   |((with_reducible refine EW 6 _ rfl rfl (W.heap.size+1) (0,0) ?_ ?_ ?_ ?_);exact Z;exact Z;exact a.out.flt))
  try exact Hz results189 (a.out.fin _) (.slice none 0 0) (.int .i64 0) rfl rfl rfl rfl ⟨rfl,(a.out.fin _).2.1⟩
  try exact Hz results189 (a.out.fin _) (.slice va vn vc) _ rfl rfl rfl rfl ⟨⟨_,by congr 4,W6 HO.out ab.out⟩,(a.out.fin _).2.1⟩
 all_goals
  apply Dl (S:=λV=>V.heap[M]?=some _) (a.out.loc) B6;intro L;apply Ca 1 4 (.slice none 0 0) L;apply Ca 2 5 (.int .i64 0) L;apply tk 0 b _ Z B6 Gb (λV hZ=>yF 8 hZ Z Z) L;refine CC 3 (λae hK=>?_);rw[Cn B6];refine IW 103 _ _ Z (W.heap.size+1) (Cd F) Z Z 103 (Cd (0,0)) a.out.drew.flt (Ke) Z (Pr) ?_;refine hK.out _ _ (a.out.drew.fin F).2.2 (λ_=>?_);clear hK;refine CG ?_;dsimp only[b];go_simp;clear c f c2 g j;go_wp2;exact Hz results189 (a.out.drew.fin F) _ _ Z Z Z Z ⟨Z,(a.out.drew.fin F).2.1⟩
theorem aZ(hl:Lm bs l lim)(hi:Ct bs lim i)(hb:O bs<=281474976710656)(h:E3 bs lim 4 i 0=.error f):JV bs fm d l i 0 f:=λV=>BZ
theorem be(hl:Lm bs l lim)(hi:Ct bs lim i)(hb:O bs<=281474976710656)(h:E3 bs lim 4 i 0=.ok (x,q)):JV bs fm d l i x (0,0):=λV=>BZ
theorem bf(hl:Lm bs l lim)(hi:Ct bs lim (p+1)):SK bs fm d l p (9,(p:J)):=λV=>by have h:=Lt V bs fm d l p 9;rw[QQ hl hi]at h;exact h
theorem pU(W:X)(fm d:J)(hl:Lm bs l lim)(hi:Ct bs lim i)(hb:O bs<=281474976710656):Ar As 189 #[.agg (Cp bs fm d l),C Y i] W λe o=>Oj W (Ir bs lim i) e o/\A0 W o:=by
 have a:=pS W fm d l hi.1 hb;have m:∀z:J,¬z=0->(z==0)=AQ:=λz h=>Bw;unfold Ir;rcases h1:E3 bs lim 4 i 0 with f|r
 .exact a _ 0 0 f B8 B8 B8 B8 (AF ⟨aZ hl hi hb h1,m _ (QJ bs lim 4 i 0 _ _ h1),Z⟩)
 obtain⟨x,q⟩:=r;simp only[];obtain⟨s,t,S⟩:=QO 4 i 0 x q hi h1;have c:=be (fm:=fm) (d:=d) hl hi hb h1;by_cases j:Lq x=AP
 .rw[Cn j];unfold Lq at j;have w:=Dk j;rw[show q-1=(i:J)+3 by omega];exact a _ x 0 _ E E B8 B8 (AG (AG (AG (AF ⟨c,E,E,λV=>bf hl B9 V,Z⟩))))
 rw[Ci j];have R:¬(56320<=x/\x<=57343):=λh=>j (F4 h);by_cases g:Pm x=AP
 .rw[Cn g];unfold Pm at g;have w:=Dk g;subst s;have b:=λV=>VG V fm d [92,117] B8 hl t hb;rcases hw:Dn bs lim [92,117] (i+4)with f|r
  .rw[hw]at b;exact a _ x 0 f E E B8 B8 (AG (AF ⟨c,E,E,b,m _ (Md _ _ _ _ hw),Z⟩))
  obtain⟨ab,v⟩:=r;simp only[];obtain⟨A,n⟩:=QP _ _ v t hw;have B:v=i+6:=C4;subst B;rw[hw]at b;rcases h3:E3 bs lim 4 (i+6) 0 with f|r
  .exact a _ x 0 f E E B8 B8 (AG (AG (AF ⟨c,E,E,b,aZ hl n hb h3,m _ (QJ bs lim 4 _ 0 _ _ h3),Z⟩)))
  obtain⟨y,N⟩:=r;simp only[];obtain⟨F,L,u⟩:=QO 4 _ 0 y N n h3;have p:=be (fm:=fm) (d:=d) hl n hb h3;subst F;by_cases k:Lq y=AP
  .rw[Cn k];unfold Lq at k;have P:=Dk k;rw[show 65536+(x-55296)*1024+(y-56320)=65536+(x-55296)*1024+(y:J)-56320 by omega];exact a _ x y _ E E E E (AG (AG (AG (AG (AG (AG ⟨c,E,E,b,p,E,E,λV=>aX V E E E,Z,Z⟩))))))
  rw[Ci k,show(i+6+4:I)-1=(i:J)+9 by omega];have aa:¬(56320<=y/\y<=57343):=λh=>k (F4 h);exact a _ x y _ E E E E (AG (AG (AG (AG (AF ⟨c,E,E,b,p,E,λV=>bf hl L V,Z⟩)))))
 rw[Ci g];have Q:¬(55296<=x/\x<=56319):=λh=>g (F4 h);subst s;exact a _ x 0 _ E E B8 B8 (AG (AG (AG (AG (AG (AF ⟨c,E,λV=>aX V E E E,Z,Z⟩))))))
theorem pV(a:0<=r)(b:r<=127):runeCells r=[C .u8 r]:=kem
theorem W8{x:J×J}(q:CU bs l i 9=x)(t:CH bs l i=AQ\/(CH bs l i=AP/\∃c,bs[i]?=H c/\∀x,x∈[34,92,47,98,102,110,114,116,117]->¬c.toNat=x)):Ar As 162 #[.agg (Cp bs fm d l),C Y i] W λe b=>Oj W (.error x) e b/\A0 W b:=by
 have o:=N2 fm d q;have g:=QD W bs fm d l;unfold Cp;rcases t with f|⟨f,c,r,s⟩
 all_goals
  have p:=Gi fm d f
  try
   have u:=Ej r;simp only[If,LT,LY,Z1,forall_eq]at s;have B:=D7 (c:=c) 34 E;have L:=D7 (c:=c) 92 E;have F:=D7 (c:=c) 47 E;have N:=D7 (c:=c) 98 E;have v:=D7 (c:=c) 102 E;have w:=D7 (c:=c) 110 E;have y:=D7 (c:=c) 114 E;have z:=D7 (c:=c) 116 E;have A:=D7 (c:=c) 117 E
  go_enter func162,ntmps162
  go_wp2_with(first
   |(go_at_call 116;apply DW (p _) g.next (λ_ h=>h.box);intro P j k m c2 n)
   |(go_at_call 84;apply DW (o _) j.next (λ_ h=>h.box);intro Q a k m c2 n)
   |(refine EW 6 _ Z Z (K (U W)+1) x Z Z ?_ ?_;exact a.flt))
  exact Hz results162 (GX a CO _) _ _ Z Z Z Z ⟨Z,(GX a CO _).2⟩
theorem Na(g:bs[i]?=H c)(o:CH bs l i=AP)(hb:O bs<=281474976710656){v:I}(r:J)(q:c.toNat=v)(j:(v,r)∈([(34,34),(92,92),(47,47),(98,8),(102,12),(110,10),(114,13),(116,9)]:AJ (I×J))):Ar As 162 #[.agg (Cp bs fm d l),C Y i] W λe b=>Oj W (.ok (r,i+1)) e b/\A0 W b:=by
 have x:=Lv g q;have w:=Dh g;have n:=Gi fm d o;have m:=QD W bs fm d l;unfold Cp;simp only[If,LX,LT,LY]at j;rcases j with h|h|h|h|h|h|h|h
 all_goals
  obtain⟨rfl,rfl⟩:=h
 let r:J:=34;rotate_left
 let r:J:=92;rotate_left
 let r:J:=47;rotate_left
 let r:J:=8;rotate_left
 let r:J:=12;rotate_left
 let r:J:=10;rotate_left
 let r:J:=13;rotate_left
 let r:J:=9;rotate_left
 all_goals
  have p:=pV (r:=r) (Dk Z) (Dk Z);go_enter func162,ntmps162
  go_wp2_with(first
   |(go_at_call 116;refine DW (n _) m.next (λ_ h=>h.box) ?_;intro k a s t c2 u)
   |(refine EW 6 _ Z Z (K (U W)+1) (0,0) Z Z ?_ ?_;exact(a.next (Cl)).flt))
  have f:=(QN k 1 Z p).1;exact Hz results162 (GX (a.next (Cl)) CO _) (T (Aa (K (U k))) 1 1) (C Y ((i:J)+1)) rfl rfl rfl rfl ⟨⟨_,rfl,W6 (W5 f a.below.size) (VZ f (Cc a.flt))⟩,(GX (a.next (Cl)) CO _).2⟩
theorem pW(W:X)(bs:A1)(fm d l lim:J)(i:I)(hb:O bs<=281474976710656)(c:UInt8)(m:bs[i]?=H c)(s:CH bs l i=AP)(u:c.toNat=117)(hl:Lm bs l lim)(hi:Ct bs lim (i+1)):Ar As 162 #[.agg (Cp bs fm d l),C Y i] W λe b=>Oj W (Ir bs lim (i+1)) e b/\A0 W b:=by
 have A:=Lv m u;have z:=Dh m;have p:=Gi fm d s;have o:=QD W bs fm d l;have q:∀V,Ar _ _ #[Ag #[.string _,.int _ fm,.int _ d,.int _ l],.int _ (i+1)] V λe b=>Oj V (Ir bs lim (i+1)) e b/\Below _ V b:=λV=>pU V fm d hl hi hb;generalize Ir bs lim (i+1)=R at *;unfold Cp;go_enter func162,ntmps162
 go_wp2_with(first
  |(go_at_call 116;apply DW (p _) o.next (λ_ h=>h.box);intro N g w x c2 y))
 apply (q _).mono;rintro e P ⟨n,t⟩;have a:=G (g.next t);obtain f|r:=R
 .obtain rfl:=n
  go_wp2_with(first
   |(refine EW 6 68 Z Z (K (U W)+1) f Z Z ?_ ?_;exact a.flt))
  exact Hz results162 (GX a CO _) _ _ Z Z Z Z ⟨Z,(GX a CO _).2⟩
 obtain⟨v,rfl,k⟩:=n;obtain⟨B,L,F,rfl⟩:=k.2.2;have j:=G k
 go_wp2_with(first
  |(refine EW 6 68 Z Z (K (U W)+1) (0,0) Z Z ?_ ?_;exact a.flt))
 exact Hz results162 (GX a CO _) _ _ Z Z Z Z ⟨⟨_,Z,W6 (W5 j g.below.size) (VZ j (Cc g.flt))⟩,(GX a CO _).2⟩
theorem pX(W:X)(fm d:J)(hl:Lm bs l lim)(hi:Ct bs lim i)(hb:O bs<=281474976710656):Ar As 162 #[.agg (Cp bs fm d l),C Y i] W λe p=>Oj W (Hp bs lim i) e p/\A0 W p:=by
 unfold Hp;rcases hc:bs[i]? with _|c
 .exact W8 (It hi.1 hc 9) (AF (Hs hc))
 simp only[];by_cases b:(i:J)=lim
 .rw[Cn b];exact W8 (FY hl hc b 9) (AF (GW hl hc b))
 rw[Ci b];have a:=IM hl hi hc b;by_cases k:c.toNat=34
 .rw[Cn k];exact Na hc a hb 34 k B8
 rw[Ci k];by_cases n:c.toNat=92
 .rw[Cn n];exact Na hc a hb 92 n B8
 rw[Ci n];by_cases m:c.toNat=47
 .rw[Cn m];exact Na hc a hb 47 m B8
 rw[Ci m];by_cases o:c.toNat=98
 .rw[Cn o];exact Na hc a hb 8 o B8
 rw[Ci o];by_cases f:c.toNat=102
 .rw[Cn f];exact Na hc a hb 12 f B8
 rw[Ci f];by_cases g:c.toNat=110
 .rw[Cn g];exact Na hc a hb 10 g B8
 rw[Ci g];by_cases h:c.toNat=114
 .rw[Cn h];exact Na hc a hb 13 h B8
 rw[Ci h];by_cases j:c.toNat=116
 .rw[Cn j];exact Na hc a hb 9 j B8
 rw[Ci j];by_cases q:c.toNat=117
 .grind [pW,Ed]
 rw[Ci q];exact W8 (Ht hl hi hc b 9) (AG ⟨a,c,hc,by simp[*]⟩)
theorem Nf(h:Ck W b v bs)(f:A0 W W'):Ck W' b v bs:=by
 obtain⟨⟨k,e⟩,l,m⟩:=h;refine⟨⟨k,?_⟩,Cy l f.size,m⟩;rcases e with e|⟨g,i,j,a,b,c,d⟩
 .exact AF e
 exact AG ⟨g,i,j,a,b,(f.block _ (Cc c)).trans c,d⟩
structure Jq(W:World)(A:A3)(v:Value)(acc:A1)(V:World):Prop where
 box:V.heap[W.heap.size]?=some (.cells A 115)
 flt:V.heap[W.heap.size+1]?=some (.cells (Cd (0,0)) 103)
 own:Ck V (W.heap.size+2) v acc
 below:A0 W V
theorem Jq.next(h:Jq W A v acc V)(hb:A0 V V'):Jq W A v acc V' :=
 ⟨(hb.block _ (Cc h.box)).trans h.box,(hb.block _ (Cc h.flt)).trans h.flt,Nf h.own hb,h.below.trans (hb.mono h.below.size)⟩
theorem Jq.drew(h:Jq W A v acc V):Jq W A v acc V.drew:=⟨h.box,h.flt,h.own,h.below.drew⟩
theorem Jq.grow{acc':A1}(h:Jq W A v acc V)(a:V.grownBy V' (Ax v))(d:Ck V' (K (U W)+2) v' acc'):Jq W A v' acc' V':=by
 have b:∀k,k<K (U W)+2->H k≠Ax v:=λk f e=>AY (DK h.own.1 e.symm);exact⟨(a.block _ (Cc h.box) (b _ E)).trans h.box,(a.block _ (Cc h.flt) (b _ E)).trans h.flt,d,
  h.below.trans ⟨a.os,a.tape,a.output,a.size,λi c=>a.block i (CK c h.below.size) (b _ E)⟩⟩
theorem Kl:A0 V ((Az V (M (Cd (0,0)) 103)).setRow (K (U V)) (Cd f)):=Dj Cl (Co _)
theorem Jq.fin(h:Jq W A v acc V)(g:J×J):(AD V (K (U W)+1) (Cd g)).heap[K (U W)+1]?=H (M (Cd g) 103)/\A0 W (AD V (K (U W)+1) (Cd g)) :=
 ⟨CM _ _ _ _ _ _ h.flt,Dj h.below E⟩
theorem qz:Jq W A (T Ao 0 0) [] (Az (Az W (M A 115)) (M (Cd (0,0)) 103)) :=
 ⟨(O9).box,(O9).flt,⟨Fa _ _ _ _,Ba,Ao,0,0,rfl⟩,(O9).below⟩
def Ng(r:A5 A1)(e:Ending):Prop:=match r with
 |.ok (x,q)=>e=Ak (Af #[Ae ⟨Aw x⟩,Ab Al q,.agg (Cd (0,0))])
 |.error f=>e=Ak (Af #[Ae ⟨#[]⟩,Ab Al 0,.agg (Cd f)])
theorem bF(hl:Lm bs l lim)(e:k<O bs)(f:(k:J)<lim):min (O bs:J) l=min (O bs:J) lim:=by
 have a:=hl (O bs-1) E;by_cases b:l<O bs
 .have c:=hl l.toNat E;have d:=hl (l.toNat-1) E;omega
 omega
theorem bG(bs:A1)(p j:I):(⟨Aw bs⟩:AT).extract p (p+j)=⟨Aw (Du bs p j)⟩:=by apply ByteArray.ext;grind [Lib.extract_data,Du]
theorem Wh{l:A1}(h:Ck W b v l)(hl:0<O l):∃g a,v=T (Aa g) (O l) a:=by rcases h.1.2 with⟨_,d⟩|⟨g,a,c,e,_⟩<;>grind
theorem qA{l:A1}(h:Ck W b (T (Aa g) (O l) cap) l):∀j u,(l.map CJ)[j]?=H u->AC W ((⟨g,0,Ao⟩:Addr).add j)=H u:=h.1.cells (g:=g) rfl
theorem qC{l:A1}(h:Ck W base v bs)(b:W'.ownsRow base 5 1 v' (O bs+O l) (bs.map CJ++l.map CJ))(a:W.grownBy W' (Ax v)):Ck W' base v' (bs++l):=by refine⟨B9,Cy h.2.1 a.size,?_⟩;rcases b.2 with⟨e,_⟩|⟨g,c,d,e,_⟩<;>grind
theorem qD{l:A1}:∀u∈l.map CJ,u.oneCell'=AP:=λu a=>by obtain⟨b,_,rfl⟩:=KI.1 a;rfl
theorem qE(r:J):0<O (Ei r):=ke3
theorem bH(hi:Ct bs lim p)(h:Hp bs lim p=.ok (r,q)):Ct bs lim q/\p<q:=by
 unfold Hp at h;rcases hc:bs[p]? with _|c
 .rw[hc]at h;cases h
 rw[hc]at h;simp only[]at h;by_cases b:(p:J)=lim
 .grind
 rw[Ci b]at h;have e:=Ed hi hc b
 repeat' split at h
 all_goals first
  |(cases h;done)
  |(injection h with h;grind)
  |skip
 rename_i hu;unfold Ir at h;rcases h1:E3 bs lim 4 (p+1) 0 with f|x
 .rw[h1]at h;cases h
 obtain⟨x,q1⟩:=x;obtain⟨l,g,_⟩:=QO 4 _ 0 x q1 e h1;rw[h1]at h;simp only[]at h;split at h
 .cases h
 split at h
 .rcases h2:Dn bs lim [92,117] q1 with f|k
  .rw[h2]at h;cases h
  obtain⟨u,a⟩:=k;obtain⟨d,i⟩:=QP _ q1 a g h2;have m:a=q1+2:=d;rw[h2]at h;simp only[]at h;rcases h3:E3 bs lim 4 a 0 with f|y
  .rw[h3]at h;cases h
  obtain⟨y,j⟩:=y;obtain⟨n,o,_⟩:=QO 4 a 0 y j i h3;grind
 grind
theorem bI(r:J):O (Ei r)<=4:=ke3
theorem bJ(W:X)(fm d:J)(hl:Lm bs l lim)(hi:Ct bs lim (i+1))(hb:O bs<=281474976710656)(bq:lim<=200000000):Ar As 128 #[.agg (Cp bs fm d l),C Y i] W λe W'=>Ng (Dr bs lim (O bs+1-(i+1)) (i+1) [] 0) e/\A0 W W':=by
 obtain⟨i0,a8,bd,be,bf⟩:=DD Tryz.infoU8;obtain⟨a2,y⟩:=CA (Dr bs lim (O bs+1-(i+1)) (i+1) [] 0);rw[AE y];have b2:=hi.1;have b9:=O8 bs;have a:=G hl;have B:=G hi;have cH:=N5 bs fm d l;have cB:=Oa bs fm d l;have cE:∀V (k:I),Ct bs lim k->Ar _ _ #[Ag #[.string _,.int _ fm,.int _ d,.int _ l],.int _ k] V _:=λV k hk=>pX V fm d hl hk hb;unfold Cp;go_enter func128,ntmps128;go_wp2
 go_loopg[1,7] (O bs+1-(i+1)) (λg bz bx wr=>∃(k:I) (v:A1) (ak:A4) (ao al:I),bz=C Y k/\bx=T ak ao al/\D (O bs+1<=k+g)/\D (O v<=4*k)/\D (Jq W (Cp bs fm d l) (T ak ao al) v wr)/\D (Ct bs lim k)/\D (Dr bs lim g k v (O v)=a2))
 case atStart=>exact⟨i+1,[],Ao,0,0,rfl,rfl,Bp,En _,qz,B,y⟩
 case round =>
  obtain⟨k,v,ak,ao,al,rfl,rfl,hg,ha,n,B,y⟩:=hrel;have bp:=B.1;obtain⟨g,rfl⟩:∃g,gk=g+1:=⟨gk-1,AY (AE hg)⟩
  obtain⟨u,w,c2,A⟩:=DV n.box;have P:=λV=>cH V k;have ah:=λV=>cB V k 9;have o:=AE y;rw[Dr]at o;by_cases am:a2=.error (CU bs l k 9)/\(CH bs l k=AQ\/CH bs l k=AP/\∃p,bs[k]?=H p/\p.toNat<32)
  .obtain⟨hE,hw⟩:=am;have b:=G hE;generalize CU bs l k 9=F at *;generalize CH bs l k=hh at *;rcases hw with rfl|⟨rfl,p,m,x⟩
   all_goals
    try have bo:=λV=>Ej m V
    try have ba:=Dh m
    try have bk:(p.toNat:J)<32:=E
    try clear m x
    go_wp2_with(first
     |(go_at_call 116;apply DW (P _) n.next (λ_ h=>h.box);intro w2 t u w c2 A)
     |(go_at_call 84;apply DW (ah _) t.next (λ_ h=>h.box);intro Q z u w c2 A)
     |(refine EW 6 29 Z Z (K (U W)+1) F Z Z ?_ ?_;exact z.flt))
    have L:=z.fin F;refine Hz results128 L (.string _) (.int _ 0) Z Z Z Z ⟨?_,L.2⟩;rw[AE b];rfl
  obtain⟨p,m,s,x⟩:∃p,bs[k]?=H p/\¬k=lim/\¬p.toNat<32:=by
   rcases QC (bs:=bs) (lim:=lim) k with(m|⟨p,m,s⟩)|⟨p,m,s⟩<;>rw[m]at o<;>simp only[]at o
   .exact absurd ⟨by rw[<-o,It bp m],AF (Hs m)⟩ am
   .rw[Cn s]at o;exact absurd ⟨by rw[<-o,FY a m s],AF (GW a m s)⟩ am
   refine⟨p,m,s,λx=>am ⟨?_,AG ⟨IM a B m s,p,m,x⟩⟩⟩;rw[Ci s,Ci E,Ci E,Cn x]at o;rw[<-o,Ht a B m s]
  rw[m]at o;simp only[]at o;have bo:=λV=>Ej m V;have ba:=Dh m;rw[Ci s]at o;rw[IM a B m s]at P;have bk:_root_.Decidable.decide ((p.toNat:J)<32)=AQ:=B7;have ca:32<=(p.toNat:J):=E;by_cases f:p.toNat=34
  .rw[Cn ⟨f,trivial⟩]at o;have b:=G o.symm;have bu:((p.toNat:J)==34)=AP:=keX;have bn:∀V,Jq W (Cp bs fm d l) _ v V->(convert 50 9 (T ak ao al)).run _ V=.ok _ V:=λV h=>Qx h.own
   go_wp2_with(first
    |(go_at_call 116;apply DW (P _) n.next (λ_ h=>h.box);intro w2 t u w c2 A;have b1:=bn _ t)
    |(refine EW 6 73 Z Z (K (U W)+1) (0,0) Z Z ?_ ?_;exact t.flt))
   have L:=t.fin (0,0);refine Hz results128 L (.string _) (.int _ _) Z Z Z Z ⟨?_,L.2⟩;rw[AE b];rfl
  rw[Ci (λh=>f h.1)]at o;have bu:((p.toNat:J)==34)=AQ:=B7;by_cases aa:p.toNat=92
  .rw[Cn ⟨aa,trivial⟩]at o;have bv:((p.toNat:J)==92)=AP:=by rw[aa];rfl
   have ad:=λV=>cE V _ (Ed B m s);rw[show(k+1:I)=(k:J)+1 by omega]at ad;have a7:=λr q h=>bH (r:=r) (q:=q) (Ed B m s) h;have bm:=λae=>VV bs lim (k+1) ae;rcases hes:Hp bs lim (k+1)with ae|bw
   .rw[hes]at o ad;have b:=G o.symm;have b6:(ae.1==0)=AQ:=B2 (VV bs lim _ _ _ hes)
    go_wp2_with(first
     |(go_at_call 116;apply DW (P _) n.next (λ_ h=>h.box);intro w2 t u w c2 A)
     |(go_at_call 162;apply (ad _).mono;rintro e Q ⟨he,au⟩;obtain rfl:=he;have z:=G (t.next au))
     |(refine EW 10 83 Z Z (K (U Q)) (ae) Z Z ?_ ?_;exact Cj Q;apply Gx;intro V4 R;have N:=G (R▸z.next (Kl));have HM:=G (R▸CM _ _ _ _ _ _ (Cj _));have a1:=G (Cc z.flt);generalize K (U Q)=M at *;have u0:=Cb HM 0;unfold Cd at u0))
    apply Dl (S:=λa3=>A7 a3 M _ 103) (HM) B6;intro hS;refine Ca 1 4 (Ae ⟨#[]⟩) hS <| Ca 2 5 (C Y 0) hS <| Cf 0 87 _ Z (λa3 hZ=>yF 10 hZ Z Z) hS <| CC 3 (λb0 hK=>?_);rw[Cn B6];refine IW 103 _ _ Z (K (U W)+1) (Cd ae) Z Z 103 (Cd (0,0)) N.drew.flt (Ke) Z (Pr) ?_;refine hK.out _ _ (sx (AY (AE a1)) hS) (λ_=>?_);refine CG ?_;go_simp;go_wp2;have L:=N.drew.fin (ae);refine Hz results128 L (.string _) (.int _ 0) Z Z Z Z ⟨?_,L.2⟩;rw[AE b];rfl
   obtain⟨r,q⟩:=bw;rw[hes]at o ad;have HN:=G o;obtain⟨bc,bb⟩:=a7 r q hes;have bj:=G bc;have a0:=G bb;have b8:=bI r;have bt:=qE r;have bl:O v<=800000000:=B3 (AE ha) B.2;clear o m cB cH cE y s x f aa a7 bm hes bc bb
   go_wp2_with(first
    |(go_at_call 116;apply DW (P _) n.next (λ_ h=>h.box);clear P u w c2 A;intro w2 t u w c2 A)
    |(go_at_call 162;apply (ad _).mono;clear ad u w c2 A;rintro e Q ⟨he,au⟩;obtain⟨cb,rfl,hO⟩:=he;obtain⟨vg,vc,rfl⟩:=Wh hO bt;have bh:=G hO;clear hO;have z:=G (t.next au))
    |(refine EW 10 83 Z Z (K (U Q)) (0,0) Z Z ?_ ?_;exact Cj Q;apply Gx;intro V4 R;have N:=G (R▸z.next (Kl));have HM:=G (R▸CM _ _ _ _ _ _ (Cj _));have bi:=G (R▸Nf bh (Kl));have a1:=G (Cc z.flt);clear R;generalize K (U Q)=M at *;have u0:=Cb HM 0;unfold Cd at u0)
    |(at_builtin;(apply JO _ Z _ _ 50 Z _ 5 i0 _ 1 1 underlying50 a8 bd be bf Z B8 _ _ _ Z N.own.1 _ _ vc _ Z Ba (qA bi) (qD) Bc E N.own.2.1);intro v' w5 ag ab ay;clear ay;have c:=qC N.own ag ab;obtain⟨a5,n5,c5,rfl⟩:=c.2.2;have aq:=G (N.grow ab c);clear ag ab c))
   go_roundg g
   case measure=>omega
   case rel=>exact⟨q,_,a5,n5,c5,rfl,rfl,by show _<=_;have:=AE hg;have:=AE a0;omega,by show _<=_;rw[Dc];have:=AE ha;have:=AE a0;omega,aq,bj,HN⟩
  rw[Ci (λh=>aa h.1)]at o;have bv:((p.toNat:J)==92)=AQ:=B7;have ax:k<lim:=AY B.2;have br:=bF a ba ax;obtain⟨nn,an⟩:∃nn:I,nn=min (O bs:J) lim:=⟨(min (O bs:J) lim).toNat,E⟩
  have af:=q7 a an B m s f aa x v hg.out;rw[AE y]at af;rw[<-an]at br;have cG:=λV=>bB V nn m hb E E;have b7:nn<=O bs:=E;have a4:=cB;obtain⟨j,ar,av⟩:∃j ar,Me bs nn k p=(j,ar):=⟨_,_,rfl⟩
  rw[av]at af cG;cases ar
  .simp only[]at af;obtain⟨ac,aj⟩:=af;have b:=G aj;have ah:=λV=>cB V (k+j) 9;rw[show(k+j:I)=k+(j:J) by omega]at ah;have a9:=ac.1;generalize CU bs l (k+j) 9=xx at *;clear o m cB a4 cH cE y s x f aa an av ac aj ax ha;have ai:∀V,Ar _ _ _ V λe W'=>e=Ak (Af #[.int _ j,Ah AQ])/\W'=V:=cG;clear cG
   go_wp2_with(first
    |(go_at_call 116;apply DW (P _) n.next (λ_ h=>h.box);clear P u w c2 A;intro w2 t u w c2 A)
    |(go_at_call 163;apply (ai _).mono;clear ai;rintro e Q ⟨rfl,az⟩;subst az)
    |(go_at_call 84;apply DW (ah _) t.next (λ_ h=>h.box);clear ah u w c2 A;intro w4 N u w c2 A)
    |(refine EW 6 54 Z Z (K (U W)+1) (xx) Z Z ?_ ?_;exact N.flt))
   have L:=N.fin (xx);refine Hz results128 L (.string _) (.int _ 0) Z Z Z Z ⟨?_,L.2⟩;rw[AE b];rfl
  simp only[]at af;obtain⟨b3,ac,b4,aj⟩:=af;have HN:=G aj.symm;have bg:=G ac;have a9:=ac.1;have b5:=Int.le_trans ac.2 bq;have aw:=SM a9;have ap:D ((⟨Aw bs⟩:AT).extract (k:J).toNat (k+(j:J)).toNat=⟨Aw (Du bs k j)⟩):=by show _=_;rw[show(k:J).toNat=k by omega,show(k+(j:J)).toNat=k+j by omega];exact bG bs k j
  have a6:=O8 (Du bs k j);have bl:O v<=800000000:=B3 (AE ha) B.2;clear o m cB a4 cH cE y s x f aa an av ac aj ax;have ai:∀V,Ar _ _ _ V λe W'=>e=Ak (Af #[.int _ j,Ah AP])/\W'=V:=cG;clear cG
  go_wp2_with(first
   |(go_at_call 116;apply DW (P _) n.next (λ_ h=>h.box);clear P u w c2 A;intro w2 t u w c2 A)
   |(go_at_call 163;apply (ai _).mono;clear ai;rintro e Q ⟨rfl,az⟩;subst az)
   |(at_builtin;(apply wpList_append_own_string _ Z _ _ 50 9 Z _ 5 i0 underlying50 underlying9 a8 bd be bf _ _ _ Z t.own.1 ((⟨_⟩:AT).extract (k:J).toNat (k+(j:J)).toNat) Z (by rw[AE ap,a6,aw];unfold maxLen;omega) (by rw[AE ap,a6,aw];omega) t.own.2.1);intro v' w5 ag ab ay;clear ay;rw[AE ap]at ag;obtain⟨c,_⟩:=Nb t.own ag ab;obtain⟨a5,n5,c5,rfl⟩:=c.2.2;have aq:=G (t.grow ab c);clear ag ab c))
  go_roundg (g+1-j)
  case measure=>omega
  case rel=>exact⟨_,_,a5,n5,c5,Bb,rfl,by show _<=_;have:=AE hg;omega,by show _<=_;rw[Dc,aw];have:=AE ha;omega,aq,bg,HN⟩
end
section
open Go.RowKit Go.Shelf
theorem iI{P:Program}{fn:Func}{p u u2:Tmp}{ty:AN}(h:fn.results=#[.cell p ty,.tmp u,.tmp u2]){tmps:A3}{w:X}{g:I}{t:AN}{cs:A3}{fr:I×I}{d:TypeDesc}(i:tmps.getD p AO=A8 g)(f:w.heap[g]?=H (M cs t fr))(j:P.underlying ty=H d)(c:(match d with|.struct _|.array _ _=>AP|_=>AQ)=AP)(hi:(P.info? ty).map (·.size)=H cs.size)(v b:Aq)(k:tmps.getD u AO=v)(l:tmps.getD u2 AO=b):(results fn tmps).run P w=.ok (Af #[.agg cs,v,b]) w:=by have e:(results fn tmps).run P w=((asAddr (tmps.getD p AO)).run P w).andThen λa m=>((loadVar ty a).run P m).andThen λv n=>.ok (Af #[v,tmps.getD u AO,tmps.getD u2 AO]) n:=Bk;subst k l;rw[e,i];simp only[asAddr,Ga,FT,Jd w g t ty cs fr d f j c hi]
def JF(O:A3)(a:A4)(k c:AH):A3:=O.push (Ac a k c)
def Gm:A3:=JF CN Ao 0 0
theorem yC:prog.built 126 []=H Gm:=B6
theorem yD(n:I)(m:I->I->AK)(a:A4)(k c:I):prog.built 126 [(0,.agg (Di n m)),(1,T a k c)]=H (JF (Di n m) a k c):=B6
theorem yE:(prog.info? 126).map (·.size)=H 38:=B6
theorem yG{ρ:Operand->Aq}(a:o.op=.alloc 126):(execOp ρ o).run As w=.ok (.value (A8 (K (U w)))) (Az w (M Gm 126)):=BG
theorem XD{rest:AJ Oper}(e:o.guard=Ao)(f:o.op=.alloc 126){d:Option Tmp}(c:o.dst=d)(N:I)(b:K (U w)=N)(h:wpList As ops Q rest (a.put d (A8 N)) (Az w (M Gm 126))):wpList As ops Q (o::rest) a w:=by subst b;exact Qd e d c _ _ (yG f) h
theorem RC{O:A3}(h:O.size=37){a:A4}{c:I}:(JF O a k c).size=38:=by unfold JF;simp[h]
theorem XE{O:A3}(h:O.all (·.oneCell')=AP){a:A4}{c:I}:(JF O a k c).all (·.oneCell')=AP:=by unfold JF;rw[Array.all_push,h];rfl
theorem RD:Gm.size=38:=RC (D8)
theorem iJ:Gm.all (·.oneCell')=AP:=XE (GQ)
theorem PU(h:A.size=38):(prog.info? 126).map (·.size)=H A.size:=by rw[h];exact yE
def GI(c:CD):AI:=if¬FP c.labels c.L c.dflt c.clr=0 then FP c.labels c.L c.dflt c.clr else if FR c.inn c.out c.depth c.bytes=AQ then 4 else if Ho c.B=AQ then 5 else F1 c.labels.toNat c.pol.data.toList
def Kt(c:CD):AI:=if¬FP c.labels c.L c.dflt c.clr=0 then 0 else if FR c.inn c.out c.depth c.bytes=AQ then 0 else if Ho c.B=AQ then 0 else IC c.labels.toNat c.pol.data.toList
theorem iK(c:CD):(EV c.labels c.L=AP->FP c.labels c.L c.dflt c.clr=if LI c=AQ then 1 else if MA c.labels.toNat (DS c.labels.toNat c.L)=AQ then 2 else if MB c.labels.toNat (DS c.labels.toNat c.L)=AQ then 3 else 0)/\(EV c.labels c.L=AQ->FP c.labels c.L c.dflt c.clr=1/\LI c=AQ):=by
 constructor
 .intro h;obtain⟨_,b⟩:=TV h;have d:∀i j,i<c.labels.toNat->j<c.labels.toNat->DY c.labels.toNat c.L i j=DS c.labels.toNat c.L i j:=λi j a e=>iz b.hE a e;have f:=yn d;have g:=yr d (λi a=>yk b.hE a);grind [FP,LI]
 grind [FP,LI]
theorem XF(c:CD):GI c=Df c/\Kt c=Ew c:=by
 have key:GI c=Df c/\Kt c=if Df c=6 then DU c.labels.toNat c.pol.data.toList else 0:=by unfold GI Kt Df F1 IC;grind [lI,EV,iK]
 exact⟨key.1,key.2.trans Z⟩
theorem yH{c:CD}(h:FP c.labels c.L c.dflt c.clr=0):EV c.labels c.L=AP/\J8 c.labels c.L c.dflt c.clr=Di c.labels.toNat (DY c.labels.toNat c.L):=by grind [iK,J8]
structure OI(w:World)(c:CD)(W:World):Prop where
 below:A0 w W
 box:W.heap[w.heap.size]?=some (.cells c.arr 40)
 res:W.heap[w.heap.size+1]?=some (.cells Gm 126)
theorem OI.step{c:CD}(h:OI w c W)(hb:A0 W W'):OI w c W' :=
 ⟨h.below.trans (hb.mono h.below.size),(hb.block _ (Cc h.box)).trans h.box,(hb.block _ (Cc h.res)).trans h.res⟩
theorem yJ(w:X)(c:CD):OI w c (Az (Az w (M c.arr 40)) (M Gm 126)):=by refine⟨(Cl).alloc Ba _,(Cx _ _ _ Ba).trans (Cj _),?_⟩;grind [Cj,World.size_alloc]
theorem OI.cell{c:CD}(h:OI w c W)(j:I):AC W ⟨K (U w),j,Ao⟩=c.arr[j]?:=Cb h.box j
theorem yK{c:CD}(h:¬FP c.labels c.L c.dflt c.clr=0):GI c=FP c.labels c.L c.dflt c.clr/\Kt c=0:=by grind [GI,Kt]
section
attribute[local go_sem] Oper.semAt_some
structure Hi(w:World)(n:Nat)(pre:List DP)(W:World):Prop where
 below:A0 w W
 lab:Boxed W w.heap.size 3 (.int .i64 n)
 r0:Boxed W (w.heap.size+1) 124 (.slice none 0 0)
 r1:Boxed W (w.heap.size+2) 54 (.int .i64 0)
 r2:Boxed W (w.heap.size+3) 3 (.int .i64 0)
 rules:∃ao cap xs,Boxed W (w.heap.size+4) 124 (.slice ao pre.length cap)/\W.ownsRow (w.heap.size+8) 249 3 (.slice ao pre.length cap) pre.length xs/\Hid (AA W (w.heap.size+8) 254 xs (pre.map λx=>JG (DX (D6 (CF x)))))
 le:pre.length<=16
 all:(pre.map CF).all (De n)=true
 size:w.heap.size+8<=W.heap.size
theorem Hi.own{row:I}(h:Hi w n pre W)(a:W.grownBy W' (H row))(d:row=K (U w)+5\/(K (U w)+8<=row/\∃o,W.heap[row]?=H o/\o.isCells=AQ)):Hi w n pre W':=by
 obtain⟨l,m,u,s,k,t⟩:=h.rules;refine⟨h.below.trans ⟨a.os,a.tape,a.output,a.size,λi z=>a.block i Bm B9⟩,h.lab.kept a B9,h.r0.kept a B9,h.r1.kept a B9,h.r2.kept a B9,⟨l,m,u,s.kept a B9,k.kept a ?_,?hx⟩,h.le,h.all,Cy h.size a.size⟩
 case hx =>
  refine t.out.kept λb p fr q g=>⟨q,(a.block b (Cc g) ?_).trans g⟩
  intro e;injection e with e;subst e;rcases d with d|⟨_,o,c,j⟩
  .omega
  rw[g]at c;cases c;cases j
 rcases k.2 with⟨f,_⟩|⟨x,v,p,f,y,r,_⟩
 .left;rw[f];rfl
 right;rw[f];intro e;cases e;rcases d with d|⟨_,o,c,j⟩
 .grind
 rw[r]at c;cases c;cases j
theorem Hi.out(x:DP)(h:Hi w n pre W)(hx:¬(De n (CF x)=AP/\O pre<16)):RA w n (pre++[x]) .ret (AB (AB (AB W ⟨K (U w)+1,0,Ao⟩ (T Ao 0 0)) ⟨K (U w)+1+1,0,Ao⟩ (C Y 6)) ⟨K (U w)+1+1+1,0,Ao⟩ (C Y (O pre:I))) /\
  Tr (K (U w)) (K (U w)+5) W (AB (AB (AB W ⟨K (U w)+1,0,Ao⟩ (T Ao 0 0)) ⟨K (U w)+1+1,0,Ao⟩ (C Y 6)) ⟨K (U w)+1+1+1,0,Ao⟩ (C Y (O pre:I))):=by
 have d:=Tr.set (K (U w)) (K (U w)+5) W (K (U w)+1) (T Ao 0 0) E E;have e:=Tr.set (K (U w)) (K (U w)+5) (AB W ⟨K (U w)+1,0,Ao⟩ (T Ao 0 0)) (K (U w)+1+1) (C Y 6) E E;have f:=Tr.set (K (U w)) (K (U w)+5) (AB (AB W ⟨K (U w)+1,0,Ao⟩ (T Ao 0 0)) ⟨K (U w)+1+1,0,Ao⟩ (C Y 6)) (K (U w)+1+1+1) (C Y (O pre:I)) E E;have a:=grownBy_setCell' W (K (U w)+1) (T Ao 0 0);have b:=grownBy_setCell' (AB W ⟨K (U w)+1,0,Ao⟩ (T Ao 0 0)) (K (U w)+1+1) (C Y 6);have c:=grownBy_setCell' (AB (AB W ⟨K (U w)+1,0,Ao⟩ (T Ao 0 0)) ⟨K (U w)+1+1,0,Ao⟩ (C Y 6)) (K (U w)+1+1+1) (C Y (O pre:I));refine⟨⟨Z,h.below.trans ((d.trans e).trans f).below,?_,?_,⟨pre,x,Z,?_,h.all,h.le,hx⟩,?_⟩,(d.trans e).trans f⟩
 .exact((h.r0.set _).kept b B9).kept c B9
 .exact(Boxed.set _ (h.r1.kept a B9)).kept c B9
 .exact Boxed.set _ ((h.r2.kept a B9).kept b B9)
 simp[World.setCell];exact h.size
theorem Hi.alloc(h:Hi w n pre W)(o:Obj):Hi w n pre (Az W o):=h.own (KB W o (H (K (U w)+5))) (AF rfl)
theorem Hi.belowS(h:Hi w n pre W)(hb:A0 W W'):Hi w n pre W' :=
 h.own (row:=K (U w)+5) ⟨hb.os,hb.tape,hb.output,hb.size,λi a _=>hb.block i a⟩ (AF rfl)
theorem yW{w5:X}{x:DP}(h:Hi w n pre V)(o:Tr (K (U w)) (K (U w)+5) W V)(z:Boxed V (K (U w)+4) 124 v)(j:V.ownsRow (K (U w)+8) 249 3 v (O pre) xs)(k:w5.ownsRow (K (U w)+8) 249 3 v' (O pre+1) ys)(a:V.grownBy w5 (Ax v))(R:¬(O pre:J)=16)(B:De n (CF x)=AP){pa:A4}{pc:I}(F:D (AA V (K (U w)+8) 254 xs (pre.map λx=>JG (DX (D6 (CF x))))))(y:F8 V (K (U w)+8) 254 pa (((D6 (CF x)).1.map Dw).flatMap Gn))(L:ys=xs++[T pa (D6 (CF x)).1.length pc,C Y (D6 (CF x)).2.1,C Y (D6 (CF x)).2.2]):KeepsOthers W (AB w5 ⟨K (U w)+1+1+1+1,0,Ao⟩ v')/\GG (K (U w)+5) (K (U w)+5+3) W (AB w5 ⟨K (U w)+1+1+1+1,0,Ao⟩ v')/\Hi w n (pre++[x]) (AB w5 ⟨K (U w)+1+1+1+1,0,Ao⟩ v'):=by
 have key:=λg h=>DK j (g:=g) h;have d:Tr (K (U w)) (K (U w)+5) V w5:=Tr.grown j a h.size E E;have f:=Tr.set (K (U w)) (K (U w)+5) w5 (K (U w)+4) v' E E;have c:=grownBy_setCell' w5 (K (U w)+4) v';have A:=z.kept a (λe=>B9);obtain⟨g,p,rfl⟩:=ownsRow_succ k;refine⟨(o.trans (d.trans f)).keep,(o.trans (d.trans f)).mid,⟨h.below.trans (d.trans f).below,?_,?_,?_,?_,⟨Aa g,p,ys,?_,?_,?hy⟩,?_,?_,?_⟩⟩
 case hy =>
  have r:(pre++[x]).map (λx=>JG (DX (D6 (CF x))))=(pre.map λx=>JG (DX (D6 (CF x))))++[JG (DX (D6 (CF x)))]:=B9;show AA _ _ _ _ _;rw[L,r];have l:=AA.push (pa:=pa) (pc:=pc) F.out (e:=JG (DX (D6 (CF x)))) y;have s:(JG (DX (D6 (CF x)))).2.1=(D6 (CF x)).1.length:=LW _;rw[s]at l;refine l.kept λb q fr t m=>⟨t,?_⟩
  have u:=Cc m;have k1:w5.heap[b]?=H (M q 254 fr):=by
   refine(a.block b u (λe=>?_)).trans m;rcases j.2 with⟨i,_⟩|⟨Q,N,P,i,S,hh,_⟩
   .rw[i]at e;cases e
   rw[i]at e;injection e with e;grind
  grind [Below.heap_setCell]
 .exact(h.lab.kept a (λe=>B9)).kept c B9
 .exact(h.r0.kept a (λe=>B9)).kept c B9
 .exact(h.r1.kept a (λe=>B9)).kept c B9
 .exact(h.r2.kept a (λe=>B9)).kept c B9
 .rw[Dc];exact A.set _
 .rw[Dc];refine k.kept c (AG (λe=>?_));have:=DK k e;omega
 .have:=h.le;grind
 .rw[JP,RW,h.all];simp[B]
 exact Cy h.size (d.trans f).below.size
theorem Hi.drew(h:Hi w n pre W):Hi w n pre W.drew:=h.belowS (Cq _ _).drew
theorem yX(a:(Az (Az (Az (Az (Az (Az (Az (Az w (M #[C Y n] 3)) (M #[T Ao 0 0] 124)) (M #[C Y 0] 54)) (M #[C Y 0] 3)) (M #[T Ao 0 0] 124)) (M #[.string s] 9)) (M #[Ae ⟨#[10]⟩] 9)) (M #[C Y 0] 3))=W0):Hi w n [] W0:=by
 subst a;refine⟨?_,?_,?_,?_,?_,⟨Ao,0,[],?_,Fa _ _ _ _,TW⟩,En _,Z,Ba⟩
 .exact(((((((Cl).alloc Ba _).alloc B7 _).alloc B7 _).alloc B7 _).alloc B7 _).alloc B7 _).alloc B7 _
 .exact(((((((Boxed.new w _ _).alloc _).alloc _).alloc _).alloc _).alloc _).alloc _).alloc _
 .have:=Boxed.new (Az w (M #[C Y n] 3)) 124 (T Ao 0 0);rw[CI]at this;exact(((((this.alloc _).alloc _).alloc _).alloc _).alloc _).alloc _
 .have:=Boxed.new (Az (Az w (M #[C Y n] 3)) (M #[T Ao 0 0] 124)) 54 (C Y 0);rw[CI,CI]at this;exact((((this.alloc _).alloc _).alloc _).alloc _).alloc _
 .have:=Boxed.new (Az (Az (Az w (M #[C Y n] 3)) (M #[T Ao 0 0] 124)) (M #[C Y 0] 54)) 3 (C Y 0);rw[CI,CI,CI]at this;exact(((this.alloc _).alloc _).alloc _).alloc _
 have:=Boxed.new (Az (Az (Az (Az w (M #[C Y n] 3)) (M #[T Ao 0 0] 124)) (M #[C Y 0] 54)) (M #[C Y 0] 3)) 124 (T Ao 0 0);rw[CI,CI,CI,CI]at this;exact((this.alloc _).alloc _).alloc _
def Ku(W:Ap)(lo:AH)(v:Aq)(rs:AJ (AJ (AH×A1)×AI×AI)):Prop:=∃xs,W.ownsRow lo 249 3 v (At rs) xs/\AA W lo 254 xs (rs.map JG)
theorem Ku.kept(h:Ku W lo v rs)(i:∀b,lo<=b->b<K (U W)->W'.heap[b]?=W.heap[b]?):Ku W' lo v rs:=by
 obtain⟨m,a,d⟩:=h;refine⟨m,⟨a.1,?_⟩,d.kept λb e fr j k=>⟨j,(i b j (Cc k)).trans k⟩⟩;rcases a.2 with c|⟨f,l,e,c,a,g,d⟩
 .exact AF c
 exact AG ⟨f,l,e,c,a,(i f a (Cc g)).trans g,d⟩
theorem Ku.pru(h:Ku W lo v rs):∃a b,v=T a (O rs) b/\J6 W a rs:=by obtain⟨e,c,d⟩:=h;exact yN c d
theorem iO{e:AN}{size:I}(h:W.ownsRow base e size v n xs)(hl:lo<=base):W.ownsRow lo e size v n xs:=by
 refine⟨h.1,?_⟩;rcases h.2 with a|⟨d,b,c,a,i,g,f⟩
 .exact AF a
 exact AG ⟨d,b,c,a,E,g,f⟩
def yY(n:AH)(s:AT)(w:Ap)(e:Ending)(w':Ap):Prop :=
 ∃a m cap,e=Ak (Af #[Ac a m cap,Ab Al (F1 n s.data.toList),Ab Al (IC n s.data.toList)])/\A0 w w'/\(F1 n s.data.toList=0->Ku w' (_root_.Array.size (Av w)) (Ac a m cap) ((EN s.data.toList).map DX))
theorem yZ{hs:s.size<=2000}{xs:AJ DP}{ao:A4}{D:I}(l:¬s.size=0)(h:xs.map CF=D0 10 (CF ⟨s,hs⟩))(m:W.ownsRow (K (U w)+8) 249 3 (T ao (O xs) cap) (O xs) ys)(hy:AA W (K (U w)+8) 254 ys (xs.map λx=>JG (DX (D6 (CF x)))))(y:W.heap[D]?=H (.deferred (H [])))(q:∀j,K (U w)+8<=j->V.heap[j]?=W.heap[j]?):Ku (V.putObj D (.deferred Ao)) (K (U w)) (T ao (O xs) cap) ((EN s.data.toList).map DX):=by
 have z:O s.data.toList=s.size:=FE;have n:EN s.data.toList=(xs.map CF).map D6:=by unfold EN;rw[Ci E,h];rfl
 have k:∀b a t fr,K (U w)+8<=b->W.heap[b]?=H (M a t fr)->(V.putObj D (.deferred Ao)).heap[b]?=H (M a t fr):=by intro b a t fr c d;have l:b≠D:=B9;have i:=(q b c).trans d;rw[(grownBy_putObj' V D (.deferred Ao)).block b (Cc i) ke5];exact i
 have u:(V.putObj D (.deferred Ao)).ownsRow (K (U w)+8) 249 3 (T ao (O xs) cap) (O ((EN s.data.toList).map DX)) ys:=by
  have e:O ((EN s.data.toList).map DX)=O xs:=by rw[n];simp
  rw[e];refine⟨m.1,?_⟩;rcases m.2 with f|⟨g,o,a,f,c,r,p⟩
  .exact AF f
  exact AG ⟨g,o,a,f,c,k g a _ _ c r,p⟩
 have v:AA (V.putObj D (.deferred Ao)) (K (U w)+8) 254 ys (((EN s.data.toList).map DX).map JG):=by
  have e:((EN s.data.toList).map DX).map JG=xs.map λx=>JG (DX (D6 (CF x))):=by rw[n,MP,MP,MP];rfl
  rw[e];exact hy.kept λb a fr c d=>⟨c,k b a _ fr c d⟩
 exact⟨ys,iO u E,v.kept λb a fr c d=>⟨E,d⟩⟩
theorem za(am:Jg w):Ar As 94 #[.string s,C Y n] w λe w'=>yY n s w e w':=by
 have hl:O s.data.toList=s.size:=FE;obtain⟨i0,hi,a4,a5,a6⟩:=DD Tryz.infoRule2;have HG:=G am;clear am;by_cases bb:(2000:J)<s.size
 .have hy:DU n s.data.toList=0:=by grind [DU]
  have HE:D (F1 n s.data.toList=6):=by grind [D,F1]
  have HN:D (IC n s.data.toList=0):=by grind [D,IC]
  clear hy;go_enter func94,ntmps94;go_wp2;have e3:=io w n 6;have c:A0 w (Az (Az (Az (Az w (M #[C Y n] 3)) (M #[T Ao 0 0] 124)) (M #[C Y 6] 54)) (M #[C Y 0] 3)):=((((Cl).alloc Ba _).alloc B7 _).alloc B7 _)
  generalize Az (Az (Az (Az w (M #[C Y n] 3)) (M #[T Ao 0 0] 124)) (M #[C Y 6] 54)) (M #[C Y 0] 3)=V at *;obtain⟨N,P,Q⟩:=e3;refine CL (v:=Af #[T Ao 0 0,C Y 6,C Y 0]) kep Z ?_;exact⟨Ao,0,0,by rw[AE HE,AE HN],c,λe=>by grind [D]⟩
 have hs:s.size<=2000:=E;cases hd:(s.toList==[])
 .have ae:D (¬s.size=0):=by grind [D,Lib.toList_data]
  refine(K7 (n:=10)).1 ?_;refine callsIn_of_wp_marks func94 Z trivial ?_ Z;simp only[ntmps94,KC,FU,Je,Nat.reduceAdd,Nat.reduceSub,NQ,NR,NU,NS,KG,Lf]
  gi_wp2_with fail
  refine⟨trivial,(K7.2 (gD s ⟨#[10]⟩)).mono ?_⟩;rintro e w' ⟨rfl,rfl⟩;simp only[CI,A0]
  gi_wp2
  obtain⟨W0,l⟩:=Dx ((Az (Az (Az (Az (Az (Az (Az (Az w (M #[C Y n] 3)) (M #[T Ao 0 0] 124)) (M #[C Y 0] 54)) (M #[C Y 0] 3)) (M #[T Ao 0 0] 124)) (M #[.string s] 9)) (M #[Ae ⟨#[10]⟩] 9)) (M #[C Y 0] 3)));have a3:K (U W0)=K (U w)+8:=by rw[<-l];simp
  have al:=yX l;have ak:=xU l;rw[l];refine gC Z E Z trivial (enters_of func195 B6 Z)
   (st:=K (U w)+5) E (lo:=K (U w)+5) (hi:=K (U w)+5+3) E (gG 9 (k:=(K (U w)+5)) (s:=⟨s,hs⟩) ak) CO (λx=>rfl)
   (λpre W=>Hi w n pre W) (λac pre W=>RA w n pre ac W)
   (λpre A av h hg=>h.own hg (AF rfl)) (λac pre A av h hg=>h.own hg E)
   (λpre A k o o' h r hk hc=>h.own (grownBy_putObj' A k o') (AG ⟨E,o,hk,hc⟩)) (λac pre A k o o' h r hk hc=>h.own (grownBy_putObj' A k o') E)
   al
   (λx=>{tmps:=#[.string s,C Y n,AO,A8 (K (U w)),A8 (K (U w)+1),A8 (K (U w)+1+1),A8 (K (U w)+1+1+1),A8 (K (U w)+1+1+1+1),.string x.1,AO,AO,.string s,C Y s.size,Ah AQ,.string s,Ah AQ,.string s,.func (.func 195) #[] #[A8 (K (U w)+1+1+1+1+1+1),A8 (K (U w)+1+1+1+1+1),A8 (K (U w)+1+1+1+1+1+1+1)],.string x.1,AO,AO,AO,AO,AO,AO,AO,AO,AO,AO,AO,AO,AO,AO,AO,AO,AO,AO,AO,AO],defers:=[]}) ?assign ?body ?done ?stop
  case assign =>
   intro au x W a7 R
   gi_wp2
   exact R
  case body =>
   clear al ak l a3;intro au pre x W p bd;have F:=G p;have c0:=p.lab.cell;have cR:=yV n x.2 (HG.below p.below);clear p
   gi_wp2_with fail
   refine⟨trivial,((K7.2 cR).inRound au).mono ?_⟩;clear cR c0;rintro e i ⟨t,u,L,y,z,rfl,r,B⟩;have aw:D (De n x.1.data.toList=AP->u=(D6 x.1.data.toList).1.length/\y=(D6 x.1.data.toList).2.1/\z=(D6 x.1.data.toList).2.2/\F8 i (K (U w)+8) 254 t (((D6 x.1.data.toList).1.map Dw).flatMap Gn)):=λe=>⟨(B e).1,(B e).2.1,(B e).2.2.1,(B e).2.2.2.kept λa8 ba fr h1 h3=>⟨ke0,h3⟩⟩
   clear B;simp only[F7];have ah:=G (F.belowS r);have az:D (Tr (K (U w)) (K (U w)+5) W i):=Tr.below' r ke0 ke0;clear r F;have bg:=ah.size;have a:D (Hi w n pre (Az i (M #[T t u L,C Y y,C Y z] 249))):=ah.alloc _;have af:D (Tr (K (U w)) (K (U w)+5) W (Az i (M #[T t u L,C Y y,C Y z] 249))):=az.trans (Tr.alloc _ _ _ _ E E);have bc:=a.le;cases j:De n x.1.data.toList
   .have ap:¬(De n (CF x)=AP/\O pre<16):=λh=>by have h1:De n x.1.data.toList=AP:=h.1;rw[j]at h1;cases h1
    have ab:=G ap;clear ap
    gi_wp2
    generalize Az i (M #[T t u L,C Y y,C Y z] 249)=V at *;obtain⟨d,f,m,S,ho,ai⟩:=a.rules;have c4:A6 V (K (U w)+1+1+1+1) 0 (T d (O pre) f):=S.cell;have c1:=a.r0.cell;have f1:=a.r0.frozen;have c2:A6 V (K (U w)+1+1) 0 (C Y 0):=a.r1.cell;have f2:V.frozen? ⟨K (U w)+1+1,0,Ao⟩=AQ:=a.r1.frozen;have c3:A6 V (K (U w)+1+1+1) 0 (C Y 0):=a.r2.cell;have f3:V.frozen? ⟨K (U w)+1+1+1,0,Ao⟩=AQ:=a.r2.frozen
    gi_region
    all_goals gi_wp2
    all_goals exact⟨((af.trans (ik ket ket)).trans (a.drew.out x ab).2).keep,(a.drew.out x ab).1⟩
   have bf:K (U i)<K (U (Az i (M #[T t u L,C Y y,C Y z] 249))):=Ba;obtain⟨d,f,m,S,ho,ai⟩:=a.rules;have c4:(Az i (M #[T t u L,C Y y,C Y z] 249)).cell? ⟨K (U w)+1+1+1+1,0,Ao⟩=H (T d (O pre) f):=S.cell;have HP:=G S;have b:=G ho;by_cases aj:(O pre:J)=16
   .have ab:D (¬(De n (CF x)=AP/\O pre<16)):=λh=>E;have c1:=a.r0.cell;have f1:=a.r0.frozen;have c2:(Az i (M #[T t u L,C Y y,C Y z] 249)).cell? ⟨K (U w)+1+1,0,Ao⟩=H (C Y 0):=a.r1.cell;have f2:(Az i (M #[T t u L,C Y y,C Y z] 249)).frozen? ⟨K (U w)+1+1,0,Ao⟩=AQ:=a.r1.frozen;have c3:(Az i (M #[T t u L,C Y y,C Y z] 249)).cell? ⟨K (U w)+1+1+1,0,Ao⟩=H (C Y 0):=a.r2.cell;have f3:(Az i (M #[T t u L,C Y y,C Y z] 249)).frozen? ⟨K (U w)+1+1+1,0,Ao⟩=AQ:=a.r2.frozen
    gi_wp2
    generalize Az i (M #[T t u L,C Y y,C Y z] 249)=V at *
    gi_region
    all_goals gi_wp2
    all_goals
     have o:=a.drew.out x ab;rw[aj]at o;exact⟨((af.trans (ik E E)).trans o.2).keep,o.1⟩
   have ay:D (De n (CF x)=AP):=j;have aa:=G (aw j)
   gi_wp2_with(first
    |(gi_at_builtin;refine wpListIn_append_own _ Z _ _ 124 Z (K (U w)+8) 249 i0 (.agg DO) 3 40 underlying124 hi a4 a5 a6 Z B8 _ _ _ Z (b.alloc _) ⟨K (U i)+1,0,Ao⟩ 1 1 [T t u L,C Y y,C Y z] Z Z (TG) (λx hx=>C5) Bc E B7 ?_;intro v' w5 aq an be;obtain⟨g5,a9,rfl⟩:=ownsRow_succ aq;have ar:=(HP.alloc _).kept an (λe=>AY (DK b e.symm));have c5:A6 w5 (K (U w)+1+1+1+1) 0 (T d (O pre) f):=ar.cell;have f5:w5.frozen? ⟨K (U w)+1+1+1+1,0,Ao⟩=AQ:=ar.frozen))
   exact yW (a.alloc _) (af.trans (Tr.alloc _ _ _ _ B7 B7)) (HP.alloc _) (b.alloc _) aq an aj ay (ai.below Cl) ((aa.2.2.2.below Cl).below Cl) (by show _++[Go.Value.slice t u L,C Y y,C Y z]=_;rw[aa.1,aa.2.1,aa.2.2.1];rfl)
  case done =>
   intro g m W hD hS p R;obtain⟨d,f,ys,S,ho,a0⟩:=p.rules;have b:=G ho;have F:=G p;have HS:=G hS;have HK:=G R;have c4:A6 W (K (U w)+1+1+1+1) 0 (T d (O m) f):=S.cell;have c1:=p.r0.cell;have f1:=p.r0.frozen;have c2:A6 W (K (U w)+1+1) 0 (C Y 0):=p.r1.cell;have f2:W.frozen? ⟨K (U w)+1+1,0,Ao⟩=AQ:=p.r1.frozen;have c3:A6 W (K (U w)+1+1+1) 0 (C Y 0):=p.r2.cell;have f3:W.frozen? ⟨K (U w)+1+1+1,0,Ao⟩=AQ:=p.r2.frozen
   gi_wp2
   have hy:=xS ae HS F.le F.all;have hE:F1 n s.data.toList=0:=kfh;have hN:IC n s.data.toList=0:=by grind [IC]
   have t1:=Tr.set (K (U w)) (K (U w)+5) W (K (U w)+1) (T d (O m) f) E E;have t2:=Tr.set (K (U w)) (K (U w)+5) (AB W ⟨K (U w)+1,0,Ao⟩ (T d (O m) f)) (K (U w)+1+1) (C Y 0) E E;have t3:=Tr.set (K (U w)) (K (U w)+5) (AB (AB W ⟨K (U w)+1,0,Ao⟩ (T d (O m) f)) ⟨K (U w)+1+1,0,Ao⟩ (C Y 0)) (K (U w)+1+1+1) (C Y 0) E E;have g1:=grownBy_setCell' W (K (U w)+1) (T d (O m) f);have g2:=grownBy_setCell' (AB W ⟨K (U w)+1,0,Ao⟩ (T d (O m) f)) (K (U w)+1+1) (C Y 0);have g3:=grownBy_setCell' (AB (AB W ⟨K (U w)+1,0,Ao⟩ (T d (O m) f)) ⟨K (U w)+1+1,0,Ao⟩ (C Y 0)) (K (U w)+1+1+1) (C Y 0);have b0:=((F.r0.set (T d (O m) f)).kept g2 B9).kept g3 B9;have b1:=(Boxed.set (C Y 0) (F.r1.kept g1 B9)).kept g3 B9;have b2:=Boxed.set (C Y 0) ((F.r2.kept g1 B9).kept g2 B9);have c:=F.below.trans ((t1.trans t2).trans t3).below;have R:=((t1.trans t2).trans t3).keep.same g _ HK Z;have HC:D (∀ad,K (U w)+8<=ad->(AB (AB (AB W ⟨K (U w)+1,0,Ao⟩ (T d (O m) f)) ⟨K (U w)+1+1,0,Ao⟩ (C Y 0)) ⟨K (U w)+1+1+1,0,Ao⟩ (C Y 0)).heap[ad]?=W.heap[ad]?):=λad hj=>((G9 _ _ _ _ B7).trans (G9 _ _ _ _ B7)).trans (G9 _ _ _ _ B7);generalize AB (AB (AB W ⟨K (U w)+1,0,Ao⟩ (T d (O m) f)) ⟨K (U w)+1+1,0,Ao⟩ (C Y 0)) ⟨K (U w)+1+1+1,0,Ao⟩ (C Y 0)=V at *;refine⟨Ba,AF ⟨g,_,Z,run_takeDeferred R,?_⟩⟩;have N:=(Boxed.kept b0 (grownBy_putObj' V g (.deferred Ao)) B9).cell;have P:(V.putObj g (.deferred Ao)).cell? ⟨K (U w)+1+1,0,Ao⟩=H (C Y 0):=(Boxed.kept b1 (grownBy_putObj' V g (.deferred Ao)) B9).cell;have Q:(V.putObj g (.deferred Ao)).cell? ⟨K (U w)+1+1+1,0,Ao⟩=H (C Y 0):=(Boxed.kept b2 (grownBy_putObj' V g (.deferred Ao)) B9).cell;refine⟨Af #[T d (O m) f,C Y 0,C Y 0],?_,⟨d,O m,f,by rw[hE,hN],PI c E,λ_=>yZ ae HS b a0 HK HC⟩⟩;simp[results,f94,go_sem,N,P,Q]
  case stop =>
   intro g ac pre W hD hS q R;obtain rfl:=q.ret
   gi_wp2
   obtain⟨ag,x,rfl,a1,ha,a2,hx⟩:=q.bad;obtain⟨bh,j⟩:=hS;have hy:=xT ae j ha a2 hx;have hE:F1 n s.data.toList=6:=kfh;have hN:IC n s.data.toList=O ag:=by grind [IC]
   refine⟨Ba,AF ⟨g,_,Z,run_takeDeferred R,?_⟩⟩;have N:=(q.r0.kept (grownBy_putObj' W g (.deferred Ao)) B9).cell;have P:(W.putObj g (.deferred Ao)).cell? ⟨K (U w)+1+1,0,Ao⟩=H (C Y 6):=(q.r1.kept (grownBy_putObj' W g (.deferred Ao)) B9).cell;have Q:(W.putObj g (.deferred Ao)).cell? ⟨K (U w)+1+1+1,0,Ao⟩=H (C Y (O ag:I)):=(a1.kept (grownBy_putObj' W g (.deferred Ao)) B9).cell;refine⟨Af #[T Ao 0 0,C Y 6,C Y (O ag:I)],?_,⟨Ao,0,0,by rw[hE,hN],PI q.below E,λe=>by rw[hE]at e;cases e⟩⟩;simp[results,f94,go_sem,N,P,Q]
 have h0:s.data.toList=[]:=by grind [Lib.toList_data]
 have hy:DU n s.data.toList = -1:=by grind [DU]
 have HE:D (F1 n s.data.toList=0):=by grind [D,F1]
 have HN:D (IC n s.data.toList=0):=by grind [D,IC]
 have ax:D (EN s.data.toList=[]):=by grind [D,EN]
 go_enter func94,ntmps94;go_wp2;have e3:=io w n 0;have c:A0 w (Az (Az (Az (Az w (M #[C Y n] 3)) (M #[T Ao 0 0] 124)) (M #[C Y 0] 54)) (M #[C Y 0] 3)):=((((Cl).alloc Ba _).alloc B7 _).alloc B7 _)
 generalize Az (Az (Az (Az w (M #[C Y n] 3)) (M #[T Ao 0 0] 124)) (M #[C Y 0] 54)) (M #[C Y 0] 3)=V at *;obtain⟨N,P,Q⟩:=e3;refine CL (v:=Af #[T Ao 0 0,C Y 0,C Y 0]) kep Z ?_;exact⟨Ao,0,0,by rw[AE HE,AE HN],c,λ_=>by rw[AE ax];exact⟨[],Fa _ _ _ _,TW⟩⟩
end
end
section
open Go.RowKit
theorem zL{A:I}{q:D5}{st:I->I}{tk:I->I->I}(h:DE W A tb L q sv st tk V)(b:A≠tb)(a:k<16)(c:w2=V.drew.setCell ⟨A,3+k,Ao⟩ (C .u16 ((st k|||2^j:I):J))):DE W A tb L q sv (Gq st k j AP) tk w2:=by rw[c,<-zI];exact h.stays b k (st k|||2^j) a
theorem XL{A:I}{q:D5}{st:I->I}{tk:I->I->I}(h:DE W A tb L q sv st tk V)(b:A≠tb)(d:K (U W)<=tb){o:I}(hx:x<L)(a:k<16)(c:o=x*16)(e:w2=V.drew.setCell ⟨tb,o+k,Ao⟩ (C .u16 ((tk x k|||2^j:I):J))):DE W A tb L q sv st (L8 tk x k j) w2:=by rw[e,c];exact h.one b d x k j hx a
def zM(W:Ap)(A:AH)(q:D5)(sv:Aq)(ks:AJ A1)(e:Ending)(W':Ap):Prop :=
 e=Ak (Af #[])/\∃tb st tk,_root_.Array.size (Av W)<=tb/\DE W A tb (2+At ks) q sv st tk W'/\LK q.rs ks st tk
theorem zN{A:I}{q:D5}(a3:A0 W0 W)(g:A7 W A (Ia q (λ_=>0) (T Ao 0 0) sv) 187)(an:K (U W0)<=A)(hn:O q.rs<=16)(h8:∀i (h:i<O q.rs),q.rs[i].1.length<=8)(a6:∀i (h:i<O q.rs) j (r:j<q.rs[i].1.length),q.rs[i].1[j].1<=3/\q.rs[i].1[j].2.length<=1000000000)(hr:J6 W0 q.ra q.rs)(hm:Hj W q.lm ks)(aq:O ks<=128)(a5:∀i (h:i<O q.rs) j (r:j<q.rs[i].1.length),q.rs[i].1[j].1=3->q.rs[i].1[j].2∈ks)(bl:A≠q.lm):Ar As 96 #[A8 A] W (zM W A q sv ks):=by
 have c2:=(IJ W A 2 _ _ _ g).trans (XJ);have b6:=hm.len underlying178;have ai:=G g;have b0:=Dq W A 19 _ _ g;have c19:=(IJ W A 19 _ _ _ g).trans (iX);have HR:=G hr;have ak:=G a3;have HM:=G hm;have bb:=G a6;have ba:=G a5;have H8:=G h8;have be:=G (zD aq);have bc:=G aq;clear g hr a3 hm a6 a5 h8 aq;go_enter func96,ntmps96;have b7:=AE be;have lA:=Cc ai;have bu:D ((Az W (Aj (madeCells (Cw DT) ((2+O ks)*16)) 183)).setCell ⟨A,19,Ao⟩ (T (Aa (K (U W))) (2+O ks) (2+O ks))=(AB W ⟨A,19,Ao⟩ (T (Aa (K (U W))) (2+O ks) (2+O ks))).alloc (Aj (madeCells (Cw DT) ((2+O ks)*16)) 183)):=by show _=_;go_simp
 have bv:D (DE W A (K (U W)) (2+O ks) q sv (λ_=>0) (λ_ _=>0) ((AB W ⟨A,19,Ao⟩ (T (Aa (K (U W))) (2+O ks) (2+O ks))).alloc (Aj (madeCells (Cw DT) ((2+O ks)*16)) 183))):=by have h:=zG (L:=2+O ks) ai;grind [D]
 have c0:=(IJ _ A 0 _ _ _ ai).trans (XK);obtain⟨ra,bf⟩:=CA q.ra;rw[AE bf]at c0;have a0:D (J6 W0 ra q.rs):=by grind [D]
 go_wp2;obtain⟨L,HL⟩:∃L,D (L=2+O ks):=⟨_,rfl⟩
 obtain⟨a,aa⟩:∃a,D (K (U W)<=a/\a=K (U W)):=⟨_,Co _,rfl⟩
 have ad:A≠a:=by grind [D]
 have bd:D (DE W A a L q sv (λ_=>0) (λ_ _=>0) ((AB W ⟨A,19,Ao⟩ (T (Aa (K (U W))) (2+O ks) (2+O ks))).alloc (Aj (madeCells (Cw DT) ((2+O ks)*16)) 183))):=by grind [D]
 generalize(AB W ⟨A,19,Ao⟩ (T (Aa (K (U W))) (2+O ks) (2+O ks))).alloc (Aj (madeCells (Cw DT) ((2+O ks)*16)) 183)=V00 at *
 go_loopg[22] (O q.rs) (λam z wr=>∃(k:I) (st:I->I) (tk:I->I->I),z=C Y k/\D (k+am=O q.rs)/\D (DE W A a L q sv st tk wr)/\D (ID q.rs ks k 0 st tk))
 case atStart=>exact⟨0,_,_,rfl,Bg,bd,zx⟩
 case round =>
  obtain⟨k,st,tk,rfl,hg,HN,HK⟩:=hrel;obtain _|am:=gk
  .have bq:¬(k:J)<(O q.rs:J):=AY (AE hg);go_wp2;go_end0;refine⟨Z,a,st,tk,aa.1,?_,HK.done (AY (AE hg))⟩;grind [D]
  have N:k<O q.rs:=AY (AE hg);have bq:(k:J)<(O q.rs:J):=E;obtain⟨bk,off,pa,pc,rfl,hb,e0,e1,e2,b9⟩:=(a0.below (HN.low ak an)).at_ k N;have a1:D (Oz W0 pa q.rs[k].1):=by obtain⟨b',cb,cd,ce,ao,bm,f0,f1,f2,b8⟩:=a0.at_ k N;injection ao with ao;injection ao with hab1 hab2;subst hab1;subst hab2;have e3:=((HN.low ak an).cell (p:=⟨bk,off+k*3,Ao⟩) bm).trans f0;grind [D]
  have bn:=H8.out k N;have d:k<16:=E;have av:D (∀j (r:j<q.rs[k].1.length),(q.rs[k].1[j].1<=3/\q.rs[k].1[j].2.length<=1000000000)/\(q.rs[k].1[j].1=3->q.rs[k].1[j].2∈ks)):=λj r=>⟨bb k N j r,ba k N j r⟩
  have az:=G (D3 N);have bw:D (DE W A a L q sv st tk (Az wr (Aj #[T pa q.rs[k].1.length pc,C Y q.rs[k].2.1,C Y q.rs[k].2.2] 249))):=HN.next Cl
  go_wp2;generalize Az wr (Aj #[T pa q.rs[k].1.length pc,C Y q.rs[k].2.1,C Y q.rs[k].2.2] 249)=V0 at *;generalize q.rs[k]=R at *;obtain⟨Q,lb,ac⟩:=R;dsimp only at a1 bn av
  go_loopg[30] (O Q) (λF z al=>∃(j:I) (st:I->I) (tk:I->I->I),z=C Y j/\D (j+F=O Q)/\D (DE W A a L q sv st tk al)/\D (ID q.rs ks k j st tk))
  case atStart=>grind [D]
  case round =>
   obtain⟨j,st,tk,rfl,a4,B,ah⟩:=hrel;obtain _|F:=gk
   .have br:¬(j:J)<(O Q:J):=AY (AE a4);go_wp2;go_roundg am
    case measure=>omega
    case rel=>exact⟨k+1,st,tk,Bb,B9,B,ah.rule az B9⟩
   have ap:j<O Q:=AY (AE a4);have br:(j:J)<(O Q:J):=E;obtain⟨b2,cc,rfl,b5,s0,s1⟩:=(a1.below (B.low ak an)).at_ j ap;obtain⟨⟨bo,bp⟩,bt⟩:=av.out j ap;have bg:=G (D3 ap);have aw:=G bp;have ay:=G bt;have au:=G bo;have af:j<16:=E;generalize Q[j]=sg at *;have l:D (DE W A a L q sv st tk (Az wr (Aj #[C Y sg.1,Ae ⟨Aw sg.2⟩] 254))):=B.next Cl
   have ax:=ah.lt H8;have bh:=G ax.1;have aj:=G ax.2;have v:=G (ah.place az bg);have bi:D (a<K (U wr)):=by obtain⟨bz,h1,_⟩:=B.tks;exact Cc h1
   obtain⟨P,key⟩:=sg;have ag:D ((Az wr (Aj #[C Y P,Ae ⟨Aw key⟩] 254)).heap[K (U wr)]?=H (Aj #[C Y P,Ae ⟨Aw key⟩] 254)):=Cj _;dsimp only at aw ay au;have ab:=B.c19;have b1:=Cc B.row;have b3:(1:J)<(L:J):=AY (AE HL);have b4:L<=130:=B3 (AE HL) (AE bc);rcases(by have:=AE au;omega:P=0\/P=1\/P=2\/P=3)with rfl|rfl|rfl|rfl
   .have w:D (ID q.rs ks k (j+1) st (λx=>Gq (tk x) k j AP)):=by have h:=AE v;have e:Gq st k j (((0,key):I×A1).1==1)=st:=U0 st;rw[e]at h;exact h
    go_wp2;generalize Az wr (Aj #[C Y ((0:I):J),Ae ⟨Aw key⟩] 254)=V1 at *
    go_loopg[44] L (λg3 z al=>∃m:I,z=C Y m/\D (m+g3=L)/\D (DE W A a L q sv st (MD tk m k j) al))
    case atStart=>exact⟨0,rfl,Bg,by rw[zJ];exact l⟩
    case round =>
     obtain⟨m,rfl,ae,V⟩:=hrel;obtain _|g3:=gk
     .have bs:¬(m:J)<(L:J):=AY (AE ae);have s:=G (V.alike λx cg hx=>by unfold MD;rw[Cn (AY (AE ae))]);go_wp2;go_roundg F
      case measure=>omega
      case rel=>exact⟨j+1,st,_,Bb,B9,s,w⟩
     have a8:m<L:=AY (AE ae);have bs:(m:J)<(L:J):=E;have ab:=V.c19;obtain⟨ct,o⟩:=V.ct m k a8 d;have a7:MD tk m k j m k<65536:=by unfold MD;rw[Ci E];have:=aj.out m k;omega
     have n:=Rm d af a7 ct o;clear ct o a7
     go_wp2_with(first
      |(go_at_call 140;refine n.mono ?_;clear n;rintro e y ⟨rfl,f⟩;have s:=G (XL V ad aa.1 a8 d Z f);clear f ab))
     go_roundg g3
     case measure=>omega
     case rel=>exact⟨m+1,Bb,AZ (AE ae),by rw[<-zK];exact s⟩
   .have w:D (ID q.rs ks k (j+1) (Gq st k j AP) tk):=by
     have h:=AE v;have e:(λx=>Gq (tk x) k j (MC ks (1,key) x))=tk:=by funext x;exact U0 (tk x)
     rw[e]at h;exact h
    obtain⟨ct,o⟩:=l.cs k d;have n:=Rm d af (AY (bh.out k)) ct o;clear v ct o
    go_wp2_with(first
     |(go_at_call 140;refine n.mono ?_;clear n;rintro e y ⟨rfl,f⟩;have s:=G (zL l ad d f);clear f ab l))
    go_roundg F
    case measure=>omega
    case rel=>exact⟨j+1,_,tk,Bb,B9,s,w⟩
   .have w:D (ID q.rs ks k (j+1) st (L8 tk 1 k j)):=by
     have h:=AE v;have e:(λx=>Gq (tk x) k j (MC ks (2,key) x))=L8 tk 1 k j:=by funext x;exact(iY tk 1).symm
     have e2:Gq st k j (((2,key):I×A1).1==1)=st:=U0 st;rw[e,e2]at h;exact h
    obtain⟨ct,o⟩:=l.ct 1 k E d;have n:=Rm d af (AY (aj.out 1 k)) ct o;clear v ct o
    go_wp2_with(first
     |(go_at_call 140;refine n.mono ?_;clear n;rintro e y ⟨rfl,f⟩;have s:D (DE W A a L q sv st (L8 tk 1 k j) y):=XL l ad aa.1 E d Z f;clear f ab l))
    go_roundg F
    case measure=>omega
    case rel=>exact⟨j+1,st,_,Bb,B9,s,w⟩
   obtain⟨x,HX⟩:∃x,D (x=(FB ks (.string key)).getD 0):=⟨_,rfl⟩
   have bj:D (x<L):=by have h:=ay.out Z;show x<L;rw[AE HX,NB h,AE HL];have:=Ur.2 h;show 2+ks.idxOf key<_;omega
   have w:D (ID q.rs ks k (j+1) st (L8 tk x k j)):=by
    have h:=AE v;have e:(λar=>Gq (tk ar) k j (MC ks (3,key) ar))=L8 tk x k j:=by funext ar;rw[iY,AE HX];rfl
    have e2:Gq st k j (((3,key):I×A1).1==1)=st:=U0 st;rw[e,e2]at h;exact h
   have hxL:=AE bj;have ca:(x:J)<(L:J):=E;clear v;go_wp2;generalize Az wr (Aj #[C Y ((3:I):J),Ae ⟨Aw key⟩] 254)=V1 at *;generalize K (U wr)=M at *;refine Dl (S:=λt=>(∃tk,DE W A a L q sv st tk t)/\A7 t M #[C Y ((3:I):J),Ae ⟨Aw key⟩] 254) (⟨⟨tk,l.next (Cq _ _).drew⟩,ag⟩) B6 ?_;intro c;refine Ca 0 77 (A8 A) c ?_;refine Ca 1 78 (A8 A) c ?_;refine Ca 2 79 (A9 A 19) c ?_;refine Cf 3 80 (T (Aa a) L L) Z (λt u=>?y3) c ?_
   case y3=>(obtain⟨a9,b⟩:=u.1;have z1:=b.c19;go_simp)
   refine Ca 4 81 (A8 A) c ?_;refine Ca 5 82 (A8 A) c ?_;refine Ca 6 83 (A9 A 2) c ?_;refine Cf 7 84 (.map (H q.lm)) Z (λt u=>?y7) c ?_
   case y7=>(obtain⟨a9,b⟩:=u.1;have z1:=b.c2;go_simp)
   refine Ca 8 85 (A9 M 1) c ?_;refine Cf 9 86 (Ae ⟨Aw key⟩) Z (λt u=>?y9) c ?_
   case y9=>(have z1:=Cb u.2 1;go_simp)
   refine Cf 10 87 (C Y x) Z (λt u=>?y10) c ?_
   case y10=>(obtain⟨a9,b⟩:=u.1;have z3:=Rq (b.names HM bl).im Mz underlying178 (N6 aw);rw[<-AE HX]at z3;go_simp)
   refine Cf 11 88 (A9 a (x*16)) Z (λt u=>?y11) c ?_
   case y11=>(go_simp)
   refine Ca 12 89 (C Y k) c ?_;refine Ca 13 90 (C Y j) c ?_;obtain⟨ct,o⟩:=(l.next (Cq _ _).drew).ct x k hxL d;have n:=Rm d af (AY (aj.out x k)) ct o;clear ct o;refine CC 14 (λbx hK=>?_);go_simp;refine n.mono ?_;clear n;rintro e y ⟨rfl,f⟩;have s:=G (XL (l.next (Cq _ _).drew) ad aa.1 hxL d rfl f);have a2:(λt:X=>(∃tk,DE W A a L q sv st tk t)/\A7 t M #[C Y ((3:I):J),Ae ⟨Aw key⟩] 254) y:=⟨⟨_,s⟩,by rw[f];exact(G9 _ _ _ _ (B0 (AE bi))).trans ag⟩
   clear f l ag;refine hK.out _ _ a2 (λ_=>?_);clear hK c a2;refine CG ?_;go_simp;go_wp2;go_roundg F
   case measure=>omega
   case rel=>exact⟨j+1,st,_,Bb,B9,s,w⟩
structure ja(W:World)(rs:List (List (Nat×A1)×Int×Int))(dflt:Int)(A:Nat)(q:D5)(sts:List ((Nat->Nat)×Int×Int))(sa:A4)(sc:Nat)(nf:Lit->Option Nat)(mf:Lit->Option Nat)(W':World):Prop where
 au:DB W A q sts (.slice sa sts.length sc) nf 0 mf W'
 ers:q.rs=rs
 edf:q.dflt=dflt
 elf:q.lf=FB (Gp rs)
 eL:q.L=2+(Gp rs).length
 ly:LK rs (Gp rs) q.st q.tk
 mv:OG q sts mf
 few:sts.length<=1
 first:∃t Y,sts[0]?=some t/\PP rs.length q.st (one rs.length) Y/\∀r,r<16->t.1 r=Y r
def jb(W:Ap)(ra:A4)(rs:AJ (AJ (AH×A1)×AI×AI))(dflt:AI)(e:Ending)(W':Ap):Prop :=
 ∃A q sts sa sc nf mf,e=Ak (A8 A)/\q.ra=ra/\ja W rs dflt A q sts sa sc nf mf W'
def OK(W:Ap):Ap:=Az (Az (Az W (.map #[] 0)) (.map #[] 0)) (.map #[] 0)
theorem jc(W:X):K (U (OK W))=K (U W)+3:=by simp[OK]
theorem zY(a:AN)(e:K (U W)<=b)(f:b<K (U W)+3):E5 (OK W) a b 0 (λ_=>Ao):=by
 have c:K (U (Az W (.map #[] 0)))=K (U W)+1:=Ba;have d:K (U (Az (Az W (.map #[] 0)) (.map #[] 0)))=K (U W)+2:=Ba;rcases(by omega:b=K (U W)\/b=K (U W)+1\/b=K (U W)+2)with rfl|rfl|rfl
 .exact((Xe W a).kept (KB _ _ Ao) Ba).kept (KB _ _ Ao) Ba
 .have h:=(Xe (Az W (.map #[] 0)) a).kept (KB _ (.map #[] 0) Ao) Ba;rw[c]at h;exact h
 have h:=Xe (Az (Az W (.map #[] 0)) (.map #[] 0)) a;rw[d]at h;exact h
theorem zZ(d:K (U W)<=b)(e:b<K (U W)+3):Hj (OK W) b []:=by
 have a:K (U (Az W (.map #[] 0)))=K (U W)+1:=Ba;have c:K (U (Az (Az W (.map #[] 0)) (.map #[] 0)))=K (U W)+2:=Ba;rcases(by omega:b=K (U W)\/b=K (U W)+1\/b=K (U W)+2)with rfl|rfl|rfl
 .exact((XI W).kept (KB _ _ Ao) Ba).kept (KB _ _ Ao) Ba
 .have h:=(XI (Az W (.map #[] 0))).kept (KB _ (.map #[] 0) Ao) Ba;rw[a]at h;exact h
 have h:=XI (Az (Az W (.map #[] 0)) (.map #[] 0));rw[c]at h;exact h
def q0(ra:A4)(rc:AH)(rs:AJ (AJ (AH×A1)×AI×AI))(dflt:AI)(lm nb mb:AH):D5 :=
 {ra:=ra,rc:=rc,rs:=rs,dflt:=dflt,lm:=lm,ln:=0,lf:=λ_=>Ao,st:=λ_=>0,tb:=0,L:=0,tc:=0,tk:=λ_ _=>0,nb:=nb,mb:=mb}
def q1(ra:A4)(rc:AH)(rs:AJ (AJ (AH×A1)×AI×AI))(dflt:AI)(lm nb mb:AH)(st:AH->AH)(tb:AH)(tk:AH->AH->AH):D5 :=
 {ra:=ra,rc:=rc,rs:=rs,dflt:=dflt,lm:=lm,ln:=At (Gp rs),lf:=FB (Gp rs),st:=st,tb:=tb,L:=2+At (Gp rs),tc:=2+At (Gp rs),tk:=tk,nb:=nb,mb:=mb}
theorem LK.lt{st:I->I}{tk:I->I->I}(h:LK rs ks st tk)(b:∀i (h:i<O rs),rs[i].1.length<=8):(∀r,st r<256)/\∀x r,tk x r<256 :=
 ⟨λr=>TY λp a=>by rw[h.s,TZ b a],λx r=>TY λp a=>by rw[h.t,TZ b a]⟩
theorem q1U{V0 V1 V2 V3:X}{ra:A4}{rc:I}{dflt:J}{lm nb mb A:I}{st:I->I}{tk:I->I->I}(N:J6 W ra rs)(L:O rs<=16)(o:∀i (h:i<O rs),rs[i].1.length<=8)(hA:A=K (U W)+3)(n:K (U W)<=lm/\lm<K (U W)+3)(d:K (U W)<=nb/\nb<K (U W)+3)(e:K (U W)<=mb/\mb<K (U W)+3)(k:lm≠nb)(m:lm≠mb)(v:nb≠mb)(p:V0=(OK W).alloc (M (Ia (q0 ra rc rs dflt lm nb mb) (λ_=>0) (T Ao 0 0) (T Ao 0 0)) 187))(c:LJ V0 lm (Gp rs) V1)(ac:K (U V1)<=tb)(y:DE V1 A tb (2+O (Gp rs)) (q0 ra rc rs dflt lm nb mb) (T Ao 0 0) st tk V2)(x:LK rs (Gp rs) st tk)(w:A0 V2 V3):DB W A (q1 ra rc rs dflt lm nb mb st tb tk) [] (T Ao 0 0) (λ_=>Ao) 0 (λ_=>Ao) V3:=by
 have aa:K (U V0)=K (U W)+4:=by rw[p,CI,jc]
 have ab:=c.but.size;have a:=y.next w
 have r:A0 W V0:=by rw[p];exact(((Cl).alloc Ba _).alloc B7 _).alloc B7 _
 have s:=c.but.low r n.1;have t:=a.low s E;have B:(OK W).grownBy V0 Ao:=by grind [World.grownBy_alloc]
 have F:V0.grownBy V1 (H lm):=⟨c.but.os,c.but.tape,c.but.output,c.but.size,λi f j=>c.but.block i f keS⟩
 have q:V1.grownBy V3 (H A):=⟨a.os,a.tape,a.output,a.size,λi f j=>a.block i f keS⟩
 have key:=λS b P Q R =>
  (((zY S (b:=b) P Q).kept B Ba).kept F keU).kept q B7
 obtain⟨u,V,g⟩:=a.tks;refine⟨?_,N,⟨L,o⟩,t,?_,⟨u,V,g.at_⟩,Fa _ _ _ _,key _ nb d.1 d.2 k.symm,key _ mb e.1 e.2 m.symm,?_,?_,?_,x.lt o,?_,?_,λad i h=>Bo⟩
 .rw[zy];exact a.row
 .exact(c.names.kept q B7).im
 .exact⟨E,n.1,show K (U W)<=tb by omega,d.1,e.1⟩
 .refine⟨show A≠lm by omega,show A≠tb by omega,show A≠nb by omega,show A≠mb by omega,show lm≠tb by omega,k,m,show tb≠nb by omega,show tb≠mb by omega,v⟩
 .intro l z;cases z
 .grind
 grind
end
end Go.Proofs.YtihfjkjbfaneeaaGreatDoor
