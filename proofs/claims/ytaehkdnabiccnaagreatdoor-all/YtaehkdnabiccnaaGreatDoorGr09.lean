import Derived.Test.YtaehkdnabiccnaaGreatDoorGr08
import Derived.Test.YtaehkdnabiccnaaGreatDoorGr06
set_option maxRecDepth 100000
set_option maxHeartbeats 8000000
set_option linter.all false
namespace Go.Proofs.YtaehkdnabiccnaaGreatDoor
open Go.Proofs.Tryz
open _root_ renaming Nat->I,Int->J,Nat->AH,Int->AI,List->AJ,Bool->AK,Except->AS,ByteArray->AT
open Go.Value renaming int->C,slice->G,slice->AX,int->Ab,slice->Ac,pointer->Ad,string->Ae,tuple->Af,agg->Ag,bool->Ah,iface->Ai,ownBlock->Ax
open Go.World renaming heap->U,setCell->AB,cell?->AC,setRow->AD,heap->Av,alloc->Az
open _root_.Array renaming size->O,size->Au,setIfInBounds->Ay
open _root_.List renaming length->K,replicate->AV,length->At,toArray->Aw
open Go.IntKind renaming i64->Y,i64->Al,u8->Am
open Go.RowKit renaming Hid->D
open Go renaming World->X,DataW->AM,TypeId->AN,undef->AO,World->Ap,Value->Aq,Calls->Ar
open Option renaming some->H,some->An,none->Ao
open Go.Obj renaming cells->M,cells->Aj
open Go.Ending renaming returned->Ak
open Go.Proofs.Tryz renaming prog->As
open Go.RowKit.Hid renaming out->AE
open Or renaming inl->AF,inr->AG
open _root_.Bool renaming true->AP,false->AQ
variable{fm fout kd l:J}{A B L M' N N' P S S' b b0 base bc cap ccap cn fuel g gcap i j k lcap lcap' lo mn n off sc scap sn t0:I}{d:A2}{all bs cur fed:A1}{p ps:AJ (A1×AK)}{V V' W W' W0 w w':X}{q:D0}{s:AT}{ks:AJ A1}{bv cs gv kv lv' sv u v v0:Aq}{F:J×J}{R R':Cy}{a:Act}{f:AJ (A1×AK)->A2->Cy->Option (AM Unit)×Cy}{a1 ba ca ga la la' pa sa va:A4}{xs xs':AJ Aq}{c:CF}{arr:A3}{x y:Operand}{cl m:AK}{ds:AJ (AM Unit)}{ops:Array Oper}{rest:AJ Oper}{o:Oper}{Q:Exit->Act->X->Prop}{t:AN}{md:Region.Mode}{sts:AJ ((I->I)×J×J)}{mf nf:Lit->Option I}{fb:Option I}{h:I->FR}
section
open Go.RowKit Go.Lib Go.ChangeShapes Go.WideShapes Go.ChangeAt Go.Deep
theorem Vd:∀(k:I) (d:A2),F8 k d->K (JT k d)<=DJ k d
 |0,_,_=>Cr _
 |k+1,d,h=>by
  have c:∀l,K (qT l)<=2+6*K l:=λl=>by have:=Y6 l;unfold qT;simp only[Dj,FN,J2];omega
  unfold JT;split
  .rename_i b;show(bif b then _ else _:A1).length<=200;cases b<;>decide
  .rename_i z;have h : -9223372036854775808<=z/\z<=9223372036854775807:=h;have:=itoa_length_le z h.1 h.2;show(itoa z).length<=200;omega
  .rename_i l;have:=c l;show(qT l).length<=200+6*K l;omega
  .rename_i ds;have a:∀d∈ds,F8 k d:=h;show(([91]++Dm (JT k) ds)++[93]).length<=200+Hb k ds;have f:=lC (JT k) (λd=>30+DJ k d) ds λd g=>AY<|Vd k d<|a d g;have e:Hb k ds=(ds.map λd=>30+DJ k d).sum:=rfl;simp only[Dj,FN,J2];omega
  .rename_i es;have a:∀e∈es,FK (D9 e.1)/\F8 k e.2:=h;show(([123]++Dm (MX<|JT k) es)++[125]).length<=200+GL k es;have f:=lC (MX<|JT k) (λe=>100+6*K (D9 e.1)+DJ k e.2) es (λe i=>by have j:=Vd k e.2 (a e i).2;have m:=c<|D9 e.1;unfold MX;simp only[Dj,FN,J2];omega);have e:GL k es=(es.map λe=>100+6*K (D9 e.1)+DJ k e.2).sum:=rfl;simp only[Dj,FN,J2];omega
  have:=lD k d;show 4<=_;omega
theorem Sz(h:F8 k d):K (Fs fm k d)<=DJ k d:=by grind [Fs,UA,Vd,Vb,lB]
def Ft(fm:AI)(bs:A1)(l:AI)(p:AH):AH:=if fm=1 then EG bs l (At bs+1-p) p else p
theorem SA(fm:J){p:I}(hi:Cx bs l p):(JM fm bs l p=.ok ((),Ft fm bs l p)/\Cx bs l (Ft fm bs l p)/\p<=Ft fm bs l p)\/(JM fm bs l p=.error (8,(Ft fm bs l p:J))/\(Ft fm bs l p:J)=l/\Ft fm bs l p<K bs):=by
 unfold JM Ft;by_cases h:fm=1
 .rw[Cp h,Cp h];rcases MI (λ_ _=>Iff.rfl) (K bs+1-p) p hi with⟨q,a,b,c,d,_⟩|⟨q,a,b,c,d⟩<;>grind
 grind
theorem q2s(fm:J)(d:J){p:I}(a:(p:J)=l)(hl:p<K bs):Ev fm bs d l p=.error (8,(p:J)):=by grind [DR,Ev,gy]
theorem qut{d:J}(hl:0<=l){r':AS (J×J)<|AM Unit×I}(k:GI bs l (Ev fm bs d l<|Ft fm bs l 0) r'):(∀f,r'=.error f->DE fm bs d l=.error f)/\(∀m q,r'=.ok (m,q)->Cx bs l q->Cx bs l (Ft fm bs l q)/\(Ft fm bs l q<K bs->DE fm bs d l=.error (D5 bs l (Ft fm bs l q) 9))/\(¬Ft fm bs l q<K bs->DE fm bs d l=.ok m/\(K bs:J)<=l)):=by
 have y:Cx bs l 0:=⟨Ex _,hl⟩
 have p:Lm bs l l:=λ_ _=>Iff.rfl;rcases SA fm y with⟨v,t,_⟩|⟨v,t,w⟩
 .generalize Ft fm bs l 0=p0 at *;have a:DE fm bs d l=match Ev fm bs d l p0 with
    |.error e=>.error e
    |.ok (d,p1)=>match JM fm bs l p1 with
     |.error e=>.error e
     |.ok (_,p2)=>match Lj ⟨Ao,bs,0,0,l,p2,0⟩with
      |.error e=>.error e
      |.ok _=>.ok d:=by
   grind [DE,M6]
  refine⟨λf o=>?_,λm q r i=>?_⟩
  .subst o;rcases k with h|⟨q,_,_,_,x,h⟩<;>grind
  subst r;rcases k with h|⟨B,u,n,j,x,c⟩
  .rw[h]at a;simp only[]at a;rcases SA fm i with⟨s,b,g⟩|⟨s,b,g⟩
   .rw[s]at a;simp only[]at a;generalize Ft fm bs l q=p2 at *;refine⟨b,λL=>?_,λF=>?_⟩
    .grind [Lj,Gl,Ie]
    have z:bs[p2]?=Ao:=I7 E;rw[a];unfold Lj;simp only[z];refine⟨trivial,?_⟩;have:=b.2;have:=b.1;omega
   rw[s]at a;simp only[]at a;generalize Ft fm bs l q=p2 at *;refine⟨⟨E,E⟩,λ_=>?_,λh=>absurd g h⟩;rw[a,Gl p (D7 g) b]
  injection c with c;injection c with e1 e2;subst e2;rw[u]at a;simp only[]at a;have e:Ft fm bs l q=q:=by
   rcases SA fm i with⟨_,b,g⟩|⟨_,b,g⟩
   .have:=b.2;omega
   omega
  rw[e];refine⟨i,λ_=>?_,λh=>absurd j h⟩;rw[a,Gl p (D7 j) n]
 have A:=q2s fm d t w;have a:DE fm bs d l=.error (8,(Ft fm bs l 0:J)):=by grind [DE,M6]
 generalize Ft fm bs l 0=p0 at *;rw[A]at k;refine⟨λf o=>?_,λm q r i=>?_⟩
 .subst o;rcases k with h|⟨q,_,_,_,x,h⟩<;>grind
 subst r;rcases k with h|⟨B,u,n,j,x,c⟩
 .cases h
 injection c with c;injection c with e1 e2;subst e2;have e:Ft fm bs l q=q:=by
  rcases SA fm i with⟨_,b,g⟩|⟨_,b,g⟩
  .have:=b.2;omega
  omega
 rw[e];refine⟨i,λ_=>?_,λh=>absurd j h⟩;rw[a,Gl p (D7 j) n,show(p0:J)=q by omega]
structure Nl(W:Ap)(A:A3)(V:Ap):Prop where
 b:V.heap[Au (Av W)]?=An (Aj Cv 101)
 a:V.heap[Au (Av W)+1]?=An (Aj (Cf (0,0)) 103)
 h:V.heap[Au (Av W)+2]?=An (Aj A 115)
 ac:A0 W V
theorem Nl.next{A:A3}(h:Nl W A V)(hb:A0 V V'):Nl W A V' :=
 ⟨(hb.block _<|Cd h.b).trans h.b,(hb.block _<|Cd h.a).trans h.a,(hb.block _<|Cd h.h).trans h.h,h.ac.trans<|hb.mono h.ac.size⟩
theorem Nl.drew{A:A3}(h:Nl W A V):Nl W A V.drew:=⟨h.b,h.a,h.h,h.ac.drew⟩
def q61(W:X){A B:A3}:Nl W A<|(Az (Az (Az W<|M Cv 101)<|M (Cf (0,0)) 103)<|M B 115).setRow (O (U W)+2) A:=by have c:O (U<|Az W<|M Cv 101)=O (U W)+1:=Ba;have d:O (U<|Az (Az W<|M Cv 101)<|M (Cf (0,0)) 103)=O (U W)+2:=Ba;have b:=Cj (Az (Az W<|M Cv 101)<|M (Cf (0,0)) 103) (o:=(M B 115));have a:=Cj (Az W<|M Cv 101) (o:=(M (Cf (0,0)) 103));rw[d]at b;rw[c]at a;refine⟨sx E<|(CB _ _ _ E).trans<|(CB _ _ _ E).trans<|Cj W,sx E<|(CB _ _ _ E).trans a,CR _ _ _ _ _ _ b,Dq (((Cm).alloc E _).alloc E _) E⟩
theorem q4m(V:X)(a b:I)(x y:A3):O (U<|AD (AD V a x) b y)=O (U V):=by simp[World.setRow]
theorem q7t(W:X){B:A3}:(Az (Az (Az W<|M Cv 101)<|M (Cf (0,0)) 103)<|M B 115).heap[O (U W)+2]?=H (M B 115):=by have h:=Cj (Az (Az W<|M Cv 101)<|M (Cf (0,0)) 103) (o:=(M B 115));simp_all
def Nl.ai{A:A3}(h:Nl W A V)(T:A3)(x:J×J):(AD (AD V (O<|U W) T) (O (U W)+1)<|Cf x).heap[O<|U W]?=H (M T 101)/\(AD (AD V (O<|U W) T) (O (U W)+1)<|Cf x).heap[O (U W)+1]?=H (M (Cf x) 103)/\A0 W (AD (AD V (O<|U W) T) (O (U W)+1)<|Cf x) :=
 ⟨sx E<|CR _ _ _ _ _ _ h.b,CR _ _ _ _ _ _<|sx E h.a,Dq (Dq h.ac E) E⟩
def Z9{fn:Func}{p q:Tmp}{A:Act}{g2:I}{k n:J}{ks vs:Aq}{R:Ending->X->Prop}{B:Prop}(h:fn.results=#[.cell p 101,.cell q 103])(a:A7 w g (Cg k n s ks vs) 101/\A7 w g2 (Cf F) 103/\B)(c:A.tmps.getD p AO=A8 g)(d:A.tmps.getD q AO=A8 g2)(b:A.defers=[])(e:R (Ak<|Af #[.agg<|Cg k n s ks vs,.agg<|Cf F]) w):bodyPost As fn R .ret A w :=
 CS (fj h c a.1 underlying101 rfl (NM) d a.2.1 underlying103 rfl<|KG) b e
def lE(k:AH)(bs:A1)(l:AI)(W:Ap)(r:AS (AI×AI)<|AM Unit)(e:Ending)(W':Ap):Prop :=
 A0 W W'/\match r with
 |.ok dd=>(∃kd n s a i j b p m,e=Ak (Af #[.agg<|Cg kd n s (Ac a i j)<|Ac b p m,.agg<|Cf (0,0)])/\CV k W' (λj=>Au (Av W)<=j/\j<Au (Av W')) (.agg<|Cg kd n s (Ac a i j)<|Ac b p m) dd)/\(At bs:AI)<=l
 |.error f=>e=Ak (Af #[.agg Cv,.agg<|Cf f])
theorem SB(W:X)(d l:J)(a2:fm=1\/fm=2\/fm=3)(an:0<=d)(a0:d<=100000)(ao:0<=l)(be:l<=200000000)(hb:K bs<=200000000):Ar As 46 #[C Y fm,C Y d,C Y l,Ae ⟨Aw bs⟩] W<|lE (d.toNat+1) bs l W<|DE fm bs d l:=by
 have a4:Lm bs l l:=λ_ _=>Iff.rfl;have a3:Cx bs l<|Ft fm bs l 0:=by
  rcases SA fm (bs:=bs) (l:=l) (p:=0) ⟨Ex _,ao⟩with⟨_,h,_⟩|⟨_,h1,h2⟩
  .exact h
  exact⟨E,E⟩
 have ah:=C9 λr' h=>qut (fm:=fm) (bs:=bs) (d:=d) (l:=l) ao (r':=r') h;have ap:D (∀en pl,DE fm bs d l=.error (en,pl)->en≠0):=P5 fm bs d l an;have cT:=λV=>gC V (bs:=bs) (fm:=fm) (d:=d) (l:=l) (i:=(Ft fm bs l 0)) a2 a4 hb be an a0 a3;have cS:∀(V:X) (i:I),fm=1->i<=K bs->Ar As 83 #[Ag #[Ae ⟨Aw bs⟩,C Y fm,C Y d,C Y l],C Y i] V λe W'=>e=Ak (C Y<|Ft fm bs l i)/\A0 V W':=λV i h1 h2=>by have h:=Ty V (bs:=bs) fm d l E h2;unfold Ft;rw[Cp h1];exact h
 have aq:=C9 λV i=>OX bs fm d l V i 9;have ar:D (¬fm=1->∀i,Ft fm bs l i=i):=λh i=>by grind [Ft]
 generalize DE fm bs d l=R at *;obtain⟨p0,aj⟩:=CC<|Ft fm bs l 0;rw[AE aj]at cT ah;by_cases r:fm=1
 case' pos =>
  have e1:(fm==1)=AP:=kex;have ai:=C9 r;have au:∀V,Ar As 83 #[Ag #[Ae ⟨Aw bs⟩,C Y fm,C Y d,C Y l],C Y 0] V λe W'=>e=Ak (C Y p0)/\A0 V W':=λV=>by grind [D]
  have ag:D (∀V,Ar As 54 #[Ag #[Ae ⟨Aw bs⟩,C Y fm,C Y d,C Y l],C Y p0] V<|Fc (d.toNat+1) bs l V<|Ev fm bs d l p0):=cT;have a9:=C9 λV i h=>cS V i ai h
 case' neg =>
  have e1:(fm==1)=AQ:=kex;have ai:=C9 r;obtain rfl:0=p0:=(ar r 0).symm.trans aj;have ag:D (∀V,Ar As 54 #[Ag #[Ae ⟨Aw bs⟩,C Y fm,C Y d,C Y l],C Y 0] V<|Fc (d.toNat+1) bs l V<|Ev fm bs d l 0):=cT
 all_goals
  clear cT a3 a4 aj a2 r cS an a0 ao;go_enter func46,ntmps46
  go_wp2_with(first
   |((with_reducible refine D8 rfl 115 (.tmp 10) (.tmp 18) rfl (O (U W)+2) (Ct bs fm d l) ?hx ?hy 115 (Ct [] 0 0 0) ?hg ?hi ?hs ?h1 ?_);(case hx=>exact rfl);(case hy=>exact rfl);(case hg=>exact q7t W);(case hi=>exact Tz);(case hs=>exact gD);(case h1=>exact gE);refine FA ?_;intro V0 E0;have y:=C9<|E0▸q61 W;clear E0;have c:=Cc y.h 0;have k:=Cc y.h 1;have c2:=Cc y.h 2;have m:=Cc y.h 3;unfold Ct at c k c2 m;have w:=y)
   |(go_at_call 83;refine(au _).mono ?_;clear au c k c2 m;rintro e w2 ⟨rfl,av⟩;have w:=C9<|y.next av;clear av;have c:=Cc w.h 0;have k:=Cc w.h 1;have c2:=Cc w.h 2;have m:=Cc w.h 3;unfold Ct at c k c2 m))
  refine(ag _).mono ?_;clear c k c2 m;rintro e a a7;obtain⟨aw,r',N,Q,s,x,B,L,A,z,P,bj,F,a5,rfl,hA,hF⟩:=MN a7;have ad:=C9<|w.next aw;obtain⟨hE,hO⟩:=ah.out r' a5;have bb:=C9<|Cd ad.h;have ba:=C9<|Cd w.h;clear a7 a5 ah ag aw;simp only[];obtain bc|bh:=r'
  .obtain rfl:=hF bc rfl;obtain rfl:=hE F rfl;have bi:(F.1==0)=AQ:=by grind [D]
   clear hA hF hE hO ap
   go_wp2_with(first
    |((with_reducible refine zT 12 27 rfl rfl (O<|U a) (Cg N Q s (G x B L)<|G A z P) ?_ ?_);exact⟨Z,Z,(Gu a).1,thg⟩)
    |((with_reducible refine zF 13 29 rfl rfl (O (U a)+1) F ?_ ?_);exact⟨Z,Z,sx E (Gu a).2⟩;refine FA ?_;intro V5 n;have b:=C9<|n▸ad.next (Lw);have f:=C9<|n▸MR;clear n;have u0:A6 V5 (O (U a)+1) 0<|C Y F.1:=Cc f 0))
   have hM:=AE bb;refine Dl (S:=λam=>A7 am (O (U a)+1) (Cf F) 103) f B6 λhS=>Ch 0 33 (.agg Cv) Z (λam _=>C0) hS <| Ch 1 34 (.agg<|Cf F) Z (λam hZ=>yF 13 hZ Z Z) hS ?_;have az:=sx (cs:=Cv) (show O (U a)+1≠O (U W) by omega) hS;refine Ij 2 8 33 (g:=O<|U W) (T:=Cv) B6 b.drew.b thg az <| sF 3 9 34 (g:=(O (U W)+1)) (F:=F) B6 (sx E b.drew.a) (sx E az) <| CK ?_;go_simp;go_wp2;have r:=b.drew.ai Cv F;exact Z9 results46 r Z Z Z ⟨r.2.2,Z⟩
  obtain⟨dd,q⟩:=bh;obtain⟨hq,rfl,rfl,ay⟩:=hA dd q rfl;obtain⟨bd,af,ae⟩:=hO dd q rfl hq;have HA:D<|CV (d.toNat+1) a (λj=>O (U W)+3<=j/\j<O (U a)) (.agg<|Cg N Q s (G x B L)<|G A z P) dd:=ay.same (λj hj=>⟨AY<|AE ba,hj.2⟩) λ_ _=>rfl;have bg:=hq.1;clear hA hF hE hO ap ay;obtain⟨p2,ak⟩:=CC<|Ft fm bs l q;rw[AE ak]at bd af ae
  first|(have aa:=λV=>a9.out V q bg;rw[AE ak]at aa)|obtain rfl:p2=q:=ak.symm.trans<|ar ai q
  by_cases a6:p2<K bs
  .obtain rfl:=af a6;have bf:(p2:J)<(K bs:J):=E;have cB:=λV=>aq.out V p2;generalize D5 bs l p2 9=F at *;clear af ae HA hq
   go_wp2_with(first
    |((with_reducible refine zT 12 27 rfl rfl (O<|U a) (Cg N Q s (G x B L)<|G A z P) ?_ ?_);exact⟨Z,Z,(Gu a).1,thg⟩)
    |((with_reducible refine zF 13 29 rfl rfl (O (U a)+1) (0,0) ?_ ?_);exact⟨Z,Z,sx E (Gu a).2⟩;refine FA ?_;intro V5 n;have b:=C9<|n▸ad.next (Lw);have f:=C9<|n▸MR;have v:=C9<|n▸RV;have u:=C9<|n▸Lw;clear n;have u0:A6 V5 (O (U a)+1) 0<|C Y 0:=Cc f 0;have c:=Cc b.h 0;have k:=Cc b.h 1;have c2:=Cc b.h 2;have m:=Cc b.h 3;unfold Ct at c k c2 m;have o:=b;have ac:=v;have ab:=u)
    |(go_at_call 83;refine(aa _).mono ?_;clear aa c k c2 m u0;rintro e w6 ⟨rfl,t⟩;have o:=C9<|b.next t;have ab:=C9<|u.trans<|t.mono u.size;have ac:=C9<|(t.block _<|Cd v).trans v;clear t;have c:=Cc o.h 0;have k:=Cc o.h 1;have c2:=Cc o.h 2;have m:=Cc o.h 3;unfold Ct at c k c2 m)
    |(go_at_call 84;refine(cB _).mono ?_;clear cB c k c2 m;rintro e w7 ⟨rfl,ax⟩;have al:=C9<|o.next ax;clear ax)
    |((with_reducible refine zT 8 44 rfl rfl (O<|U W) Cv ?_ ?_);exact⟨Z,Z,al.b,thg⟩)
    |((with_reducible refine zF 9 47 rfl rfl (O (U W)+1) F ?_ ?_);exact⟨Z,Z,sx E al.a⟩))
   have r:=al.ai Cv F;exact Z9 results46 r Z Z Z ⟨r.2.2,Z⟩
  obtain⟨rfl,h6⟩:=ae a6;have a8:=C9 h6;have bf:¬(p2:J)<(K bs:J):=E;clear af ae h6 hq aq
  go_wp2_with(first
   |((with_reducible refine zT 12 27 rfl rfl (O<|U a) (Cg N Q s (G x B L)<|G A z P) ?_ ?_);exact⟨Z,Z,(Gu a).1,thg⟩)
   |((with_reducible refine zF 13 29 rfl rfl (O (U a)+1) (0,0) ?_ ?_);exact⟨Z,Z,sx E (Gu a).2⟩;refine FA ?_;intro V5 n;have b:=C9<|n▸ad.next (Lw);have f:=C9<|n▸MR;have v:=C9<|n▸RV;have u:=C9<|n▸Lw;clear n;have u0:A6 V5 (O (U a)+1) 0<|C Y 0:=Cc f 0;have c:=Cc b.h 0;have k:=Cc b.h 1;have c2:=Cc b.h 2;have m:=Cc b.h 3;unfold Ct at c k c2 m;have o:=b;have ac:=v;have ab:=u)
   |(go_at_call 83;refine(aa _).mono ?_;clear aa c k c2 m u0;rintro e w6 ⟨rfl,t⟩;have o:=C9<|b.next t;have ab:=C9<|u.trans<|t.mono u.size;have ac:=C9<|(t.block _<|Cd v).trans v;clear t;have c:=Cc o.h 0;have k:=Cc o.h 1;have c2:=Cc o.h 2;have m:=Cc o.h 3;unfold Ct at c k c2 m)
   |((with_reducible refine CO rfl 101 (.tmp 12) rfl (O<|U a) ?hx 101 (Cg N Q s (G x B L)<|G A z P) (0,0) _ ?hg underlying101 rfl ?hi ?_);(case hx=>exact rfl);(case hg=>exact ac);(case hi=>exact NM))
   |((with_reducible refine zT 8 48 rfl rfl (O<|U W) (Cg N Q s (G x B L)<|G A z P) ?_ ?_);exact⟨Z,Z,o.b,thg⟩)
   |((with_reducible refine zF 9 49 rfl rfl (O (U W)+1) (0,0) ?_ ?_);exact⟨Z,Z,sx E o.a⟩))
  have r:=o.ai (Cg N Q s (G x B L)<|G A z P) (0,0);refine Z9 results46 r Z Z Z ⟨r.2.2,⟨_,_,_,_,_,_,_,_,_,Z,?_⟩,a8⟩;refine HA.same (λj hj=>⟨E,?_⟩) λj hj=>?_
  rotate_left
  .grind [D,q4m]
  have h1:=hj.1;have h2:=hj.2;exact(sx (show j≠O (U W)+1 by omega)<|sx (show j≠O (U W) by omega) Z).trans<|ab.block j h2
def lF{F:I->Prop}{a:A3}(r:fm=1\/fm=2\/fm=3)(hF:∀j,F j->j<O (U W))(h:CV k W F (.agg a) d)(l:F8 k d)(u:DJ k d<=149999999):Ar As 47 #[C Y fm,.agg a] W<|Iq (_root_.Decidable.decide (fm=1)&&F7 k d) (Fs fm k d) W:=by
 have f:D<|EQ W a<|Az W<|M a 101:=Ko;obtain⟨w,n,s,v,x,y,z,A,B,e⟩:=h.ac;injection e with e;have g:∀V,A0 W V->CV k V F (.agg a) d/\∀j,F j->j<O (U V):=λV b=>⟨h.same (λ_ h=>h) λj i=>Co b j<|hF j i,λj i=>CQ (hF j i) b.size⟩
 have o:=T λV b=>YF k V F a d (g V b).2 (g V b).1<|CE (Vd k d l) u;have m:=T λV b=>UB k V F a d (g V b).2 (g V b).1<|AY<|Vb k d;have p:=T λV b=>YE k V F a d (g V b).2 (g V b).1<|AY<|lB k d;have t:=UA k d l;subst e;unfold Cg at *;have N:=Cc f.h 0;have P:=Cc f.h 1;have Q:=Cc f.h 2;have S:=Cc f.h 3;have z4:=Cc f.h 4;rcases r with rfl|rfl|rfl
 case' inl =>
  have c:=o.out _ f.ac;unfold Fs;rw[Cp rfl,t,show(_root_.Decidable.decide ((1:J)=1)&&F7 k d)=F7 k d from rfl];generalize JT k d=R at *;generalize F7 k d=hb at *;unfold Iq at c
 case' inr.inl =>
  have c:=m.out _ f.ac;unfold Fs;rw[Cl B8,Cp rfl,show(_root_.Decidable.decide ((2:J)=1)&&F7 k d)=AQ from rfl];generalize Du k d=R at *;unfold Eg CX at c
 case' inr.inr =>
  have c:=p.out _ f.ac;unfold Fs;rw[Cl B8,Cl B8,show(_root_.Decidable.decide ((3:J)=1)&&F7 k d)=AQ from rfl];generalize Ip k d=R at *;unfold Eg CX at c
 all_goals
  go_enter func47,ntmps47
  go_wp2_with((first|go_at_call 85|go_at_call 86|go_at_call 87);refine Ce c ?_;rintro e L ⟨rfl,q⟩)
  refine CS (FP results47 _ _ _) Z ?_;exact⟨rfl,(f.next q).ac⟩
def lG{f:J}(h:DU f=AP):f=1\/f=2\/f=3:=by unfold DU at h;simp at h;omega
structure Fu(V:Ap)(B b0:AH)(cs gv:Aq)(la:A4)(lcap M:AH)(xs:AJ Aq):Prop where
 b:Tt B b0 cs gv (Ac la (4*M) lcap) (4*M) xs V
 all:∀(i:AH) (v:Aq),xs[i]?=An v->Ic V v (Ab Am (Ek i)) 0
 e:∀(i:AH) (v:Aq) (g:AH),xs[i]?=An v->Ax v=An g->B<g/\g<Au (Av V)/\Ax (AX la (4*M) lcap)≠An g
 f:XD xs
 d:∀(i:AH) (a:A4) (n c:AH),xs[i]?=An (AX a n c)->n<=1000000000
def Fu.len{M:I}(h:Fu V B b0 cs gv la lcap M xs):K xs=4*M:=AY h.b.ad.1
theorem Fu.rd{M:I}(h:Fu V B b0 cs gv la lcap M xs):M8 V B la (4*M) lcap xs Ek:=by
 refine⟨Cc h.b.b 2,h.len,λi v c=>?_,h.all⟩;rcases h.b.ad.2 with⟨a,b⟩|⟨g,d,f,e,a,b,j,k,l,m⟩
 .have n:=Dk c;have:=h.len;omega
 grind [Cc]
def Fu.hdis{M:I}(h:Fu V B b0 cs gv la lcap M xs):∀(i:I) (v:Aq) (g:I),xs[i]?=H v->Ax v=H g->g≠B/\∀gr,la=Aa gr->g≠gr:=λi v g b c=>by obtain⟨f,j,d⟩:=h.e i v g b c;refine⟨E,λgr e a=>d ?_⟩;subst e;subst a;rfl
def q6l(h:A7 V B #[cs,gv,G Ao 0 0] 31):Fu V B b0 cs gv Ao 0 0 [] :=
 ⟨⟨h,Fi _ _ _ _,λg e=>keC⟩,λi v h=>BB,λi v g h=>BB,λi b v d g h=>BB,λi a n c h=>BB⟩
def Gw(la:A4)(lcap M:AH)(xs:AJ Aq)(j:AH):Prop:=Ax (AX la (4*M) lcap)=An j\/∃(i:AH) (v:Aq),xs[i]?=An v/\Ax v=An j
def Fu.kept{V V':Ap}{M:I}{X:I->Prop}(h:Fu V B b0 cs gv la lcap M xs)(hb:Dw V V' X)(c:∀j,j=B\/Gw la lcap M xs j->¬X j):Fu V' B b0 cs gv la lcap M xs :=
 ⟨⟨Ca (hb.block B (Cd h.b.b)<|c _<|AF rfl) h.b.b,NX h.b.ad λj e=>hb.block j (En h.b.ad e)<|c _<|AG<|AF e,h.b.ne⟩,λi v d=>(h.all i v d).aq λg e=>hb.block g (h.e i v g d e).2.1<|c _<|AG<|AG ⟨i,v,d,e⟩,λi v g a b=>⟨(h.e i v g a b).1,B3 ((h.e i v g a b).2.1) hb.size,(h.e i v g a b).2.2⟩,h.f,h.d⟩
theorem Fu.next{V V':Ap}{M:I}(h:Fu V B b0 cs gv la lcap M xs)(hb:A0 V V'):Fu V' B b0 cs gv la lcap M xs:=h.kept (X:=λ_=>False) (Ll hb) λ_ _=>id
theorem Fu.ai{v1 v2 v3:Aq}{M:I}(h:Fu W B b0 cs gv la lcap M xs)(d:Pb W B b0 base S (C Am<|Ek<|4*M) cs gv (Ax<|AX la (4*M) lcap) (Ax v0) [v0,v1,v2,v3] lv' (4*M+4) (xs++[v0,v1,v2,v3]) V)(t:∀(i:I) (v:Aq) (g:I),xs[i]?=H v->Ax v=H g->g<base)(ab:∀v,v∈[v0,v1,v2,v3]->∀a n c,v=G a n c->n<=1000000000):∃p q,lv'=G p (4*(M+1)) q/\Fu V B b0 cs gv p q (M+1) (xs++[v0,v1,v2,v3]):=by
 have hl:=h.len;obtain⟨p,q,rfl⟩:=Qm d.b.ad;have Q:4*M+4=4*(M+1):=E;have N:=d;rw[Q]at N;refine⟨p,q,by rw[Q],?_⟩;have u:∀(i:I) (v:Aq),¬i<4*M->(xs++[v0,v1,v2,v3])[i]?=H v->v∈[v0,v1,v2,v3]/\i/4=M:=λi v b f=>B9;have j:∀(i:I) (v:Aq),i<4*M->(xs++[v0,v1,v2,v3])[i]?=H v->xs[i]?=H v:=λi v b f=>B9;have ac:=λi v g w x=>by have s:=h.e i v g w x;refine d.ad.block g s.2.1 λhx=>?_;have A:=t i v g w x;have o:=(d.all v0 Ba).2 g;clear d N ab u j t h;grind
 refine⟨N.b,λi v f=>?_,λi v g f k=>?_,λi m v r g f P k L=>?_,λi a n c f=>?_⟩
 .by_cases b:i<4*M
  .exact(h.all i v<|j i v b f).aq λg e=>ac i v g (j i v b f) e
  obtain⟨l,F⟩:=u i v b f;have e:Ek i=Ek (4*M):=by grind [Ek]
  rw[e];obtain⟨a,n,R,w,x⟩:=(d.all v l).1;exact⟨a,n,R,w,x.imp_right λ⟨g,aa,k1,_,k2,k3,k4⟩=>⟨g,aa,k1,Ex _,k2,k3,k4⟩⟩
 .by_cases b:i<4*M
  .have s:=h.e i v g (j i v b f) k;have A:=t i v g (j i v b f) k;refine⟨s.1,B9,λe=>?_⟩;have z:Ax (AX p (4*M+4) q)=H g:=E;rcases d.rb g z with o|o
   .exact s.2.2 o.symm
   have:=d.a;omega
  obtain⟨l,F⟩:=u i v b f;have s:=(d.all v l).2 g k;refine⟨AY d.a,AY d.a,λe=>?_⟩;have z:Ax (AX p (4*M+4) q)=H g:=E;rcases d.rb g z with o|o
  .have:=d.lb g o.symm;omega
  omega
 .by_cases b:i<4*M
  .by_cases y:m<4*M
   .exact h.f i m v r g (j i v b f) (j m r y P) k L
   have A:=t i v g (j i v b f) k;obtain⟨l,F⟩:=u m r y P;have:=(d.all r l).2 g L;omega
  obtain⟨l,F⟩:=u i v b f;by_cases y:m<4*M
  .have A:=t m r g (j m r y P) L;have:=(d.all v l).2 g k;omega
  grind
 by_cases b:i<4*M
 .exact h.d i a n c<|j i _ b f
 grind
theorem lJ{s:A1}(h:w.heap[g]?=H (M (IM<|s++Ji) 5))(b:K s<=200000000):E2 w (H ⟨g,0,Ao⟩) s:=by refine⟨λi a=>⟨g,0,rfl,(Cd h),?_⟩,Bc⟩;rw[Gg,Cc h i,Ru,Hh a,D7 a];rfl
theorem lK{w5 w6:X}{M:I}{ln:I}{a0 a2 a3:A4}{c0 c1 c2 c3:I}(p:Fu w5 B b0 cs gv la lcap M xs)(hb:∀j,Gw la lcap M xs j->j<base)(r:v0=G a0 ln c0)(s:ln<=200000000)(d:Pb w5 B b0 base S (C Am<|Ek<|4*M) cs gv (Ax<|AX la (4*M) lcap) (Ax v0) [v0,G a1 (ln+1) c1,G a2 (ln+2) c2,G a3 (ln+3) c3] lv' (4*M+4) (xs++[v0,G a1 (ln+1) c1,G a2 (ln+2) c2,G a3 (ln+3) c3]) w6):∃k l m,Fu w6 B b0 cs gv k l (M+1) m/\∀j,Gw k l (M+1) m j->Gw la lcap M xs j\/base<=j:=by
 obtain⟨k,l,e,q⟩:=p.ai d (λi v g b f=>hb g<|AG ⟨i,v,b,f⟩) (λv t a n c e=>by clear d;grind);refine⟨_,_,_,q,λj h=>?_⟩;rcases h with h|⟨i,v,b,f⟩
 .rcases d.rb j (by rw[e];exact h)with h3|h3
  .exact AF<|AF h3.symm
  exact AG<|CE d.a.2.1 h3
 by_cases o:i<K xs
 .rw[Hh o]at b;exact AF<|AG ⟨i,v,b,f⟩
 rw[Jd E]at b;exact AG ((d.all v<|VL b).2 j f).1
structure Ve(W:Ap):Prop where
 rd:Jl W
 g:Jr (Au (Av W)) W
def Ve.ac(h:Ve W)(hb:A0 W V):Ve V:=⟨h.rd.ac hb,λb a=>h.g b<|Cs hb<|CG a hb.size⟩
def qxJ(b:laidMetH As Rows.allRow.laid W)(f:W.ShapedOpen As):Jl W:=by
 refine⟨(bL b f).a,qd b,?_⟩;have e:laidMet As Rows.allRow.laid W:=b;obtain⟨g,t,cs,i,p,c,k,a,j⟩:=laidMet.reads e (d:=Rows.laid_math_bits_deBruijn64tab)<|.tail _<|.head _;obtain rfl:g=8:=Fl<|Ca c.symm B6;unfold World.var? at a;rw[c]at a;simp only[aB]at a;split at a
 .next h=>exact Cd h
 cases a
def q96:(prog.globals[6]?).map (·.type)=An 365:=B6
def q3n:prog.cellsOf 365=20:=B6
def q4V:(Rows.laid_internal_strconv_uint64pow10:A2)=tabData .u64 pow10Tab:=B6
def qz7(a:laidMetH As Rows.allRow.laid W)(e:W.ShapedOpen As):Ve W:=by
 have c:laidMet As Rows.allRow.laid W:=a;refine⟨qxJ a e,Lib.tabBelow_of_tabIs ?_⟩;obtain⟨g,t,cs,l,p,h,i,k,b⟩:=laidMet.reads c (d:=Rows.laid_internal_strconv_uint64pow10)<|.tail _<|.tail _<|.head _;obtain rfl:g=6:=Fl<|Ca h.symm B6;obtain rfl:=Fl<|Ca q96.symm i;rw[q4V]at b;have f:=cells_of_tab underlying365 underlying270 bR q3n b;have j:W.var? As jz=An cs:=by refine Ca ?_ k;exact congrArg (λs=>W.var? As s) B6
 unfold TabIs;rw[j,<-f]
section
variable{H:Type} {enc:TypeId×Aq->H} {w:Ap}
def qy5(d:AM H):1<=Rows.uptoBulk d:=by
 cases d with
 |lit l=>cases l<;>simp[Rows.uptoBulk]
 |_=>rw[Rows.uptoBulk];omega
def Vf:∀{l:AJ<|AM H} {d:AM H},d∈l->Rows.uptoBulk d<=Rows.uptoBulkAll l
 |[],_,h=>Bs
 |a::r,d,h=>by
  rw[Rows.uptoBulkAll];rcases IA.1 h with rfl|h
  .omega
  have:=Vf h;omega
def Za:∀l:AJ<|AM H,K l<=Rows.uptoBulkAll l
 |[]=>Ex _
 |a::r=>by rw[Rows.uptoBulkAll,FN];have b:=Za r;have c:=qy5 a;omega
end
def qpm{α:Type}{val:α->Aq}{p:I}{a:A4}{c:I}{r:AS (J×J) α}(f:A6 V p 0<|C Y fm)(g:A6 V (p+1) 0<|G a n c)(d:Ar As 51 #[C Y fm,Ag #[C Y 16,C Y n],G a n c] V<|Rp V val r):Ar As 50 #[A8 p,A8<|p+1] V<|Rp V val r:=by
 go_enter func50,ntmps50
 go_wp2_with fail
 refine d.mono ?_;rintro e j ⟨b,hF⟩;rcases r with⟨h,i⟩|z
 .obtain rfl:=hF;go_wp2;exact⟨Z,b,Z⟩
 obtain rfl:=hF;go_wp2;go_ret;exact⟨b,Z⟩
def qzk{d:J}(h:JK (Ev fm bs d l)=.ok n):0<n:=by
 unfold JK Ev at h;split at h
 .cases h
 next x q hq =>
 injection h with h;subst h;split at hq
 .exact RI ⟨Ao,bs,0,d,l,0,0⟩ _ _ _ _ _ hq
 split at hq
 .exact Qf _ _ _ _ _ _ _ _ _ hq
 exact Qf _ _ _ _ _ _ _ _ _ hq
def L1(fm:AI)(bs:A1):A1×AI :=
 if DU fm=AP/\At bs<=65536 then match JK (Ev fm bs 16<|At bs)with
  |.error _=>([],9)
  |.ok n=>if(bs.drop n).all (λc=>c.toNat==Er fm)=AP then(bs.take n,0)else([],9)
 else([],7)
def Vl(W:Ap)(l:A1)(E:AI)(T:Aq->Aq)(e:Ending)(W':Ap):Prop:=A0 W W'/\∃va vc,e=Ak (T<|Ac va (At l) vc)/\Cn W' (Au<|Av W) (Ac va (At l) vc) l/\(va.isNone=AP\/E=0)
def PA{E:J}{T:Aq->Aq}(h:A0 W W'):Vl W [] E T (Ak<|T<|G Ao 0 0) W':=⟨h,Ao,0,rfl,⟨Fi _ _ _ _,h.size,_,_,_,rfl⟩,AF rfl⟩
def lW{l:A1}{T:Aq->Aq}(h:A0 W W')(b:Cn W' (O<|U W) v l):Vl W l 0 T (Ak<|T v) W':=by obtain⟨a,c,rfl⟩:=Qm b.1;exact⟨h,a,c,Z,b,AG Z⟩
def qsT(h:E2 W (H ⟨g,off,Ao⟩) bs)(n:I):E2 W (H ⟨g,off+n,Ao⟩)<|bs.drop n:=by refine⟨λi d=>?_,CE (by rw[VK];omega) h.len⟩;rw[VK]at d;obtain⟨e,f,a,b,c⟩:=h.aq (n+i) E;cases a;exact⟨g,off+n,Z,b,by rw[List.getElem_drop,Wf];exact c⟩
def qxR(hb:K bs<=65536)(t:n<=K bs)(p:E2 V (H ⟨g,off,Ao⟩) bs):Ar As 53 #[G (H ⟨g,off,Ao⟩) n cap] V λe b=>∃a,e=Ak a/\Cn b (O<|U V) a (bs.take n)/\A0 V b:=by
 refine(Tryz.bytes_Clone_at ⟨g,off,Ao⟩ n cap ((bs.take n).map λc=>(c.toNat:J)) V B7 E λi q=>?_).mono ?_
 .obtain⟨o,u,j,_,k⟩:=p.aq i E;cases j;rw[JB,k];simp[ZT,L9,q,D7 (show i<K bs by omega)]
 rintro e b ⟨a,rfl,d,_,h⟩;have l:((bs.take n).map λc=>(c.toNat:J)).map (Value.int Am)=(bs.take n).map CP:=by rw[Mx];rfl
 have m:K (bs.take n)=n:=by rw[VZ];omega
 rw[l]at d;refine⟨a,Z,⟨by rw[m];exact d,h.size,?_⟩,h⟩;rcases d.2 with⟨f,_⟩|⟨o,r,s,f,_⟩<;>exact⟨_,_,_,f⟩
theorem q5l(fm:J){ia:A4}(cap:I)(h:E2 W ia bs)(al:K bs<=cap)(ht:Jl W):Ar As 23 #[C Y fm,G ia (K bs) cap] W<|Vl W (L1 fm bs).1 (L1 fm bs).2 λah=>Af #[ah,C Y (L1 fm bs).2]:=by
 have s:A0 W<|Az (Az W<|M #[C Y fm] 3)<|M #[G ia (K bs) cap] 50:=(Cm).alloc Ba _;have k1:=Boxed.new (Az W<|M #[C Y fm] 3) 50<|G ia (K bs) cap;rw[CL]at k1;have q:=T<|(Boxed.new W 3<|C Y fm).alloc<|M #[G ia (K bs) cap] 50;have r:=T k1;have y:=T<|h.ac s;have HT:=T<|ht.ac s;have j:=T s;have ac:=T<|dY (fm:=fm) (bs:=bs) (d:=16) (l:=K bs) B8;have c0:=q.out.cell;have c1:=r.out.cell;obtain⟨ak,A⟩:=CC<|L1 fm bs;have a:=AE A;unfold L1 at a;rw[AE A];have am:∀(fn:Fn) (first cap:A3) (w:X),(Instr.makeFunc fn first cap).run As w=.ok (.func fn first cap) w:=λ_ _ _ _=>rfl;clear k1 s h ht A;go_enter func23,ntmps23
 go_wp2_with fail
 refine UO.mono ?_;rintro e w2 ⟨rfl,rfl⟩;cases i:DU fm
 .rw[i,Cl Ba]at a;subst a;go_wp2
  go_ret2
  exact PA j
 by_cases R:K bs<=65536
 rotate_left
 .rw[Cl λm=>R m.2]at a;subst a;have ag:(65536:J)<K bs:=E;go_wp2
  go_ret2
  exact PA j
 rw[Cp ⟨i,R⟩]at a;have ab:fm=1\/fm=2\/fm=3:=by grind [DU]
 have ag:¬(65536:J)<K bs:=E;generalize Az (Az W<|M #[C Y fm] 3) (M #[G ia (K bs) cap] 50)=V at *;have F:A0 V<|Az (Az V<|M #[C Y 0] 54)<|M #[C Y 0] 3:=(Cm).alloc Ba _;have L:=rP _ fm ia bs cap 16 (K bs) ab (y.ac F) (HT.ac F) B8 B8 E;have v:=Xb L λe w m=>m.2;have cI:=qq5 (λn:I=>C Y n) V 50 #[A8<|O<|U W,A8<|O (U W)+1] (JK<|Ev fm bs 16<|K bs) Z
  (qpm ((q.out.alloc _).alloc _).cell ((r.out.alloc _).alloc _).cell<|L.mono λe w m=>m.1)
 clear L F HT ab i
 go_wp2_with fail
 refine cI.mono ?_;clear cI;rintro e w3 ⟨rfl,k⟩;have d0:=(k.cell (p:=⟨O<|U W,0,Ao⟩) q.out.lt).trans c0;have d1:=(k.cell (p:=⟨O (U W)+1,0,Ao⟩) r.out.lt).trans c1;have u:=T<|j.trans<|k.mono j.size;have x:=T<|y.ac k;clear c0 c1 k j y q r;rcases hr:JK (Ev fm bs 16<|K bs)with er|n
 .obtain⟨N,pl⟩:=er;rw[hr]at a;subst a;have Q:=ac.out N pl hr;have hq:(N==0)=AQ:=kfW;have ao:(N != 0)=AP:=kfW;unfold SE;clear hr v Q
  go_wp2_with fail
  go_region
  go_wp2
  go_ret2
  exact PA<|u.trans (Cu _ _).drew
 rw[hr]at a;have hn:=v n hr;have an:=qzk hr;unfold SE;simp only[]at a ⊢;obtain⟨g,off,rfl⟩:∃g off,ia=H ⟨g,off,Ao⟩:=have⟨g,off,e,_⟩:=x.aq 0 E;⟨g,off,e⟩;obtain⟨z,aa⟩:=CC<|if cap=n then H (⟨g,off,Ao⟩:Addr)else H ⟨g,off+n,Ao⟩;have cX:∀V,E2 V (H ⟨g,off,Ao⟩) bs->Ar As 52 #[C Y fm,G z (K bs-n)<|cap-n] V λe V'=>e=Ak (Ah<|(bs.drop n).all λc=>c.toNat==Er fm)/\V'=V:=λV P=>by
  have af:E2 V z<|bs.drop n:=by
   rw[<-AE aa];split
   .rw[R7 E];exact⟨λap hi=>by simp at hi,by unfold maxLen;simp⟩
   exact qsT P n
  have:=qsX V fm _ _ (cap-n) af;rwa[VK]at this
 have HX:=T cX;have HC:=T λV (P:E2 V (H ⟨g,off,Ao⟩) bs)=>qxR (cap:=cap) R hn P;clear hr v cX
 go_wp2_with fail
 refine Dl (S:=λf=>A6 f (O<|U W) 0 (C Y fm)/\A6 f (O (U W)+1) 0 (G (H ⟨g,off,Ao⟩) (K bs) cap)/\E2 f (H ⟨g,off,Ao⟩) bs) ⟨d0,d1,x.ac (Cu _ _).drew⟩ B6 λb=>Cb 0 23 (C Y 0) b <| Cb 1 24 (Ah AQ) b <| Cb 2 25 (Ah AQ) b <| Ch 3 26 (C Y fm) Z (λf t=>by have ai:=t.1;go_simp) b <| Ch 4 27 (G (H ⟨g,off,Ao⟩) (K bs) cap) rfl (λf t=>by have ai:=t.2.1;go_simp) b <| Cb 5 28 (C Y n) b <| Ch 6 29 (G z (K bs-n)<|cap-n) rfl (λf t=>by go_simp;rw[AE aa]) b <| CH 7 λaj hK=>?_;go_simp;refine(HX _ b.2.2).mono ?_;rintro e w4 ⟨rfl,rfl⟩;simp only[];refine hK.out _ _ b λ_=>?_;clear hK;generalize(bs.drop n).all (λc=>c.toNat==Er fm)=B at *;refine Cb 8 31 (Ah !B) b <| Cb 9 32 (Ah !B) b <| CK ?_;go_simp;have o:=T<|u.trans (Cu _ _).drew;have cC:=HC.out w3.drew b.2.2;have d1:w3.drew.cell? _=_:=b.2.1;clear HX u x b;generalize w3.drew=w4 at *;cases B
 .rw[Cl B8]at a;subst a;go_wp2
  go_ret2
  exact PA o
 rw[Cp rfl]at a;subst a
 go_wp2_with(first
  |(go_at_call 53;refine cC.mono ?_;clear cC;rintro e w6 ⟨v6,rfl,ae,ad⟩;obtain⟨o6,s6,a6,n6,c6,rfl⟩:=ae))
 go_ret2
 exact lW (o.trans<|ad.mono o.size)<|Cn.mono ⟨o6,s6,_,_,_,Z⟩ o.size
structure Rx where
 v:Rv
 a:Ap
 P:AH
 ad:A3
 h:A4
 b:AH
 e:AH
def Mk(c:Rx)(R:Cy):A3:=c.ad++#[Ac c.h c.b c.e,Ab Al R.1,Ab Al R.2.1,Ab Al R.2.2.1,Ab Al R.2.2.2]
structure Nn(c:Rx):Prop where
 size:c.ad.size=11
 a4:c.ad[4]?=An (Ab Al c.v.d)
 a5:c.ad[5]?=An (Ab Al c.v.key)
 key : -9223372036854775808<=c.v.key/\c.v.key<=9223372036854775807
 a:Au (Av c.a)<=c.P
 g:∀p,∃l:AH,(Dz c.v.c c.v.a p).1=l/\l<256/\∀V,Below (Au (Av c.a)) c.a V->Ar As 69 #[.agg c.ad,Ab Al l,Ab Al c.v.d] V λe w'=>e=Ak (Ah (c.v.m l c.v.d))/\A0 V w'
 lbl:∀(V:Ap) (pa:A4) (ps:AJ (A1×AK)) (pc:AH),Below (Au (Av c.a)) c.a V->Gc V pa ps->At ps<=4096->Ar As 73 #[.agg c.ad,Ac c.h c.b c.e,Ac pa (At ps) pc] V λe w'=>e=Ak (Af #[Ab Al (Dz c.v.c c.v.a ps).1,Ab Al (Dz c.v.c c.v.a ps).2])/\A0 V w'
structure Jy(c:Rx)(R:Cy)(N:AH)(V:Ap):Prop where
 h:V.heap[c.P]?=An (Aj (Mk c R) 158)
 ac:Below (Au (Av c.a)) c.a V
 m:R.1<=N/\R.2.1<=N/\R.2.2.1<=N/\R.2.2.2<=N
def Zm(c:Rx)(k:AH)(r:Option (AM Unit)×Cy)(M:AH)(V:Ap)(e:Ending)(V':Ap):Prop :=
 ∃kd n s ka ki kj va vi vj,e=Ak (Af #[.agg<|Cg kd n s (Ac ka ki kj)<|Ac va vi vj,Ah r.1.isSome])/\Jy c r.2 M V'/\Ci c.P V V'/\(∀d',r.1=An d'->CV k V' (λj=>Au (Av V)<=j/\j<Au (Av V')) (.agg<|Cg kd n s (Ac ka ki kj)<|Ac va vi vj) d')/\(r.1=Ao->Cg kd n s (Ac ka ki kj) (Ac va vi vj)=Cv)
def Zn(c:Rx)(k:AH):Prop :=
 ∀(V:Ap) (F:AH->Prop) (a:A3) (d:A2) (pa:A4) (ps:AJ<|A1×AK) (pc:AH) (R:Cy) (N:AH),Jy c R N V->Gc V pa ps->(∀b off,pa=An ⟨b,off,Ao⟩->b≠c.P)->(pa=Ao->pc=0)->(∀j,F j->j<Au (Av V)/\j≠c.P)->CV k V F (.agg a) d->At (Du k d)<=999999999->N+D3 k d<=90000->At ps+k<=4096 ->
  Ar As 77 #[A8 c.P,.agg a,Ac pa (At ps) pc] V (Zm c k (D6 c.v k ps.reverse d R) (N+D3 k d) V)
structure I5(c:Rx)(W:Ap)(a y:A3)(R:Cy)(N:AH)(V:Ap):Prop where
 e:V.heap[Au (Av W)]?=An (Aj a 101)
 b:V.heap[Au (Av W)+1]?=An (Aj y 101)
 d:Jy c R N V
 ai:Ci c.P W V
theorem Jy.next{c:Rx}(h:Jy c R N V)(a:A0 V V'):Jy c R N V':=⟨Ca (Co a _<|Cd h.h) h.h,Cs h.ac<|CG a h.ac.size,h.m⟩
theorem I5.next{c:Rx}{a y:A3}(h:I5 c W a y R N V)(b:A0 V V'):I5 c W a y R N V':=⟨Ca (Co b _<|Cd h.e) h.e,Ca (Co b _<|Cd h.b) h.b,h.d.next b,h.ai.trans<|.of_below b⟩
def Jy.cell{c:Rx}(h:Jy c R N V)(ok:Nn c)(j:I):AC V ⟨c.P,11+j,Ao⟩=#[G c.h c.b c.e,C Y R.1,C Y R.2.1,C Y R.2.2.1,C Y R.2.2.2][j]?:=by refine Ca (Cc h.h<|11+j) ?_;unfold Mk;rw[Nv<|by rw[ok.size];omega,ok.size,show 11+j-11=j by omega]
theorem Jy.ai{c:Rx}(h:Jy c R N V):∀(j:I) (u:Aq),c.ad[j]?=H u->A6 V c.P (0+j) u:=by intro j u a;have b:=Cd a;refine Ca (Cc h.h<|0+j) ?_;grind [Mk]
def Jy.ad{c:Rx}(h:Jy c R N V)(ok:Nn c)(j x:I)(d:Ay (Mk c R) j (C Y x)=Mk c R')(e:R'.1<=N+1/\R'.2.1<=N+1/\R'.2.2.1<=N+1/\R'.2.2.2<=N+1):Jy c R' (N+1) (AB V ⟨c.P,j,Ao⟩<|C Y x)/\Ci c.P V (AB V ⟨c.P,j,Ao⟩<|C Y x):=by have b:∀i,i≠c.P->(AB V ⟨c.P,j,Ao⟩<|C Y x).heap[i]?=V.heap[i]?:=λi a=>CY V _ _ _ Bl;refine⟨⟨?_,Cs h.ac ⟨Z,Z,Z,Bd,λi a=>b i<|AY ok.a⟩,e⟩,⟨Z,Z,Z,Bd,λi _ a=>b i a⟩⟩;rw[DX _ _ _ _ _ _ h.h,d]
theorem Vs{c:Rx}(ok:Nn c)(R:Cy)(j:I)(v:Aq):Ay (Mk c R) (11+j) v=c.ad++#[G c.h c.b c.e,C Y R.1,C Y R.2.1,C Y R.2.2.1,C Y R.2.2.2].setIfInBounds j v:=by
 unfold Mk;apply PS;have a:K c.ad.toList=11:=by simp[ok.size]
 grind
def Ci.cell(h:Ci P w w')(hb:b<O (U w))(a:b≠P):AC w' ⟨b,j,Ao⟩=AC w ⟨b,j,Ao⟩:=by unfold World.cell?;simp only[h.block b hb a]
def Ci.a0(h:Ci P w w')(hl:lo<=P)(b:lo<=O (U w)):Below lo w w':=⟨h.os,h.tape,h.output,h.size,λi a=>h.block i E E⟩
def Gc.ai{a:A4}(h:Gc w a ps)(e:∀b off,a=H ⟨b,off,Ao⟩->b≠P)(hb:Ci P w w'):Gc w' a ps :=
 ⟨λi j=>by obtain⟨b,off,c,d,f,g⟩:=h.aq i j;exact⟨b,off,c,CQ d hb.size,Ca (hb.cell d<|e b off c) f,Ca (hb.cell d<|e b off c) g⟩⟩
def ml{c:Rx}(ok:Nn c):(prog.info? 40).map (·.size)=H c.ad.size:=by rw[ok.size];kernel_rfl
def I5.ad{c:Rx}{a y:A3}(h:I5 c W a y R N V)(ok:Nn c)(g:c.P<O (U W))(j x:I)(e:Ay (Mk c R) j (C Y x)=Mk c R')(f:R'.1<=N+1/\R'.2.1<=N+1/\R'.2.2.1<=N+1/\R'.2.2.2<=N+1):I5 c W a y R' (N+1)<|AB V ⟨c.P,j,Ao⟩<|C Y x:=by obtain⟨d,b⟩:=h.d.ad ok j x e f;exact⟨Ca (b.block _ (Cd h.e) E) h.e,Ca (b.block _ (Cd h.b) E) h.b,d,h.ai.trans b⟩
def I5.set{c:Rx}{a y:A3}(h:I5 c W a y R N V)(g:c.P<O (U W))(f:O (U c.a)<=O (U W))(T:A3):I5 c W a T R N<|AD V (O (U W)+1) T:=by have d:∀j,j≠O (U W)+1->(AD V (O (U W)+1) T).heap[j]?=V.heap[j]?:=λj b=>Do _ _ _ _ b;refine⟨Ca (d _ E) h.e,CR _ _ _ _ _ _ h.b,⟨Ca (d _ E) h.d.h,Cs h.d.ac ⟨Z,Z,Z,Ba,λj b=>d j E⟩,h.d.m⟩,⟨h.ai.os,h.ai.tape,h.ai.output,by simpa using h.ai.size,λj b e=>Ca (d j E)<|h.ai.block j b e⟩⟩
def mm(l:A1)(W:X):Ar As 109 #[Ae ⟨Aw l⟩] W λe a=>e=Ak (.agg<|Cg 4 0 ⟨Aw l⟩ Cq Cq)/\A0 W a:=by
 go_enter func109,ntmps109
 go_wp2_with(first
  |((with_reducible refine zT 2 4 rfl rfl (O<|U W) (Cg 4 0 ⟨Aw l⟩ Cq Cq) ?_ ?_);exact⟨Z,Z,Cj _,thg⟩))
 rw[Ge];go_wp2;refine CS (Lb results109 _ _ (O<|U W) 101 _ (0,0) _ Z (Cj _) underlying101 Z KI) Z ⟨Z,Cm⟩
def Vt{c:Rx}{a:A3}{n:J}{ka:A4}{ki kj vi vj M:I}{r:Option (AM Unit)×Cy}{A:Act}(h:I5 c W a (Cg kd n s (G ka ki kj)<|G va vi vj) r.2 N V)(l:N<=M)(f:∀b,r.1=H b->CV k V (λj=>O (U W)<=j/\j<O (U V)) (.agg<|Cg kd n s (G ka ki kj)<|G va vi vj) b)(i:r.1=Ao->Cg kd n s (G ka ki kj) (G va vi vj)=Cv)(e:A.tmps.getD 6 AO=A8 (O (U W)+1):=by rfl)(g:A.tmps.getD 7 AO=Ah r.1.isSome:=by rfl)(d:A.defers=[]:=by rfl):bodyPost As f77 (Zm c k r M W) .ret A V :=
 CS (IE results77 e h.b underlying101 rfl KI _ g) d ⟨_,_,_,_,_,_,_,_,_,rfl,⟨h.d.h,h.d.ac,AY h.d.m⟩,h.ai,f,i⟩
def QQ(m:AK)(ks:AJ A1)(i:AH):A1×AK:=bif m then(ks.getD i [],AQ)else([],AP)
def FM(m:AK)(f:AJ (A1×AK)->A2->Cy->Option (AM Unit)×Cy)(p:AJ<|A1×AK)(ks:AJ A1)(ds:AJ<|AM Unit)(R:Cy):AH->(AJ A1×AJ (AM Unit))×Cy
 |0=>(([],[]),R)
 |i+1=>match ds[i]? with
  |none=>FM m f p ks ds R i
  |some d=>match f (QQ m ks i::p) d (FM m f p ks ds R i).2 with
   |(Ao,R')=>((FM m f p ks ds R i).1,R')
   |(An d',R')=>((bif m then(FM m f p ks ds R i).1.1++[ks.getD i []]else[],(FM m f p ks ds R i).1.2++[d']),R')
def Zo(m:AK)(s:(AJ A1×AJ (AM Unit))×Cy)(key:A1)(r:Option (AM Unit)×Cy):(AJ A1×AJ (AM Unit))×Cy:=match r with
 |(Ao,R')=>(s.1,R')
 |(An d',R')=>((bif m then s.1.1++[key]else[],s.1.2++[d']),R')
def qzg{key:A1}(b:ds[i]?=H d)(a:QQ m ks i=(key,!m)):FM m f p ks ds R (i+1)=Zo m (FM m f p ks ds R i) key (f ((key,!m)::p) d (FM m f p ks ds R i).2):=by
 rw[FM,b];simp only[a,Zo];cases m
 .rfl
 cases a;rfl
theorem mo(i:I):(FM AP f p ks ds R i).1.1.length=(FM AP f p ks ds R i).1.2.length:=by
 induction i with
 |zero=>rfl
 |succ i h =>
  rw[FM];grind
theorem q6W(i:I):(FM m f p ks ds R i).1.2.length<=i:=by
 induction i with
 |zero=>exact Cr _
 |succ i h =>
  rw[FM];grind
theorem qyB(i:I):Jv (f (([],AP)::p)) (ds.take i) R=((FM AQ f p ks ds R i).1.2,(FM AQ f p ks ds R i).2):=by
 induction i with
 |zero=>rfl
 |succ i h =>
  rw[FM];rcases hd:ds[i]? with _|d
  .grind [List.take_of_length_le]
  rw[QY,hd,ak,m6 _ _ _ _ h];grind [QQ]
theorem q2Q{es:AJ<|Lit×AM Unit}(a:∀(i:I) (key:Lit) (d:A2),es[i]?=H (key,d)->∃l,key=.string l)(i:I):Jw (λkey=>f ((key,AQ)::p)) (es.take i) R=(FH (FM AP f p (es.map (D9 ·.1)) (es.map (·.2)) R i).1.1 (FM AP f p (es.map (D9 ·.1)) (es.map (·.2)) R i).1.2,(FM AP f p (es.map (D9 ·.1)) (es.map (·.2)) R i).2):=by
 induction i with
 |zero=>rfl
 |succ i h =>
  have b:=mo (f:=f) (p:=p) (ks:=es.map (D9 ·.1)) (ds:=es.map (·.2)) (R:=R) i;rw[FM];rcases hd:es[i]? with _|e
  .grind [List.take_of_length_le]
  obtain⟨key,d⟩:=e;obtain⟨l,rfl⟩:=a i key d hd;rw[QY,hd,ak,m7 h,L9,hd];grind [QQ,D9,XJ]
structure mq(f:AJ (A1×AK)->A2->Cy->Option (AM Unit)×Cy)(k:AH)(W:Ap)(F:AH->Prop)(kd n:AI)(s:AT)(kv u:Aq)(p:AJ (A1×AK))(d:A2)(m:AK)(ks:AJ A1)(ds:AJ (AM Unit)):Prop where
 kd7:(kd==7)=m
 len:m=AP->At ks=At ds
 q:m=AP->DQ W 9 1 F kv (At ds) (ks.map CX)
 c:∃xs,DQ W 101 5 F u (At ds) xs/\∀(i:AH) (d:A2),ds[i]?=An d->∃a,Hu xs i a/\CV k W F (.agg a) d
 nd:(ds.map λd=>1+D3 k d).sum+1<=D3 (k+1) d
 cb:∀(i:AH) (d':A2),ds[i]?=An d'->At (Du k d')<=At (Du (k+1) d)
 fo:∀(V:Ap) (B b:AH) (kv' u':Aq) (R:Cy),B<=b->(ds=[]->kv'=Cq/\u'=Cq)->KM m k V b kv' u' (FM m f p ks ds R (At ds)).1.1 (FM m f p ks ds R (At ds)).1.2->CV (k+1) V (λj=>B<=j/\j<Au (Av V)) (.agg (Cg kd n s kv' u')) (Jc f p d R).1/\(Jc f p d R).2=(FM m f p ks ds R (At ds)).2
def PD{a b a' b':J}{c c':AT}{d e d' e':Aq}(h:Cg a b c d e=Cg a' b' c' d' e'):a=a'/\b=b'/\c=c'/\d=d'/\e=e':=by simpa[Cg]using h
theorem qyU{F:I->Prop}{n:J}(p:AJ<|A1×AK)(h:CV (k+1) W F (.agg<|Cg kd n s kv u) d):∃m ks ds,mq f k W F kd n s kv u p d m ks ds:=by
 have c:∀(q:J),(q==7)=AQ->kd=q->u=Cq->kv=Cq->1<=D3 (k+1) d->(∀R,Jc f p d R=(d,R))->(∀V a,CV (k+1) V a (.agg<|Cg kd n s Cq Cq) d)->∃m ks ds,mq f k W F kd n s kv u p d m ks ds:=by rintro q Q rfl rfl rfl y z P;refine⟨AQ,[],[],Q,nofun,nofun,⟨[],⟨rfl,AF ⟨rfl,rfl⟩⟩,nofun⟩,kfk,nofun,λV B b v o R g hn _=>?_⟩;obtain⟨rfl,rfl⟩:=hn rfl;rw[z];exact⟨P _ _,Z⟩
 unfold CV at h;split at h
 .obtain⟨rfl,rfl,rfl,rfl,rfl⟩:=PD<|Ff h;exact c 0 Z Z Z Z (PC _ _) (λ_=>rfl) λV a=>kfq
 .rename_i b;obtain⟨rfl,rfl,rfl,rfl,rfl⟩:=PD<|Ff h;exact c _ (by cases b<;>rfl) rfl rfl rfl (PC _ _) (λ_=>rfl) λV a=>kfq
 .obtain⟨h,y,z⟩:=h;obtain⟨rfl,rfl,rfl,rfl,rfl⟩:=PD<|Ff h;exact c 3 Z Z Z Z (PC _ _) (λ_=>rfl) λV a=>by grind [CV]
 .obtain⟨rfl,rfl,rfl,rfl,rfl⟩:=PD<|Ff h;exact c 4 Z Z Z Z (PC _ _) (λ_=>rfl) λV a=>kfq
 .obtain⟨rfl,rfl,rfl,rfl,rfl⟩:=PD<|Ff h;exact c 5 Z Z Z Z (PC _ _) (λ_=>rfl) λV a=>kfq
 .rename_i ds;obtain⟨o,w,h,r,A⟩:=h;obtain⟨rfl,rfl,rfl,rfl,rfl⟩:=PD<|Ff h;refine⟨AQ,[],ds,Z,nofun,nofun,⟨w,r,A⟩,by simp only[D3];omega,λi N h=>?_,λV B b v o R g _ j=>?_⟩
  .have:=Vq (Du k) h;show _<=K (Dd 4 _++ds.flatMap (Du k));grind
  have e:=qyB (f:=f) (p:=p) (ks:=[]) (ds:=ds) (R:=R)<|K ds;rw[LN]at e;simp only[Jc,e];exact⟨KM.ai j g,trivial⟩
 .rename_i es;obtain⟨v,o,w,h,hq,r,A⟩:=h;obtain⟨rfl,rfl,rfl,rfl,rfl⟩:=PD<|Ff h;have L:∀(i:I) (key:Lit) (d:A2),es[i]?=H (key,d)->∃l,key=.string l:=λi key d h=>B9;refine⟨AP,es.map (D9 ·.1),es.map (·.2),Z,Ba,λ_=>?_,⟨w,kex,λi d h=>?_⟩,?_,λi N h=>?_,λV B b v o R g _ j=>?_⟩
  .have e:es.map NQ=(es.map (D9 ·.1)).map CX:=by rw[Mx];refine ZN λx t=>?_;obtain⟨i,S,rfl⟩:=ae.1 t;obtain⟨l,e⟩:=L i es[i].1 es[i].2<|D7 S;simp[NQ,D9,e]
   grind
  .grind
  .have h:∀l:AJ<|Lit×AM Unit,((l.map (·.2)).map λd=>1+D3 k d).sum<=(l.map λe=>2+D3 k e.2).sum:=λl=>by induction l<;>grind
   grind [D3]
  .rw[L9,Ox]at h;obtain⟨x,t,rfl⟩:=h;have:=Vq (λe:Lit×AM Unit=>(Dd 3 (K<|D9 e.1)++D9 e.1)++Du k e.2) t;show _<=K (Dd 5 _++es.flatMap λe=>(Dd 3 (K<|D9 e.1)++D9 e.1)++Du k e.2);grind
  have e:=q2Q (f:=f) (p:=p) (es:=es) (R:=R) L<|K es;rw[LN]at e;simp only[Jc,e];rw[LO]at j;exact⟨KM.ai j g,by rw[LO]⟩
 exact h.elim
def Tryz.infoStep:(prog.info? 146).map (λi=>(i.zero,i.size,i.bytes))=H (H<|Ag #[.string ByteArray.empty,Ah AQ],2,24):=B6
theorem apS{pc:I}(own:w.ownsRow base 146 2 v n xs)(f:Gc w pa ps)(p:pa=Ao->pc=0)(hl:n+K ps<=999999)(hb:base<=O (U w))(h:∀c b,b.ownsRow base 146 2 c (n+K ps) (xs++FZ ps)->Below base w b->wpList As ops Q rest (a.put o.dst c) b)(g:o.guard=Ao:=by rfl)(j:o.op=.call {callee:=.builtin .append,args:=#[x,y],argTypes:=#[32,32]}:=by rfl)(k:a.eval x=v:=by rfl)(hx:a.eval y=G pa (K ps) pc:=by rfl):wpList As ops Q (o::rest) a w:=by
 obtain⟨u,i,q,r,t⟩:=DL Tryz.infoStep;obtain _|d:=pa
 .have e:ps=[]:=by
   obtain _|⟨s,ps⟩:=ps
   .rfl
   obtain⟨_,_,h,_⟩:=f.aq 0 Ba;cases h
  subst e;rw[p rfl]at hx;exact Ub g j underlying32 underlying32 i k own hx (h _ _ (by grind [FZ])<|Cu _ _)
 refine K8 _ g x y 32 j base 146 u _ 2 24 underlying32 i q r t Z B8 v _ _ k own d (K ps) pc (FZ ps) hx (QO ps) (lT f d Z) (Zi) Bc E hb ?_;intro c b l m _;exact h _ _ l<|GX (Cu base w) own m hb
theorem mr(s:A1×AK)(own:w.ownsRow base 146 2 v n xs)(hl:n<=999999)(hb:base<=O (U w))(h:∀c b,b.ownsRow base 146 2 c (n+1) (xs++FZ [s])->Below base w b->wpList As ops Q rest (a.put o.dst c) b)(g:o.guard=Ao:=by rfl)(k:o.op=.call {callee:=.builtin .append,args:=#[x,y],argTypes:=#[32,32]}:=by rfl)(l:a.eval x=v:=by rfl)(hx:a.eval y=G (Aa<|O<|U w) 1 1:=by rfl):wpList As ops Q (o::rest) a<|Az w<|M #[Ae ⟨Aw s.1⟩,Ah s.2] 146:=by
 obtain⟨r,i,m,p,q⟩:=DL Tryz.infoStep;refine K8 _ g x y 32 k base 146 r _ 2 24 underlying32 i m p q Z B8 v _ _ l (own.alloc _) ⟨O<|U w,0,Ao⟩ 1 1 (FZ [s]) hx Z ?_ (Zi) Bc E B7 ?_
 .intro j u t;have e:=Cj w (o:=M #[Ae ⟨Aw s.1⟩,Ah s.2] 146);rw[JB];refine(Cc e _).trans ?_;grind [FZ]
 intro c b d f _;exact h _ _ d<|GX ((Cu base w).alloc hb _) (own.alloc _) f B7
theorem Vu{size:I}(h:W.ownsRow base t size v n xs):∃a b,v=G a n b:=by rcases h.2 with⟨rfl,e⟩|⟨g,b,c,rfl,_⟩<;>grind
theorem q48(h:W.ownsRow base 146 2 v (K ps)<|FZ ps):∃a c,v=G a (K ps) c/\Gc W a ps/\(∀b off,a=H ⟨b,off,Ao⟩->base<=b)/\(a=Ao->c=0):=by
 obtain⟨_,h⟩:=h;rcases h with⟨rfl,h⟩|⟨g,f,l,rfl,j,k,_,_,m,n⟩
 .exact⟨Ao,0,by rw[h],⟨λi d=>E⟩,nofun,λ_=>rfl⟩
 refine⟨_,f,rfl,⟨λi d=>⟨g,0,rfl,Cd k,?_⟩⟩,λb off e=>by cases e;exact j,nofun⟩;have e:=Vk ps i d;grind [Cc]
def apK{z:J}{b1:A4}{i1 j1 p1 q1:I}(own:w.ownsRow base 101 5 v n xs)(hl:n<=999999)(hb:base<=O (U w))(h:∀c d b,b.ownsRow base 101 5 (G c (n+1) d) (n+1) (xs++(Cg kd z s (G a1 i1 j1)<|G b1 p1 q1).toList)->(∀j,j<O (U w)->H j≠Ax v->b.heap[j]?=w.heap[j]?)->Below base w b->(Ax (AX c (n+1) d)=Ax v\/∃g,Ax (AX c (n+1) d)=H g/\O (U w)<=g)->wpList As ops Q rest (a.put o.dst<|G c (n+1) d) b)(l:o.guard=Ao:=by rfl)(r:o.op=.call {callee:=.builtin .append,args:=#[x,y],argTypes:=#[99,99]}:=by rfl)(t:a.eval x=v:=by rfl)(hx:a.eval y=G (Aa<|O<|U w) 1 1:=by rfl):wpList As ops Q (o::rest) a<|Az w<|M #[C Y kd,C Y z,.string s,G a1 i1 j1,G b1 p1 q1] 101:=by obtain⟨L,F,u,A,B⟩:=DL Tryz.infoThR;refine JH l r underlying99 F u A B Z B8 t (own.alloc _) 1 1 hx Z (EU) (U1) B8 Bc E B7 ?_;intro N b f i k;obtain⟨c,d,rfl⟩:=Vu f;have p:∀j,j<O (U w)->H j≠Ax v->b.heap[j]?=w.heap[j]?:=λj m q=>(i.block j B7 q).trans<|CB _ _ _ m;exact h c d b f p (GX ((Cu base w).alloc hb _) (own.alloc _) i B7)<|k.imp id λe=>⟨_,e,Ba⟩
structure ms(m:AK)(k:AH)(V:Ap)(b:AH)(kv u:Aq)(kl:AJ A1)(n:AH)(xs:AJ Aq)(W':Ap)(kv' u':Aq)(t:A1)(d:A2)(a:A3)(L:AH):Prop where
 size:Au (Av V)<=Au (Av W')
 aq:∀j,b<=j->j<Au (Av V)->An j≠Ax u->(m=AP->An j≠Ax kv)->W'.heap[j]?=V.heap[j]?
 c:W'.ownsRow b 101 5 u' (n+1) (xs++a.toList)
 un:Ax u'=Ax u\/∃g,Ax u'=An g/\Au (Av V)<=g
 kid:CV k V (λj=>L<=j/\j<Au (Av V)) (.agg a) d
 five:a.size=5
 a0:b<=L/\∀g,Ax u=An g->g<L
 q:m=AP->W'.ownsRow b 9 1 kv' (At kl+1) (kl.map CX++[CX t])/\(Ax kv'=Ax kv\/∃g,Ax kv'=An g/\Au (Av V)<=g)/\(∀g,Ax kv'=An g->¬(Ax u')=An g)/\∀g,Ax kv=An g->g<L
 nil:m=AQ->kv'=Cq
theorem KM.ac{kl:AJ A1}(h:KM m k V b kv u kl ds):∃l,V.ownsRow b 101 5 u (K ds) l/\(m=AP->V.ownsRow b 9 1 kv (K kl) (kl.map CX)/\∀g,Ax kv=H g->¬(Ax u)=H g)/\∀(o:X) (p n:Aq) (t:A1) (d:A2) (a:A3) (L:I),ms m k V b kv u kl (K ds) l o p n t d a L->KM m k o b p n (bif m then kl++[t]else[]) (ds++[d]):=by
 have go:∀(v x:I->Prop) (l:AJ Aq),V.ownsRow b 101 5 u (K ds) l->(∀(i:I) (d:A2),ds[i]?=H d->∃a,Hu l i a/\CV k V (λj=>b<=j/\j<O (U V)/\H j≠Ax u/\¬v j) (.agg a) d)->∀(o:X) (p n:Aq) (t:A1) (d:A2) (a:A3) (L:I),ms m k V b kv u kl (K ds) l o p n t d a L->(∀j,j<O (U V)->¬v j->m=AP->H j≠Ax kv)->(∀j,j<O (U V)->¬v j\/L<=j->¬x j)->(∀j,L<=j->m=AP->H j≠Ax kv)->IR k o b n x (ds++[d]):=by
  intro v x l q s o p n t d a L f R B S;have z:∀j,j<O (U V)->H j≠Ax u->H j≠Ax n:=λj c h=>by rcases f.un with e|⟨g,e,hg⟩<;>grind
  refine⟨l++a.toList,by simpa using f.c,λi N r=>?_⟩;by_cases y:i<K ds
  .rw[Hh y]at r;obtain⟨F,P,Q⟩:=s i N r;exact⟨F,Xz q.1 y P,Q.same (λj c=>⟨c.1,CQ c.2.1 f.size,z j c.2.1 c.2.2.1,B j c.2.1<|AF c.2.2.2⟩) λj c=>f.aq j c.1 c.2.1 c.2.2.1<|R j c.2.1 c.2.2.2⟩
  have e:i=K ds:=B9;subst e;rw[Jd<|Cr _,Rg]at r;injection r with r;subst r;have A:∀j,L<=j->H j≠Ax u:=λj c e=>AY<|f.a0.2 j e.symm;exact⟨a,XA q.1 f.five,f.kid.same (λj c=>⟨CE f.a0.1 c.1,CQ c.2 f.size,z j c.2<|A j c.1,B j c.2<|AG c.1⟩) λj c=>f.aq j (CE f.a0.1 c.1) c.2 (A j c.1)<|S j c.1⟩
 cases m
 .obtain⟨⟨rfl,rfl⟩,l,q,s⟩:=h;refine⟨l,q,nofun,λo p n t d a L f=>⟨⟨Z,f.nil Z⟩,go _ _ l q s o p n t d a L f (λ_ _ _ h=>Bs) (λ_ _ _ h=>h) λ_ _ h=>Bs⟩⟩
 have w:G8 k V b kv u (λ_=>False) kl ds:=h;obtain⟨l,q,s⟩:=w.c;refine⟨l,q,λ_=>⟨w.q,w.e⟩,λo p n t d a L f=>?_⟩;obtain⟨W,k2,k3,k4⟩:=f.q rfl;refine(⟨by simpa using W,go _ _ l q s o p n t d a L f (λj _ h _ e=>h<|AF e) (λj c h=>?_) λj c _ e=>B9,by simpa using w.len,k3,λ_ _ h=>h,λ_ _ h=>h⟩:G8 k o b p n (λ_=>False) (kl++[t])<|ds++[d]);grind
structure Hg(c:Rx)(W:Ap)(A:A3)(Q:AH)(T:A3)(R:Cy)(N:AH)(V:Ap):Prop where
 z:I5 c W A Cv R N V
 a:V.heap[Q]?=An (Aj T 101)
def Hg.a0{c:Rx}{A T:A3}{Q:I}(h:Hg c W A Q T R N V)(f:c.P<O (U W))(e:O (U c.a)<=O (U W))(g:O (U W)+1<Q)(a:Below (Q+1) V V'):Hg c W A Q T R N V' :=
 ⟨⟨(a.block _ E).trans h.z.e,(a.block _ E).trans h.z.b,⟨(a.block _ E).trans h.z.d.h,h.z.d.ac.trans<|a.mono E,h.z.d.m⟩,⟨a.os.trans h.z.ai.os,a.tape.trans h.z.ai.tape,a.output.trans h.z.ai.output,CE h.z.ai.size a.size,λj b d=>(a.block j E).trans<|h.z.ai.block j b d⟩⟩,(a.block _ E).trans h.a⟩
def Hg.up{c:Rx}{A T:A3}{Q:I}(h:Hg c W A Q T R N V)(a:R=R')(b:N<=N'):Hg c W A Q T R' N' V:=by subst a;exact⟨⟨h.z.e,h.z.b,⟨h.z.d.h,h.z.d.ac,AY h.z.d.m⟩,h.z.ai⟩,h.a⟩
theorem Hg.put{c:Rx}{A T:A3}{Q:I}(h:Hg c W A Q T R N V)(b:c.P<O (U W))(d:O (U W)+1<Q)(hx:Jy c R' N' V')(a:Ci c.P V V'):Hg c W A Q T R' N' V' :=
 ⟨⟨(a.block _ (Cd h.z.e) E).trans h.z.e,(a.block _ (Cd h.z.b) E).trans h.z.b,hx,h.z.ai.trans a⟩,(a.block _ (Cd h.a) E).trans h.a⟩
def Hg.set{c:Rx}{A T:A3}{Q:I}(h:Hg c W A Q T R N V)(f:c.P<O (U W))(e:O (U c.a)<=O (U W))(g:O (U W)+1<Q)(j:I)(v:Aq):Hg c W A Q (Ay T j v) R N<|AB V ⟨Q,j,Ao⟩ v:=by have a:∀i,i≠Q->(AB V ⟨Q,j,Ao⟩ v).heap[i]?=V.heap[i]?:=λi b=>CY V _ _ _ BG;refine⟨⟨(a _ E).trans h.z.e,(a _ E).trans h.z.b,⟨(a _ E).trans h.z.d.h,h.z.d.ac.trans ⟨Z,Z,Z,Bd,λi b=>a i E⟩,h.z.d.m⟩,⟨h.z.ai.os,h.z.ai.tape,h.z.ai.output,by simpa[World.setCell]using h.z.ai.size,λi b d=>(a i E).trans<|h.z.ai.block i b d⟩⟩,?_⟩;rw[DX _ _ _ _ _ _ h.a]
theorem qqB{c:Rx}(ok:Nn c)(k:I)(ih:Zn c k):Zn c<|k+1:=by
 intro W eg fi ae pa ps pc R N h hp dx e6 hF hd hc hN ft;obtain⟨d,n,s,ka,ki,kj,va,vi,vj,e⟩:=hd.ac;injection e with e;subst e;have HZ:D (I5 c W (Cg d n s (G ka ki kj)<|G va vi vj) Cv R N<|Az (Az W<|M (Cg d n s (G ka ki kj)<|G va vi vj) 101)<|M Cv 101) :=
  ⟨(CB _ _ _ Ba).trans<|Cj _,B2<|Cj (Az W<|M (Cg d n s (G ka ki kj)<|G va vi vj) 101) (o:=M Cv 101),(h.next Cm).next Cm,(Ci.of_below Cm).trans<|.of_below<|Cm⟩
 have HP:=T hp;obtain⟨aa,hl,ey,cQ⟩:=ok.g ps;have cL:=T λV (hV:Ci c.P W V)=>ok.lbl V pa ps pc (h.ac.trans<|hV.a0 ok.a h.ac.size) (hp.ai dx hV) E;obtain⟨ab,aq⟩:=CC<|(Dz c.v.c c.v.a ps).2;rw[hl,AE aq]at cL;obtain⟨an,HB⟩:=CC<|c.v.m aa c.v.d;rw[AE HB]at cQ;have HQ:=T cQ;have am:D<|(Dz c.v.c c.v.a ps.reverse.reverse).1.toNat=aa:=by rw[VN,hl];rfl
 have ah:D<|(Dz c.v.c c.v.a ps.reverse.reverse).2=ab:=by rw[VN];exact aq
 have F:=T ok;obtain⟨rr,ac⟩:=CC<|D6 c.v (k+1) ps.reverse ae R;rw[AE ac];have fs:=PC k ae;have bi:∀(cf:X),I5 c W (Cg d n s (G ka ki kj)<|G va vi vj) Cv R N cf->(∀(j:I) (ag:Aq),c.ad[j]?=H ag->AC cf ⟨c.P,0+j,Ao⟩=H ag)/\AC cf ⟨c.P,11,Ao⟩=H (G c.h c.b c.e):=λ_ h=>⟨h.d.ai,h.d.cell ok 0⟩
 have au:=T bi;have x:=Cd h.h;have b:=h.ac.size;clear bi cQ hl h hp;unfold Cv Cg Cq at HZ au;unfold Cg;go_enter func77,ntmps77
 go_wp2_with fail
 generalize Az (Az W _) _=V0 at *;refine Dl (S:=λB=>(∀(j:I) (ag:Aq),c.ad[j]?=H ag->B.cell? ⟨c.P,0+j,Ao⟩=H ag)/\B.cell? ⟨c.P,11,Ao⟩=H (G c.h c.b c.e)) (au _<|HZ.next (Cu _ _).drew) B6 λt=>Cb 0 17 (Ad<|H ⟨c.P,0,Ao⟩) t <| Cb 1 18 (Ad<|H ⟨c.P,0,Ao⟩) t <| Cb 2 19 (Ad<|H ⟨c.P,0,Ao⟩) t <| Ch 3 20 (.agg c.ad) rfl (λB q=>Oe (.tmp 19) rfl rfl q.1 underlying40 rfl<|ml F) t <| Cb 4 21 (Ad<|H ⟨c.P,0,Ao⟩) t <| Cb 5 22 (Ad<|H ⟨c.P,0,Ao⟩) t <| Cb 6 23 (Ad<|H ⟨c.P,11,Ao⟩) t <| Ch 7 24 (G c.h c.b c.e) rfl (λB q=>by have:=q.2;go_simp) t <| Cb 8 25 (G pa (K ps) pc) t <| CH 9 λad A=>?_;go_simp;have cd:=T<|HZ.next (Cu _ _).drew;refine(cL.out _ cd.ai).mono ?_;clear cL;rintro e w2 ⟨rfl,c8⟩;simp only[];have bs:=T<|cd.next c8;have ao:=au.out _ bs;refine A.out _ _ ao λ_=>?_;clear A cd HZ c8 t;refine Cb 10 16 (Af #[C Y aa,C Y ab]) ao <| Cb 11 27 (C Y aa) ao <| Cb 12 28 (C Y ab) ao <| Cb 13 8 (C Y aa) ao <| Cb 14 9 (C Y ab) ao <| CK ?_;go_simp;clear ao
 go_wp2_with fail
 refine Dl (S:=λB=>(∀(j:I) (ag:Aq),c.ad[j]?=H ag->B.cell? ⟨c.P,0+j,Ao⟩=H ag)/\B.cell? ⟨c.P,11,Ao⟩=H (G c.h c.b c.e)) (au _<|bs.next (Cu _ _).drew) B6 λt=>Cb 0 29 (Ad<|H ⟨c.P,0,Ao⟩) t <| Cb 1 30 (Ad<|H ⟨c.P,0,Ao⟩) t <| Cb 2 31 (Ad<|H ⟨c.P,0,Ao⟩) t <| Ch 3 32 (.agg c.ad) rfl (λB q=>Oe (.tmp 31) rfl rfl q.1 underlying40 rfl<|ml F) t <| Cb 4 33 (C Y aa) t <| Cb 5 34 (Ad<|H ⟨c.P,0,Ao⟩) t <| Cb 6 35 (Ad<|H ⟨c.P,0,Ao⟩) t <| Cb 7 36 (Ad<|H ⟨c.P,0,Ao⟩) t <| Cb 8 37 (Ad<|H ⟨c.P,4,Ao⟩) t <| Ch 9 38 (C Y c.v.d) rfl (λB q=>by have cm:B.cell? ⟨c.P,4,Ao⟩=_:=q.1 4 _ F.a4;go_simp) t ?_;refine CH 10 λad A=>?_;go_simp;have ce:=T<|bs.next (Cu _ _).drew;refine(HQ _ ce.d.ac).mono ?_;clear HQ;rintro e a ⟨rfl,af⟩;simp only[];have y:=T<|ce.next af;have ch:=au.out _ y;refine A.out _ _ ch λ_=>?_;clear A bs ce af t;refine Cb 11 40 (Ah !an) ch <| CK ?_;go_simp;clear ch au;have ak:=λj=>Dy a c.P j _ _ y.d.h;cases an
 .have hm:¬c.v.m (Dz c.v.c c.v.a ps.reverse.reverse).1.toNat c.v.d=AP:=by rw[AE am,AE HB];decide
  have few:=y.d.m;have d5:AC a ⟨c.P,13,Ao⟩=H (C Y R.2.1):=y.d.cell F 2;have d6:AC a ⟨c.P,14,Ao⟩=H (C Y R.2.2.1):=y.d.cell F 3;have d7:AC a ⟨c.P,15,Ao⟩=H (C Y R.2.2.2):=y.d.cell F 4;by_cases L:ab=2
  .have aj:=ac.symm.trans<|mg hm<|ah.trans L;subst aj;have a2:(ab==2)=AP:=by simp[L]
   have z:D<|I5 c W _ _ (R.1,R.2.1,R.2.2.1+1,R.2.2.2) (N+1)<|AB a ⟨c.P,14,Ao⟩<|C Y<|(R.2.2.1:J)+1:=y.ad F x 14 (R.2.2.1+1) (by rw[show 14=11+3 from Z,Vs F.out];rfl) BQ;have fl:=ak 14;clear L hm y ac aq ah am HB ak d5 d7
   go_wp2_with(first
    |(go_at_call 109;refine(mm [42,42,42] _).mono ?_;rintro e w5 ⟨rfl,bh⟩;have c5:=T<|z.next bh;clear z bh)
    |((with_reducible refine zT 6 53 rfl rfl (O (U W)+1) (Cg 4 0 ⟨#[42,42,42]⟩ Cq Cq) ?_ ?_);exact⟨Z,Z,c5.b,thg⟩))
   exact Vt (c5.set x b _) E (λd' h=>by cases h;unfold CV;rfl) nofun
  have a2:(ab==2)=AQ:=kfl;by_cases l:ab=3
  .have aj:=ac.symm.trans<|mh hm<|ah.trans l;rw[AE am]at aj;subst aj;have a3:(ab==3)=AP:=by simp[l]
   have z:D<|I5 c W _ _ (R.1,R.2.1,R.2.2.1,R.2.2.2+1) (N+1)<|AB a ⟨c.P,15,Ao⟩<|C Y<|(R.2.2.2:J)+1:=y.ad F x 15 (R.2.2.2+1) (by rw[show 15=11+4 from Z,Vs F.out];rfl) BQ;have fm:=ak 15;have cT:D (∀V,Ci c.P W V->Ar As 110 #[C Y c.v.key,C Y aa,Ag #[C Y d,C Y n,.string s,G ka ki kj,G va vi vj]] V (Eg (JX c.v.key aa<|Du (k+1) ae) V)):=λV hV=>q2N F.key.1 F.key.2 ey (λj w=>CQ (hF j w).1 hV.size) (hd.same (λ_ h=>h) λj w=>hV.block j (hF j w).1 (hF j w).2) hc;clear L l hm y ac aq ah am HB ak d5 d6;generalize JX c.v.key aa (Du (k+1) ae)=tg at *
   go_wp2_with fail
   generalize AB a _ _=w4 at *;refine Dl (S:=λB=>∃bv,I5 c W #[C Y d,C Y n,.string s,G ka ki kj,G va vi vj] bv (R.1,R.2.1,R.2.2.1,R.2.2.2+1) (N+1) B) ⟨_,z.next (Cu _ _).drew⟩ B6 λt=>Cb 0 65 (Ad<|H ⟨c.P,0,Ao⟩) t <| Cb 1 66 (Ad<|H ⟨c.P,0,Ao⟩) t <| Cb 2 67 (Ad<|H ⟨c.P,0,Ao⟩) t <| Cb 3 68 (Ad<|H ⟨c.P,5,Ao⟩) t <| Ch 4 69 (C Y c.v.key) rfl (λB q=>by obtain⟨bv,q⟩:=q;have cm:B.cell? ⟨c.P,5,Ao⟩=_:=q.d.ai 5 _ F.a5;go_simp) t ?_;refine Cb 5 70 (C Y aa) t <| Ch 6 71 (.agg<|Cg d n s (G ka ki kj)<|G va vi vj) Z (λB q=>yT 4 (q.elim λ_ h=>h.e) Z Z) t <| CH 7 λad A=>?_;go_simp;have bw:=T<|z.next (Cu _ _).drew;refine(cT.out _ bw.ai).mono ?_;clear cT;rintro e w5 ⟨rfl,bh⟩;simp only[];have be:=T<|bw.next bh;refine A.out _ _ ⟨_,be⟩ λeu=>?_;clear A bw z bh t;refine CH 8 λad A=>?_;go_simp;refine(mm tg _).mono ?_;rintro e r ⟨rfl,da⟩;simp only[];have bm:=T<|be.next da;refine A.out _ _ ⟨_,bm⟩ λfp=>?_;clear A be da eu;have df:(λB=>∃bv,I5 c W #[C Y d,C Y n,.string s,G ka ki kj,G va vi vj] bv (R.1,R.2.1,R.2.2.1,R.2.2.2+1) (N+1) B) _:=⟨_,bm.set x b<|Cg 4 0 ⟨Aw tg⟩ Cq Cq⟩
   refine Ij 9 6 73 B6 bm.b thg df <| Cb 10 7 (Ah AP) df <| CK ?_;go_simp;go_wp2;exact Vt (bm.set x b _) E (λd' h=>by cases h;unfold CV;rfl) nofun
  have aj:=ac.symm.trans<|mi hm (λh=>L<|ah.symm.trans h) λh=>l<|ah.symm.trans h;subst aj;have a3:(ab==3)=AQ:=kfg;have z:D<|I5 c W _ _ (R.1,R.2.1+1,R.2.2.1,R.2.2.2) (N+1)<|AB a ⟨c.P,13,Ao⟩<|C Y<|(R.2.1:J)+1:=y.ad F x 13 (R.2.1+1) (by rw[show 13=11+2 from Z,Vs F.out];rfl) BQ;have fk:=ak 13;clear L l hm y ac aq ah am HB ak d6 d7
  go_wp2_with(first
   |((with_reducible refine zT 6 83 rfl rfl (O (U W)+1) Cv ?_ ?_);exact⟨Z,Z,z.b,thg⟩))
  exact Vt (z.set x b _) E nofun λ_=>rfl
 have hm:c.v.m (Dz c.v.c c.v.a ps.reverse.reverse).1.toNat c.v.d=AP:=by rw[AE am];exact HB
 have few:=y.d.m;have fd:AC a ⟨c.P,12,Ao⟩=H (C Y R.1):=y.d.cell F 1;have aj:=ac.symm.trans<|me hm;subst aj;have z:D<|I5 c W _ _ (R.1+1,R.2) (N+1)<|AB a ⟨c.P,12,Ao⟩<|C Y<|(R.1:J)+1:=y.ad F x 12 (R.1+1) (by rw[show 12=11+1 from Z,Vs F.out];rfl) BQ;have ep:=ak 12;have et:R.1<=90000:=E;obtain⟨m,ks,ds,dl⟩:=qyU (f:=D6 c.v k) ps.reverse hd;obtain⟨xs,dy,dq⟩:=dl.c;obtain⟨fu,f5,f6,ev,dj⟩:=MU dy;cases ev;have al:=T dl;have z0:=Cc z.e 0;have z1:=Cc z.e 1;have z2:=Cc z.e 2;generalize hN2:N+D3 (k+1) ae=NE at *;have cv:=T hN2;have eh:=T hc;have cw:=T hN;clear hm y ac aq ah am HB ak hN2 hc hN;go_wp2;have hQ:=Cd z.b;have cl:O (U<|AB a ⟨c.P,12,Ao⟩<|C Y<|(R.1:J)+1)=O (U a):=Bd;have c0:D<|Hg c W _ (O<|U a) _ (R.1+1,R.2) (N+1)<|(AB a ⟨c.P,12,Ao⟩<|C Y<|(R.1:J)+1).alloc<|M #[C Y d,C Y n,.string s,G Ao 0 0,G Ao 0 0] 101:=⟨z.next Cm,cl▸Cj _⟩
 rw[cl]at hQ;generalize(AB a _ _).alloc _=V0 at *;generalize O (U a)=Q at *;obtain⟨rw,ar⟩:=CC<|FM m (D6 c.v k) ps.reverse ks ds (R.1+1,R.2);obtain⟨ns,bo⟩:=CC λi=>((ds.take i).map λae=>1+D3 k ae).sum;have cr:D<|KM m k V0 (Q+1) Cq Cq (rw 0).1.1 (rw 0).1.2:=by rw[<-AE ar];exact XN
 have en:D<|(rw 0).2=(R.1+1,R.2):=by rw[<-AE ar];rfl
 have cx:D<|N+1+ns (K ds)<=NE:=by have:=al.nd;have:=AE cv;rw[<-AE bo];show N+1+((ds.take<|K ds).map λae=>1+D3 k ae).sum<=NE;rw[LN];omega
 clear cl z z0 z1 z2 fd ep et
 go_loopg[11] (K ds) (λg fg V=>∃(i qn qc un uc:I) (qa ua:A4),fg=C Y i/\D (i+g=K ds)/\D (Hg c W #[C Y d,C Y n,.string s,G ka ki kj,G va (K ds) vj] Q (Cg d n s (G qa qn qc)<|G ua un uc) (rw i).2 (N+1+ns i) V)/\D (KM m k V (Q+1) (G qa qn qc) (G ua un uc) (rw i).1.1 (rw i).1.2)/\D (i=0->AX qa qn qc=Cq/\AX ua un uc=Cq))
 exact⟨0,0,0,0,0,Ao,Ao,Z,Bg,by rw[AE en,<-AE bo];exact c0,cr,λ_=>⟨Z,Z⟩⟩;clear c0 cr;obtain⟨i,qn,qc,un,uc,qa,ua,rfl,hg,HY,HK,HI⟩:=hrel;have c4:=Cc HY.z.e 4;obtain _|g:=gk
 .have ez:¬(i:J)<(K ds:J):=AY<|AE hg;have HE:D<|i=K ds:=by have:=AE hg;show _=_;omega
  go_wp2_with(first
   |((with_reducible refine CO rfl 101 (.tmp 10) rfl Q ?hx 101 (Cg d n s (G qa qn qc)<|G ua un uc) (0,0) _ ?hg underlying101 rfl ?hi ?_);(case hx=>exact rfl);(case hg=>exact HY.a);(case hi=>exact KI))
   |((with_reducible refine zT 6 156 rfl rfl (O (U W)+1) (Cg d n s (G qa qn qc)<|G ua un uc) ?_ ?_);exact⟨Z,Z,HY.z.b,thg⟩))
  have dc:=AE HK;have hY:=AE HY;rw[AE HE,<-AE ar]at dc hY;obtain⟨o1,o2⟩:=al.fo wr (O (U W)+2) (Q+1) _ _ (R.1+1,R.2) E (λh0=>HI.out<|by rw[AE HE,h0];rfl) dc;rw[<-o2]at hY;exact Vt (hY.z.set x b _) (AY<|AE cx) (λd' h=>by cases h;exact o1.same (λj w=>⟨E,by simpa using w.2⟩) λj w=>Do _ _ _ _ E) nofun
 have cj:i<K ds:=AY<|AE hg;have ez:(i:J)<(K ds:J):=E;have eq:=Cd HY.a;obtain⟨u,bj⟩:∃u,ds[i]?=H u:=⟨_,D7 cj⟩
 obtain⟨a0,dz,cg⟩:=dq i u bj;obtain⟨gb,rfl,db,dk⟩:=dj i a0 cj dz;obtain⟨d9,n',s',d8,ea,eb,ed,ee,ef,e⟩:=cg.ac;injection e with e;subst e;obtain⟨key,cp,dp⟩:∃key,D (QQ m ks i=(key,!m))/\(m=AQ->key=[]):=by cases m<;>exact⟨_,rfl,Ba⟩
 have ej:D (∀V,Ci c.P W V->V.heap[gb]?=W.heap[gb]?):=λV hV=>hV.block gb (hF gb db).1 (hF gb db).2;have be:D (∀V,Ci c.P W V->AC V ⟨gb,i*5,Ao⟩=H (C Y d9)/\AC V ⟨gb,i*5+1,Ao⟩=H (C Y n')/\AC V ⟨gb,i*5+2,Ao⟩=H (.string s')/\AC V ⟨gb,i*5+3,Ao⟩=H (G d8 ea eb)/\AC V ⟨gb,i*5+4,Ao⟩=H (G ed ee ef)):=λV hV=>have h:=dk V<|ej V hV;⟨h 0 B8,h 1 B8,h 2 B8,h 3 B8,h 4 B8⟩;have ei:D (∀(V:X) (bd:A4) (bu:I) (R':Cy) (N':I),Jy c R' N' V->Ci c.P W V->Gc V bd (ps++[(key,!m)])->(∀an off,bd=H ⟨an,off,Ao⟩->an≠c.P)->(bd=Ao->bu=0)->N'+D3 k u<=90000->Ar As 77 #[Ad<|H ⟨c.P,0,Ao⟩,Ag #[C Y d9,C Y n',.string s',G d8 ea eb,G ed ee ef],G bd (K ps+1) bu] V (Zm c k (D6 c.v k ((key,!m)::ps.reverse) u R') (N'+D3 k u) V)):=λV bd bu R' N' h1 L l h4 h5 h6=>by have:=ih V eg _ u bd _ bu R' N' h1 l h4 h5 (λj w=>⟨CQ (hF j w).1 L.size,(hF j w).2⟩) (cg.same (λ_ h=>h) λj w=>L.block j (hF j w).1 (hF j w).2) (CE (al.cb i u bj) eh) h6 B7;rw[SP,Dj]at this;exact this
 have bf:D<|ns (i+1)=ns i+1+D3 k u/\N+1+ns (i+1)<=90000:=by
  have h1:=AE cx;have L:=AE cw;have l:∀j,ns j<=ns (K ds):=λj=>by
   rw[<-AE bo];show((ds.take j).map _).sum<=((ds.take<|K ds).map _).sum;rw[LN]
   conv=>rhs;rw[<-ZK j ds,Kb,W7]
   omega
  have h4:=l<|i+1;refine⟨?_,E⟩;rw[<-AE bo];show((ds.take<|i+1).map _).sum=((ds.take i).map _).sum+1+D3 k u;rw[QY,bj,Kb,W7];simp;omega
 have fq:K ds<=90000:=by have h1:=al.nd;have L:=AE cv;have l:=AE cw;have h4:=Zl (D3 k) ds;omega
 have ct:D<|(rw i).1.2.length<=90000:=by have h:=q6W (m:=m) (f:=D6 c.v k) (p:=ps.reverse) (ks:=ks) (ds:=ds) (R:=(R.1+1,R.2)) i;rw[AE ar]at h;exact CE h E
 obtain⟨ec,HR⟩:=CC<|D6 c.v k ((key,!m)::ps.reverse) u (rw i).2;have ai:D<|rw (i+1)=Zo m (rw i) key ec:=by have h:=qzg (f:=D6 c.v k) (p:=ps.reverse) (R:=(R.1+1,R.2)) bj cp;rw[AE ar,AE HR]at h;exact h
 have em:=T λV hV=>HP.ai dx (w':=V) hV;have k7:=al.kd7;have av:D (∀row,Hg c W _ Q _ _ _<|Az wr<|M row 146):=λ_=>HY.a0 x b hQ<|(Cu _ _).alloc eq _;have di:∀row,O (U<|Az wr<|M row 146)=O (U wr)+1:=Ba;have d0:=Cc (av #[Ae ⟨#[]⟩,Ah AP]).z.e 0;clear dq dj dk cg dz bj hd dy;have cs:m=AP->∃gk,ka=H ⟨gk,0,Ao⟩/\ki=K ds/\∀V,Ci c.P W V->AC V ⟨gk,i,Ao⟩=H (Ae ⟨Aw key⟩):=λhm=>by subst hm;have ap:=al.len Z;obtain⟨fz,fj,e1,e2⟩:=Y3 (es:=ks.map λaa=>(.string aa,.nil)) (by simpa[NQ,Function.comp_def,ap]using al.q rfl);cases e1;obtain⟨gk,e3,e4,e5⟩:=e2 i key .nil (by have e:=AE cp;simp only[QQ,cond,Bool.not_true,LP,and_true]at e;simp[<-e,List.getD,ap,cj]);exact⟨gk,e3,by simpa using ap,λV hV=>e5 V<|hV.block gk (hF gk e4).1 (hF gk e4).2⟩
 obtain⟨r1,r2⟩:=ec;cases m
 case' false=>obtain rfl:=dp rfl
 case' true =>
  have cu:D<|(rw i).1.1.length<=90000:=by have h:=mo (f:=D6 c.v k) (p:=ps.reverse) (ks:=ks) (ds:=ds) (R:=(R.1+1,R.2)) i;rw[AE ar]at h;rw[h];exact ct
  obtain⟨gk,rfl,rfl,ci⟩:=cs rfl;have ek:=T ci;have y0:=ci _ (av #[Ae ⟨#[]⟩,Ah AP]).z.ai;have d3:=Cc (av #[Ae ⟨#[]⟩,Ah AP]).z.e 3;clear ci
 all_goals clear dp cs
 all_goals rcases r1 with _|d'
 rotate_left 2
 all_goals
  go_wp2_with(first
    |(at_builtin;refine apS (base:=O (U wr)+1) (Fi _ _ _ _) (em _ (av _).z.ai) e6 E (by rw[di];omega) ?_;intro v1 w1 o1 b1;rw[Gg,Ka]at o1;obtain⟨a1,c1,rfl⟩:=Vu o1;have c3:=T<|(av _).a0 x b hQ<|b1.mono E;have bl:=(b1.block (O<|U wr) E).trans<|Cj wr;have e0:=Cc bl 0;have e1:=Cc bl 1;have b4:=T o1;have fc:=b1.size;rw[di]at fc;have c7:D<|A0 wr w1:=((Cu _ _).alloc (Cr _) _).trans<|b1.mono E;clear o1 b1 bl av)
    |(at_builtin;(first|refine mr (key,AQ) b4 E E ?_|refine mr ([],AP) b4 E E ?_);intro v2 w2 o2 b2;have aw:=T<|c3.a0 x b hQ<|b2.mono E;obtain⟨fe,ff,rfl,dw,dt,du⟩:=q48 (ps:=ps++[_]) (by rw[Dj,lR];exact o2);rw[Dj];have cR:=ei.out w2 fe ff _ _ aw.z.d aw.z.ai dw (λan off e=>AY<|dt an off e) du<|AY<|AE bf;rw[AE HR]at cR;obtain⟨f0,f1,f2,f3,f4⟩:=be.out w2 aw.z.ai;have d4:=Cc aw.z.e 4;have fv:=b2.size;have bt:=T<|c7.out.trans<|b2.mono E;clear c7 o2 b2 b4 c3 dw dt du e0 e1)
    |(go_at_call 77;refine cR.mono ?_;clear cR;rintro e a ⟨bc,n3,s3,ay,az,a7,a8,ba,bb,rfl,d2,af,bk,_⟩;unfold Cg;have b8:=T<|aw.put x hQ d2 af;have fh:=T af;have co:=T bk;have bq:D<|Hg c W _ Q _ _ _<|Az a<|M #[C Y bc,C Y n3,.string s3,G ay az a7,G a8 ba bb] 101:=b8.a0 x b hQ<|(Cu _ _).alloc (Cd b8.a) _;have bz:D (∀j,Q+1<=j->j<O (U wr)->(Az a<|M #[C Y bc,C Y n3,.string s3,G ay az a7,G a8 ba bb] 101).heap[j]?=wr.heap[j]?):=λj h1 L=>(CB _ _ _<|CQ (CQ L bt.out.size) af.size).trans<|(af.block j (CQ L bt.out.size) E).trans<|bt.out.block j L;have fw:O (U wr)<=O (U a):=CE bt.out.size af.size;have g4:(Az a<|M #[C Y bc,C Y n3,.string s3,G ay az a7,G a8 ba bb] 101).cell? ⟨Q,4,Ao⟩=H (G ua un uc):=Cc bq.a 4;obtain⟨ys,dv,dm,dg⟩:=KM.ac<|HK.next (V':=Az a<|M #[C Y bc,C Y n3,.string s3,G ay az a7,G a8 ba bb] 101) B7 bz;have el:=T dv;have cq:=T dm;have cn:=T dg;clear dv dm dg d2 af bk aw b8 f0 f1 f2 f3 f4 d4)
    |(at_builtin;refine apK el (AY<|AE ct) B7 ?_ (hx:=by rw[CL];rfl);intro a6 c6 r o6 k6 b6 n6;have ca:=T<|bq.a0 x b hQ b6;have l4:=Cc ca.a 4;have ex:=Dy r Q 4 _ _ ca.a;have b5:=T o6;have b0:=T k6;have bn:=T n6;have ax:=T<|ca.set x b hQ 4<|G a6 ((rw i).1.2.length+1) c6;have q0:=Cc ax.z.e 0;have d1:=b6.size;clear o6 k6 n6 b6))
 .go_roundg g;exact⟨i+1,qn,qc,un,uc,qa,ua,Bb,B9,bq.up (by rw[AE ai];rfl)<|AY<|AE bf,by rw[AE ai];exact HK.next B7 bz,nofun⟩;omega
 .have HX:D<|KM AQ k (AB r ⟨Q,4,Ao⟩<|G a6 ((rw i).1.2.length+1) c6) (Q+1) (G qa qn qc) (G a6 ((rw i).1.2.length+1) c6) []<|(rw i).1.2++[d']:=by have ho:∀j,j≠Q->(AB r ⟨Q,4,Ao⟩<|G a6 ((rw i).1.2.length+1) c6).heap[j]?=r.heap[j]?:=λj w=>CY r _ _ _ keE;obtain⟨_,ck,_⟩:=KM.ac HK;refine cn _ _ _ [] d' (Cg bc n3 s3 (G ay az a7)<|G a8 ba bb) (O<|U w2) ⟨by simpa[World.setCell]using d1,λj h1 L l _=>(ho j E).trans<|b0 j L l,TR b5 λj h1 _=>ho j E,bn,(co d' Z).same (λj w=>⟨w.1,B0 w.2⟩) λj w=>CB _ _ _ w.2,Z,⟨E,λg e=>AY<|En ck e⟩,nofun,λ_=>HK.1.2⟩
  go_wp2;go_roundg g;exact⟨i+1,qn,qc,_,c6,qa,a6,Bb,B9,ax.up (by rw[AE ai];rfl)<|AY<|AE bf,by rw[AE ai];exact HX,nofun⟩;omega
 .go_roundg g;exact⟨i+1,qn,qc,un,uc,qa,ua,Bb,B9,bq.up (by rw[AE ai];rfl)<|AY<|AE bf,by rw[AE ai];exact HK.next B7 bz,nofun⟩;omega
 have fx:O (U a)+1<=O (U r):=by simpa using d1
 have ho:∀j,j≠Q->(AB r ⟨Q,4,Ao⟩<|G a6 ((rw i).1.2.length+1) c6).heap[j]?=r.heap[j]?:=λj w=>CY r _ _ _ keE;have cz:D<|O (U<|AB r ⟨Q,4,Ao⟩<|G a6 ((rw i).1.2.length+1) c6)=O (U r):=by simp[D,World.setCell]
 have cy:=T ho;have bk:=Dy (AB r ⟨Q,4,Ao⟩<|G a6 ((rw i).1.2.length+1) c6) Q 3 _ _ ax.a;clear ho q0 l4 ex g4;generalize AB r ⟨Q,4,Ao⟩ (G a6 ((rw i).1.2.length+1) c6)=w7 at *;have bi:(λB=>∃bg,Hg c W #[C Y d,C Y n,.string s,G (H ⟨gk,0,Ao⟩) (K ds) kj,G (H ⟨gb,0,Ao⟩) (K ds) vj] Q bg r2 (N+1+ns i+D3 k u) B) {w7 with drawn:=w7.drawn+1}:=⟨_,ax.a0 x b hQ (Cu _ _).drew⟩
 refine Dl (S:=λB=>∃bg,Hg c W #[C Y d,C Y n,.string s,G (H ⟨gk,0,Ao⟩) (K ds) kj,G (H ⟨gb,0,Ao⟩) (K ds) vj] Q bg r2 (N+1+ns i+D3 k u) B) bi B6 λt=>Cb 0 146 (Ad<|H ⟨Q,3,Ao⟩) t <| Cb 2 148 (Ad<|H ⟨O<|U W,3,Ao⟩) t <| Cb 4 150 (C Y i) t <| Ch 3 149 (G (H ⟨gk,0,Ao⟩) (K ds) kj) rfl (λB q=>by obtain⟨bg,q⟩:=q;have cm:=Cc q.z.e 3;go_simp) t <| Ch 5 151 (Ad<|H ⟨gk,i,Ao⟩) rfl (λB q=>Bh) t <| Ch 6 152 (Ae ⟨Aw key⟩) rfl (λB q=>by obtain⟨bg,q⟩:=q;have cm:=ek.out B q.z.ai;go_simp) t ?_;have cc:D<|Hg c W #[C Y d,C Y n,.string s,G (H ⟨gk,0,Ao⟩) (K ds) kj,G (H ⟨gb,0,Ao⟩) (K ds) vj] Q _ r2 (N+1+ns i+D3 k u) {w7 with drawn:=w7.drawn+1}:=ax.a0 x b hQ (Cu _ _).drew;have b7:D (∀j,j≠Q->({w7 with drawn:=w7.drawn+1}:X).heap[j]?=r.heap[j]?):=AE cy;have eo:D<|O (U ({w7 with drawn:=w7.drawn+1}:X))=O (U r):=AE cz;have fr:({w7 with drawn:=w7.drawn+1}:X).frozen? ⟨Q,3,Ao⟩=AQ:=bk;clear cy cz bk bi ax;generalize({w7 with drawn:=w7.drawn+1}:X)=w8 at *;have er:=Cd cc.a;have j3:AC w8 ⟨Q,3,Ao⟩=H (G qa qn qc):=Cc cc.a 3;have br:D<|Hg c W _ Q _ r2 (N+1+ns i+D3 k u)<|Az w8<|M #[Ae ⟨Aw key⟩] 9:=cc.a0 x b hQ<|(Cu _ _).alloc er _;have i3:(Az w8<|M #[Ae ⟨Aw key⟩] 9).cell? ⟨Q,3,Ao⟩=H (G qa qn qc):=Cc br.a 3;refine Hk 1 7 (λad A=>?_) λad A=>?_
 case' refine_1 =>
  go_simp;refine A.out _ _ t λ_=>?_;clear A;refine CH 7 λad A=>?_
 case' refine_2 =>
  go_simp;refine A.out _ _ ⟨_,br⟩ λ_=>?_;clear A;refine CH 1 λad A=>?_
 all_goals
  go_simp;refine A.out _ _ ⟨_,br⟩ λ_=>?_;clear A;refine CH 8 λad A=>?_;rw[Cp B6];have b3:D<|w8.ownsRow (Q+1) 9 1 (G qa qn qc) (rw i).1.1.length<|(rw i).1.1.map CX:=O0 (cq trivial).1 λj e h1 L=>(b7 j E).trans<|b0 j L λe2=>(cq trivial).2 j e e2.symm;obtain⟨si,e9,e7,bl,e8⟩:=DL Tryz.infoStr;refine RG Z underlying98 e9 e7 bl e8 Z B8 Z (b3.alloc _) 1 1 Z Z (EU) (λag hu=>by simp at hu;subst hu;rfl) B8 (B4<|AE cu) (AY<|AE cu) B7 ?_;intro v9 w9 o9 g9 h9;obtain⟨a9,c9,rfl⟩:=Vu o9;have b9:Below (Q+1) (Az w8<|M #[Ae ⟨Aw key⟩] 9) w9:=GX (Cu _ _) (b3.alloc _) g9 B7;have bp:=T<|br.a0 x b hQ b9;have ew:=Dy w9 Q 3 _ _ bp.a;have l3:=Cc bp.a 3;refine A.out _ _ ⟨_,bp⟩ λde=>?_;clear A;have c2:=T<|bp.set x b hQ 3<|G a9 ((rw i).1.1.length+1) c9;refine Cb 9 155 (Ad<|H ⟨Q,3,Ao⟩) de <| CH 10 λad A=>?_;go_simp;refine A.out _ _ ⟨_,c2⟩ λ_=>?_;clear A;refine CK ?_;go_simp;have HX:D<|KM AP k (AB w9 ⟨Q,3,Ao⟩<|G a9 ((rw i).1.1.length+1) c9) (Q+1) (G a9 ((rw i).1.1.length+1) c9) (G a6 ((rw i).1.2.length+1) c6) ((rw i).1.1++[key])<|(rw i).1.2++[d']:=by
   have hz:∀j,j≠Q->(AB w9 ⟨Q,3,Ao⟩<|G a9 ((rw i).1.1.length+1) c9).heap[j]?=w9.heap[j]?:=λj w=>CY w9 _ _ _ keE;obtain⟨_,ck,dr,_⟩:=KM.ac HK;have ap:∀g,Ax (AX qa qn qc)=H g->g<O (U wr):=λg e=>En (dr Z).1 e;have fb:∀g,Ax (AX ua un uc)=H g->g<O (U wr):=λg e=>En ck e;have fa:∀g,Ax (AX a6 ((rw i).1.2.length+1) c6)=H g->g<O (U r):=λg e=>En b5 e;have fy:O (U w8)+1<=O (U w9):=by simpa using b9.size
   have dn:∀j,j<O (U w8)->H j≠Ax (AX qa qn qc)->w9.heap[j]?=w8.heap[j]?:=λj w hn=>(g9.block j B7 hn).trans<|CB _ _ _ w;have h8:=AE eo;have dh:=(dr Z).2;refine cn _ _ _ key d' (Cg bc n3 s3 (G ay az a7)<|G a8 ba bb) (O<|U w2) ⟨by simp[World.setCell];omega,λj h1 L l h4=>?_,?_,bn,(co d' rfl).same (λj w=>⟨w.1,B0 w.2⟩) λj w=>CB _ _ _ w.2,rfl,⟨E,λg e=>AY<|fb g e⟩,λ_=>⟨?_,?_,λg e e2=>?_,λg e=>AY<|ap g e⟩,nofun⟩
   .have fn:j<O (U a)+1:=kfl;exact(hz j E).trans<|(dn j E<|h4 Z).trans<|(b7 j E).trans<|b0 j L l
   .refine O0 b5 λj e h1 L=>(hz j E).trans<|(dn j E λe2=>?_).trans<|b7 j E;rcases AE bn with e3|⟨g,e3,hg⟩
    .exact dh j e2.symm<|e3.symm.trans e
    have:=ap j e2.symm;rw[e]at e3;cases e3;simp at hg;omega
   .exact TR o9 λj h1 _=>hz j E
   .exact h9.imp id λe=>⟨_,e,B7⟩
   have h6:=fa g e2;rcases h9 with e3|e3
   .have h7:=ap g<|e3.symm.trans e;rcases AE bn with e4|⟨g',e4,hg⟩
    .exact dh g (e3.symm.trans e)<|e4.symm.trans e2
    rw[e2]at e4;cases e4;simp at hg;omega
   rw[e]at e3;cases e3;simp at h6;omega
  clear o9 g9 h9 b9 de t ew l3 b3;go_wp2;go_roundg g;exact⟨i+1,_,c9,_,c6,a9,a6,Bb,B9,c2.up (by rw[AE ai];rfl)<|AY<|AE bf,by rw[AE ai];exact HX,nofun⟩;omega
def mt{c:Rx}(ok:Nn c):∀k,Zn c k
 |0=>λ_ _ _ _ _ _ _ _ _ _ _ _ _ _ h=>h.elim
 |k+1=>qqB ok k<|mt ok k
theorem my(fm:J)(W:X):Ar As 55 #[C Y fm] W λe b=>e=Ak (C Am<|Er fm)/\b=W:=by
 by_cases h:fm=1
 .have c:(fm==1)=AP:=Bu;have a:Er fm=32:=kfL;rw[a];go_enter func55,ntmps55;go_wp2;go_ret;exact⟨Z,Z⟩
 have c:(fm==1)=AQ:=Bu;have a:Er fm=0:=kfL;rw[a];go_enter func55,ntmps55;go_wp2;go_ret;exact⟨Z,Z⟩
structure L3(V:Ap)(base g cap:AH)(cur:A1):Prop where
 d:base<=g
 ad:∃cs fr,V.heap[g]?=An (Aj cs 5 fr)/\cs.size=cap/\(∀j,j<cap->¬(fr.1<=j/\j<fr.2))/\cs.toList.take (At cur)=cur.map CP
 a:At cur<=cap
theorem L3.cells(h:L3 V base g cap cur):∀j u,(cur.map CP)[j]?=H u->A6 V g (0+j) u:=by obtain⟨cs,fr,a,b,c,d⟩:=h.ad;grind [Cc]
theorem apR(b:UInt8)(i:L3 w base g cap cur)(hl:K cur<=999999999)(hb:base<=O (U w))(h:∀m l k,L3 k base m l (cur++[b])->Below base w k->wpList As ops Q rest (a.put o.dst<|G (Aa m) (K cur+1) l) k)(S:o.guard=Ao:=by rfl)(u:o.op=.call {callee:=.builtin .append,args:=#[x,y],argTypes:=#[50,50]}:=by rfl)(hs:a.eval x=G (Aa g) (K cur) cap:=by rfl)(hx:a.eval y=G (Aa<|O<|U w) 1 1:=by rfl):wpList As ops Q (o::rest) a<|Az w<|M #[C Am b.toNat] 5:=by
 obtain⟨i0,V,aa,ab,ac⟩:=DL Tryz.infoU8;have r:L3 (Az w<|M #[C Am b.toNat] 5) base g cap cur:=by obtain⟨cs,fr,c,d⟩:=i.ad;exact⟨i.d,⟨cs,fr,Ca (CB _ _ _<|Cd c) c,d⟩,i.a⟩
 have s:Below base w<|Az w<|M #[C Am b.toNat] 5:=(Cu base w).alloc hb _;obtain⟨cs,fr,c,d,L,N⟩:=r.ad;refine wpList_append_arg _ S x y 50 u 5 i0 (C Am 0) 1 1 underlying50 V aa ab ac Z B8 g 0 (K cur) cap (cur.map CP) hs Ba r.cells ⟨O<|U w,0,Ao⟩ 1 1 [C Am b.toNat] hx Z (EU) (λaf t=>by simp at t;subst t;rfl) (λp j n=>?_) Bc E (λp=>?_) λp v' k q e=>?_
 .simp at n;subst n;constructor
  .rw[Cc c];simp[d];omega
  grind [World.frozen?]
 .have R:(Az w<|M #[C Am b.toNat] 5).setCells g (0+K cur*1) [C Am b.toNat]=(Az w<|M #[C Am b.toNat] 5).setCell ⟨g,K cur,Ao⟩ (C Am b.toNat):=by simp[World.setCells]
  rw[R];refine h g cap _ ⟨i.d,⟨Ay cs (K cur)<|C Am b.toNat,fr,Go.Lib.heap_setCell_same c _,keo,L,?_⟩,by simpa using p⟩<|Cs s ⟨Z,Z,Z,Bd,λj n=>CY _ _ _ _<|B0 i.d⟩;rw[Dj,Kb,<-N,R2];have W:K cur<K cs.toList:=by simp[d];omega
  rw[show K cur+[b].length=K cur+1 from rfl,QY,List.take_set_of_le<|Cr _,List.getElem?_set_self W];rfl
 obtain⟨m,l,rfl⟩:=ownsRow_succ q;obtain⟨h7,f⟩:=q;rcases f with⟨f,_⟩|⟨g2,ad,v,f,P,z,A,ae,B,F⟩
 .cases f
 cases f;refine h m l k ⟨CE hb<|CE Ba P,⟨v,_,z,by simpa using B,Ba,by simpa[CP]using F⟩,keH⟩<|Cs s ⟨e.os,e.tape,e.output,e.size,λj n=>e.block j B7 Ba⟩
theorem q4D(W:X){l:A1}:∃a V,(convert 9 50<|Ae ⟨Aw l⟩).run As W=.ok (G (Aa<|O<|U W) (K l) a) V/\A0 W V/\L3 V (O<|U W) (O<|U W) a l:=by
 have h:=run_bytes_of_string (P:=As) W 9 50 5 ⟨Aw l⟩ underlying9 underlying50 underlying5;have b:(⟨Aw l⟩:AT).size=K l:=K9 ..;have d:=grownCap_ge W (⟨Aw l⟩:AT).size 0 5;have c:(bytesRow ⟨Aw l⟩<|grownCap W (⟨Aw l⟩:AT).size 0 5).size=grownCap W (⟨Aw l⟩:AT).size 0 5:=by grind [bytesRow]
 refine⟨_,_,by rw[<-b];exact h,((Cu _ _).drew).alloc (Cr _) _,⟨Cr _,⟨_,_,Cj<|W.drew,c,λj e=>by rw[c];simp;omega,?_⟩,by rw[<-b];exact d⟩⟩;simp[bytesRow,CP]
def L3.ai(h:L3 V base g cap cur):(convert 50 9<|G (Aa g) (K cur) cap).run As V=.ok (Ae ⟨Aw cur⟩) V:=by refine R5 _ 50 9 5 ⟨g,0,Ao⟩ cap cur underlying50 underlying5 underlying9 ?_;intro j a;have:=h.cells j (CP cur[j]) kf3;rw[JB];exact this
theorem L3.next(h:L3 V base g cap cur)(c:A0 V V'):L3 V' base g cap cur:=by obtain⟨cs,fr,a,b⟩:=h.ad;exact⟨h.d,⟨cs,fr,Ca (Co c _<|Cd a) a,b⟩,h.a⟩
theorem qzR{B:AJ J}(h7:arr[7]?=H (C Y fm))(N:arr[10]?=H (G ba (K B) bc))(hB:G4 W ba B)(aw:K B<=8)(ak:∀aa (h:aa<K B),B[aa]<=65536)(hl:K bs<=999999999):Ar As 78 #[.agg arr,Ae ⟨Aw bs⟩] W λe W'=>e=Ak (Af #[Ae ⟨Aw<|(J0 fm bs B).getD []⟩,Ah (J0 fm bs B).isSome])/\A0 W W':=by
 have f:D<|Pv W arr<|Az W<|M arr 40:=⟨Cm,Cj _⟩
 have ab:=T h7;have y:=T N;have HI:=T hB;have HX:=T ak;have s:=Ca (Cc f.h 10) N;obtain⟨r,m⟩:=CC<|J0 fm bs B;rw[AE m];by_cases h0:K B=0
 .have d:D<|r=H bs:=by grind [D,J0]
  rw[h0]at s;go_enter func78,ntmps78;go_wp2;refine CS (FP results78 _ _ _) Z ?_;rw[AE d];exact⟨Z,f.ac⟩
 have d:D<|L2 fm bs B=r:=by grind [D,J0]
 have av:((K B:J)==0)=AQ:=B9;go_enter func78,ntmps78;go_wp2;generalize Az W (M arr 40)=V0 at *
 go_loopg[6] (K B) (λg z wr=>∃k:I,z=C Y k/\D (k+g=K B)/\wr=V0/\D (L2 fm bs (B.drop k)=r))
 grind [D];obtain⟨k,rfl,v,rfl,m⟩:=hrel;have s:=Ca (Cc f.h 10) y;obtain _|g:=gk
 .have ap:¬(k:J)<K B:=AY<|AE v;have d:D<|r=Ao:=by have h:=AE m;rw[R7<|AY<|AE v]at h;exact h.symm
  go_wp2;refine CS (FP results78 _ _ _) Z ?_;rw[AE d];exact⟨Z,f.ac⟩
 have w:k<K B:=AY<|AE v;have ap:(k:J)<K B:=E;have hx:=HX.out k w;obtain⟨b,off,rfl,aj,al⟩:=HI.aq k w;have A:D (∀V,A0 W V->A6 V b (off+k) (C Y B[k])):=λV hV=>Ca (hV.cell (p:=⟨b,off+k,Ao⟩) aj)<|al k w;have e0:=A.out _ f.ac;have af:D<|(if(K bs:J)<=B[k]then H (bs++AV (B[k].toNat-K bs) (_root_.UInt8.ofNat<|Er fm))else L2 fm bs (B.drop<|k+1))=r:=by grind [List.drop_eq_getElem_cons,L2]
 generalize B[k]=x at *;by_cases ax:(K bs:J)<=x
 .have d:D<|r=H (bs++AV (x.toNat-K bs) (_root_.UInt8.ofNat<|Er fm)):=B9;obtain⟨ah,V1,ao,Q,R⟩:=q4D wr (l:=bs);have j:=T R;have a:=T<|f.next Q;clear Q R;obtain⟨o,ad⟩:=CC<|_root_.UInt8.ofNat<|Er fm;have ae:D<|(Er fm:J)=(o.toNat:J):=by grind [D,mu]
  have L:=λV=>my fm V;rw[AE ae]at L;rw[AE ad]at d;have au:O (U W)<O (U wr):=Cd f.h;have ar:O (U wr)<=O (U V1):=by obtain⟨_,_,h,_⟩:=j.ad;grind
  go_wp2
  go_loopg[7] (x.toNat-K bs) (λg z V=>∃(n u t:I) (c:A1),z=G (Aa u) (K c) t/\D (n+g=x.toNat-K bs)/\D (c=bs++AV n o)/\D (L3 V (O<|U wr) u t c)/\D (Pv W arr V/\O (U wr)<=O (U V)))
  exact⟨0,_,ah,bs,Z,Bg,BR,j,a,ar⟩;clear j a ao;obtain⟨n,u,t,c,rfl,S,an,j,a⟩:=hrel;have i:K c=K bs+n:=by rw[AE an];simp
  have s:=Ca (Cc a.1.h 10) y;have c7:=Ca (Cc a.1.h 7) ab;have e1:=A.out _ a.1.ac;obtain _|g2:=gk
  .have aq:¬(K c:J)<x:=AY<|AE S;have ay:=j.ai;have ac:D<|r=H c:=by grind [D]
   clear i;go_wp2;refine CS (FP results78 _ _ _) Z ?_;rw[AE ac];exact⟨Z,a.1.ac⟩
  have aq:(K c:J)<x:=AY<|AE S;have am:K c<=999999999:=E;clear i
  go_wp2_with(first
   |(go_at_call 55;refine Ce (L _) ?_;rintro e w2 ⟨rfl,rfl⟩)
   |(at_builtin;refine apR o j am a.2 ?_;intro g3 ai w3 P F;have ag:=T P;have q:=T F;clear P F))
  go_roundg g2
  .refine⟨n+1,g3,ai,c++[o],B9,B9,?_,ag,⟨a.1.ac.trans<|CG q E,Ca (Co q _ au) a.1.h⟩,CE a.2 q.size⟩;grind [D,List.replicate_succ']
  omega
 have d:D<|L2 fm bs (B.drop<|k+1)=r:=B9;clear m af;go_wp2;go_roundg g;exact⟨k+1,Bb,B9,Z,d⟩;omega
theorem qtO(W:X)(fm:J)(bs:A1):Ar As 24 #[C Y fm,Ae ⟨Aw bs⟩] W λe W'=>e=Ak (Af #[Ae ⟨(L1 fm bs).1.toArray⟩,C Y (L1 fm bs).2])/\A0 W W':=by
 have ay:=NJ bs;have N:=T<|dY fm bs 16 (K bs) B8;obtain⟨R,b⟩:=CC<|L1 fm bs;have a:=AE b;unfold L1 at a;unfold JK at a N;rw[AE b];clear b;go_enter func24,ntmps24
 go_wp2_with fail
 refine(UP fm).mono ?_;rintro e w1 ⟨rfl,h1⟩;subst h1;cases f:DU fm
 .rw[f,Cl Ba]at a;subst a;go_wp2
  go_ret2
  exact⟨Z,Cu _ _⟩
 by_cases y:K bs<=65536
 rotate_left
 .rw[Cl λhh=>y hh.2]at a;subst a;have am:(65536:J)<K bs:=E;go_wp2
  go_ret2
  exact⟨Z,Cu _ _⟩
 rw[Cp ⟨f,y⟩]at a;have am:¬(65536:J)<K bs:=E;have cT:=λV=>gC V (bs:=bs) (fm:=fm) (d:=16) (l:=(K bs:J)+1) (lim:=K bs) (i:=0) (by grind [DU]) (λaz hp=>E) E E B8 B8 ⟨Ex _,E⟩;generalize Ev fm bs 16 (K bs) 0=th at *;have h:D (∀V,Ar As 54 #[Ag #[Ae ⟨Aw bs⟩,C Y fm,C Y 16,C Y<|(K bs:J)+1],C Y 0] V<|Fc 17 bs (K bs:J) V th):=cT;clear cT f y
 go_wp2_with(first
  |((with_reducible refine D8 rfl 115 (.tmp 6) (.tmp 24) rfl (O<|U w1) (Ct bs fm 16<|(K bs:J)+1) ?hx ?hy 115 (Ct [] 0 0 0) ?hg ?hi ?hs ?h1 ?_);(case hx=>exact rfl);(case hy=>exact rfl);(case hg=>exact Cj w1);(case hi=>exact Tz);(case hs=>exact gD);(case h1=>exact gE);refine FA ?_;intro V0 A;have L:=T<|A▸Dq Cm (Cr _);have r:=T<|A▸CR _ _ _ _ _ _ (Cj w1);clear A;have c0:=Cc r 0;have c1:=Cc r 1;have c2:=Cc r 2;have c3:=Cc r 3;unfold Ct at c0 c1 c2 c3)
  |fail)
 refine(h _).mono ?_;clear c0 c1 c2 c3;rintro e j ae;obtain⟨aa,r',kk,nn,s,a1,i1,j1,b1,p1,m1,af,F,ac,rfl,p,hF⟩:=MN ae;obtain rfl:r'=th:=by
  rcases ac with z|⟨a0,_,h2,h3,_⟩
  .exact z.symm
  omega
 have u:=T<|L.trans<|aa.mono L.size;clear ac aa ae h L r;simp only[];obtain ak|ao:=r'
 .obtain rfl:=hF ak rfl;simp only[]at a;subst a;have aw:(F.1==0)=AQ:=B2<|N.out F.1 F.2 Z;clear p hF
  go_wp2_with(first
   |((with_reducible refine zT 7 28 rfl rfl (O<|U j) (Cg kk nn s (G a1 i1 j1)<|G b1 p1 m1) ?_ ?_);exact⟨Z,Z,(Gu j).1,thg⟩)
   |((with_reducible refine zF 9 30 rfl rfl (O (U j)+1) F ?_ ?_);exact⟨Z,Z,sx E (Gu j).2⟩;refine FA ?_;intro P m;have v:=T<|u.trans<|(m▸Lw).mono u.size;have w:=T<|m▸MR;clear m;have u0:A6 P (O (U j)+1) 0<|C Y F.1:=Cc w 0))
  go_ret2
  exact⟨Z,v⟩
 obtain⟨dd,n⟩:=ao;obtain⟨ad,rfl,rfl,_⟩:=p dd n rfl;have an:=ad.1;have b:D<|(if(bs.drop n).all (λc=>c.toNat==Er fm)=AP then(bs.take n,0)else([],9))=R:=a;clear p hF ad a N
 go_wp2_with(first
  |((with_reducible refine zT 7 28 rfl rfl (O<|U j) (Cg kk nn s (G a1 i1 j1)<|G b1 p1 m1) ?_ ?_);exact⟨Z,Z,(Gu j).1,thg⟩)
  |((with_reducible refine zF 9 30 rfl rfl (O (U j)+1) (0,0) ?_ ?_);exact⟨Z,Z,sx E (Gu j).2⟩;refine FA ?_;intro P m;have v:=T<|u.trans<|(m▸Lw).mono u.size;have w:=T<|m▸MR;clear m;have u0:A6 P (O (U j)+1) 0<|C Y 0:=Cc w 0))
 go_loopg[10] (K bs+1-n) (λal af wr=>∃k:I,af=C Y k/\D (K bs+1<=k+al)/\D (A0 w1 wr)/\D (k<=K bs)/\D ((if(bs.drop k).all (λc=>c.toNat==Er fm)=AP then(bs.take n,0)else([],9))=R))
 exact⟨n,Z,Bp,v,an,b⟩;clear b v w u0;obtain⟨o,rfl,hg,B,ai,b⟩:=hrel;have au:=AE ai;by_cases hk:o=K bs
 .have aq:¬(o:J)<(K bs:J):=E;have HE:D<|(bs.take n,0)=R:=by grind [D]
  have ax:(n:J)<=(K bs:J):=E;have ah:D<|(⟨Aw bs⟩:AT).extract 0 n=⟨Aw<|bs.take n⟩:=by have z:=Xu bs 0 n;simp_all[DB,D]
  obtain rfl:=AE HE;clear b hg hk;go_wp2
  go_ret2
  exact⟨by simp only[AE ah];rfl,B⟩
 have g:o<K bs:=E;have av:(o:J)<(K bs:J):=E;obtain⟨c,q⟩:∃c,bs[o]?=H c:=⟨_,D7 g⟩
 have ar:=λV=>Et q V;have x:=AE b;rw[K7 g,(Nu.1 q).2,We]at x;obtain⟨Q,ag⟩:=CC<|(c.toNat:J) != (Er fm:J);have ab:(c.toNat==Er fm) = !Q:=by grind [D]
 rw[ab]at x;clear ab b q
 go_wp2_with fail
 refine Dl (S:=λ_=>True) trivial B6 λt=>Cb 0 41 (Ae ⟨Aw bs⟩) t <| Cb 1 42 (C Y (o:J)) t <| Ch 2 43 (C Am c.toNat) Z (λaj hZ=>Bh) t <| Cb 3 44 (C Y fm) t <| CH 4 λap hK=>?_;go_simp;refine(my fm _).mono ?_;rintro e w9 ⟨rfl,rfl⟩;simp only[];refine hK.out _ _ trivial λ_=>?_;clear hK;refine Ch 5 46 (Ah Q) Z (λaj hZ=>by go_simp;rw[AE ag]) t <| CK ?_;go_simp;cases Q
 .go_wp2;go_roundg (gk-1);exact⟨o+1,Bb,by show _<=_;have:=AE hg;omega,B.drew,g,x⟩;have:=AE hg;omega
 obtain rfl:([],9)=R:=by simpa using x
 go_wp2
 go_ret2
 exact⟨Z,B.drew⟩
def K4(fin fout d l:AI)(bs:A1):A1×AI×AI :=
 if EJ fin fout d l=AP then(match DE fin bs d l with
  |.error f=>([],f.1,f.2)
  |.ok dd=>if fout=1/\F7 (d.toNat+1) dd=AP then([],13,0)else(Fs fout (d.toNat+1) dd,0,0))
 else([],7,0)
theorem Zu{fin d:J}(h:EJ fin fout d l=AP):(fin=1\/fin=2\/fin=3)/\(fout=1\/fout=2\/fout=3)/\1<=d/\d<=16/\1<=l/\l<=4096:=by grind [EJ,DU]
def Zv(W:X){fin d:J}(hb:K bs<=200000000)(f:EJ fin fout d l=AP){dd:A2}(h:DE fin bs d l=.ok dd)(k:I):DJ k dd<=1638400/\F8 k dd:=by obtain⟨b,_,i,j,m,n⟩:=Zu f;have a:=SB W d l b E E E E hb;rw[h]at a;have o:=Xb a λe p g=>g.2.2;have c:=Qz E h k;exact⟨E,c.2⟩
def q2B(W:X)(fin a d l:J)(hb:K bs<=200000000):(K4 fin a d l bs).1.length<=200000000:=by
 unfold K4;split
 .next hL =>
  split
  .simp
  next dd h =>
  have b:=Zv W hb hL h<|d.toNat+1;split
  .simp
  have:=Sz (fm:=a) b.2;show(Fs a (d.toNat+1) dd).length<=_;omega
 simp
def qub(fin b d l:J){a:A4}(cap:I)(h:E2 W a bs)(ht:Jl W)(hT:Jr (O<|U W) W)(hb:K bs<=200000000):Ar As 19 #[C Y fin,C Y b,C Y d,C Y l,Ac a (K bs) cap] W<|Vl W (K4 fin b d l bs).1 (K4 fin b d l bs).2.1 λaj=>Af #[aj,C Y (K4 fin b d l bs).2.1,C Y (K4 fin b d l bs).2.2]:=by
 have o:=T<|q53 W fin d l<|Ac a (K bs) cap;have n:=T<|qwv W fin d l<|Ac a (K bs) cap;have t:=T<|h.ac n;have R:=T<|ht.ac n;have ae:=T hT;have f:=T λ(i:A2) (m:EJ fin b d l=AP) (N:DE fin bs d l=.ok i)=>Zv W hb m N<|d.toNat+1;have y:Go.RowKit.Hid (0<=d->∀p S,DE fin bs d l=.error (p,S)->p≠0):=P5 fin bs d l;obtain⟨ak,z⟩:=CC<|K4 fin b d l bs;have c:=AE z;unfold K4 at c;rw[AE z];have am:∀(fn:Fn) (first cap:A3) (w:X),(Instr.makeFunc fn first cap).run As w=.ok (.func fn first cap) w:=λ_ _ _ _=>rfl;have c0:=o.b0.cell;have c1:=o.b1.cell;have c2:=o.b2.cell;unfold SD at *;clear h ht hT z;go_enter func19,ntmps19
 go_wp2_with fail
 refine Ce (kG fin b d l _) ?_;rintro e w2 ⟨rfl,rfl⟩;generalize Az (Az (Az (Az W _) _) _) _=V at *;cases m:EJ fin b d l
 .rw[m,Cl B8]at c;subst c;go_wp2
  go_ret3
  exact PA n
 rw[m,Cp rfl]at c;obtain⟨ac,L,h3,h4,_⟩:=Zu m;have r:A0 V<|Az (Az V<|M #[C Y 0] 54)<|M #[C Y 0] 3:=(Cm).alloc Ba _;have v:=qtw (d.toNat+1) (W:=V) _<|qoy (o.ac r)<|dP ac (t.ac r) (R.ac r) E E hb;have u:=y.out E;have P:=λi=>f.out i m;clear r ac h3 h4 t R f y m
 go_wp2_with fail
 refine Ce v ?_;clear v;rintro e w3 ⟨j,aa⟩;have g:=T<|Cs n<|CG j n.size;generalize DE fin bs d l=D at *;clear j n c0 c1 c2 o;obtain af|i:=D
 .obtain⟨p,S⟩:=af;obtain rfl:=aa;simp only[]at c;subst c;have ab:=u p S Z;have hq:(p==0)=AQ:=by simpa using ab
  clear u ab;go_wp2
  go_ret3
  exact PA g
 obtain⟨an,ao,rfl,F⟩:=aa;obtain⟨hs,Q⟩:=P i rfl;have x:=mH (k:=d.toNat+1) (d:=i) L<|AY<|Sz (fm:=b) Q;have s:=F.same (G:=λad=>ad<O (U w3)) (λad hj=>hj.2) λ_ _=>rfl;simp only[]at c;by_cases q:b=1/\F7 (d.toNat+1) i=AP
 .rw[Cp q]at c;subst c;obtain⟨rfl,N⟩:=q;have A:=x.f N _ _ _ s;clear hs Q u P F s x L
  go_wp2_with(first
   |(go_at_call 44;refine Ce A ?_;rintro e w5 ⟨rfl,B⟩))
  go_ret3
  exact PA<|Cs g<|CG B g.size
 rw[Cl q]at c;subst c;have A:=x.ok _ _ _ s (λal hU w' ai=>ae.out w'<|Cs (Cs g<|CG hU g.size)<|CG ai<|CE g.size hU.size) q;clear hs Q u P F s x L q
 go_wp2_with(first
  |(go_at_call 44;refine Ce A ?_;rintro e w5 ⟨v5,rfl,h5,B⟩;obtain⟨ag,ah,a5,n5,k5,rfl⟩:=h5))
 go_ret3
 exact lW (Cs g<|CG B g.size)<|Cn.mono ⟨ag,ah,_,_,_,Z⟩ g.size
theorem qtD(W:X)(fin b d l:J)(hb:K bs<=200000000):Ar As 20 #[C Y fin,C Y b,C Y d,C Y l,Ae ⟨Aw bs⟩] W λe z=>e=Ak (Af #[Ae ⟨(K4 fin b d l bs).1.toArray⟩,C Y (K4 fin b d l bs).2.1,C Y (K4 fin b d l bs).2.2])/\A0 W z:=by
 have c:∀V f,Ar As 45 #[C Y f] V λe z=>e=Ak (Ah<|DU f)/\V=z:=λV f=>(UP f).mono λe z h=>⟨h.1,h.2.symm⟩
 obtain⟨aj,k⟩:=CC<|K4 fin b d l bs;have o:=AE k;unfold K4 at o;rw[AE k];clear k;have q:=λV=>c V fin;have c2:=λV=>c V b;clear c;have hc:(EJ fin b d l=AQ/\(DU fin=AQ\/(DU fin=AP/\DU b=AQ)\/(DU fin=AP/\DU b=AP/\d<1)\/(DU fin=AP/\DU b=AP/\¬d<1/\16<d)\/(DU fin=AP/\DU b=AP/\¬d<1/\¬16<d/\l<1)\/(DU fin=AP/\DU b=AP/\¬d<1/\¬16<d/\¬l<1/\4096<l)))\/(EJ fin b d l=AP/\DU fin=AP/\DU b=AP/\¬d<1/\¬16<d/\¬l<1/\¬4096<l):=by grind [EJ]
 rcases hc with⟨r,g|⟨g,m⟩|⟨g,m,v⟩|⟨g,m,v,B⟩|⟨g,m,v,B,h5⟩|⟨g,m,v,B,h5,h6⟩⟩|⟨r,g,m,v,B,h5,h6⟩
 iterate 6
  rw[r,Cl B8]at o;subst o;rw[g]at q
  try rw[m]at c2
  go_enter func20,ntmps20
  go_wp2_with(first
   |(go_at_call 45;refine(q _).mono ?_;clear q;rintro e w1 ⟨rfl,rfl⟩)
   |(go_at_call 45;refine(c2 _).mono ?_;clear c2;rintro e w1 ⟨rfl,rfl⟩))
  go_ret3
  exact⟨Z,CT⟩
 rw[r,Cp rfl]at o;rw[g]at q;rw[m]at c2;obtain⟨ad,ae,_⟩:=Zu r;have R:=T ae;have Q:=T<|SB W d l ad E E E E hb;have P:Go.RowKit.Hid (∀en pl,DE fin bs d l=.error (en,pl)->en≠0):=P5 fin bs d l E;have y:=T λ(A:A2) (hh:DE fin bs d l=.ok A)=>Zv W hb r hh<|d.toNat+1;obtain⟨ai,HK⟩:=CC<|d.toNat+1;rw[AE HK]at Q o y;have n:=T o;clear g m hb ad o HK r ae;generalize DE fin bs d l=D at *;go_enter func20,ntmps20
 go_wp2_with(first
  |(go_at_call 45;refine(q _).mono ?_;clear q;rintro e w1 ⟨rfl,rfl⟩)
  |(go_at_call 45;refine(c2 _).mono ?_;clear c2;rintro e w1 ⟨rfl,rfl⟩))
 refine Q.mono ?_;clear Q v B h5 h6;rintro e a ⟨ab,N⟩;have w:=T ab;clear ab;obtain f|A:=D
 .obtain rfl:=N;have ak:(f.1==0)=AQ:=by simpa using P.out f.1 f.2 Z
  obtain rfl:=AE n;clear P n R y;simp only[]
  go_wp2_with(first
   |((with_reducible refine zT 13 47 rfl rfl (O<|U a) Cv ?_ ?_);exact⟨Z,Z,(Gu a).1,thg⟩)
   |((with_reducible refine zF 14 48 rfl rfl (O (U a)+1) f ?_ ?_);exact⟨Z,Z,sx E (Gu a).2⟩;refine FA ?_;intro V5 i;have t:=T<|i▸Lw;have x:=T<|i▸MR;clear i;have u0:A6 V5 (O (U a)+1) 0<|C Y f.1:=Cc x 0))
  refine Dl (S:=λu=>A7 u (O (U a)+1) (Cf f) 103) x B6 λp=>Cb 0 52 (A8<|O (U a)+1) p <| Ch 1 53 (C Y f.1) Z (λu hZ=>by have hz:A6 u (O (U a)+1) 0<|C Y f.1:=Cc hZ 0;go_simp) p ?_;refine Cb 2 54 (A9 (O (U a)+1) 1) p <| Ch 3 55 (C Y f.2) Z (λu hZ=>by have hz:A6 u (O (U a)+1) 1<|C Y f.2:=Cc hZ 1;go_simp) p ?_;refine Cb 4 10 (Ae ⟨#[]⟩) p <| Cb 5 11 (C Y f.1) p <| Cb 6 12 (C Y f.2) p <| CK ?_;go_simp;go_wp2
  go_ret3
  exact⟨Z,w.trans<|t.drew.mono w.size⟩
 obtain⟨⟨kd,af,s,a1,i1,j1,b1,p1,m1,rfl,hA⟩,_⟩:=N;obtain⟨N,hv⟩:=y.out A rfl;have ag:=T λV (hV:A0 a V)=>lF (F:=λj=>O (U W)<=j/\j<O (U a)) R (λj hj=>CQ hj.2 hV.size) (hA.same (λ_ h=>h) λj hj=>hV.block j hj.2) hv E;clear hA N hv P R y
 go_wp2_with(first
  |((with_reducible refine zT 13 47 rfl rfl (O<|U a) (Cg kd af s (G a1 i1 j1)<|G b1 p1 m1) ?_ ?_);exact⟨Z,Z,(Gu a).1,thg⟩)
  |((with_reducible refine zF 14 48 rfl rfl (O (U a)+1) (0,0) ?_ ?_);exact⟨Z,Z,sx E (Gu a).2⟩;refine FA ?_;intro V5 i;have t:=T<|i▸Lw;have x:=T<|i▸MR;have ah:=T<|i▸RV;clear i;have u0:A6 V5 (O (U a)+1) 0<|C Y 0:=Cc x 0)
  |((with_reducible refine CO rfl 101 (.tmp 13) rfl (O<|U a) ?hx 101 (Cg kd af s (G a1 i1 j1)<|G b1 p1 m1) (0,0) _ ?hg underlying101 rfl ?hi ?_);(case hx=>exact rfl);(case hg=>exact ah);(case hi=>exact NM))
  |fail)
 refine(ag _ t).mono ?_;rintro e w6 ⟨rfl,ac⟩;have aa:=T<|w.trans<|(t.trans<|ac.mono t.size).mono w.size;clear u0 ac;have L:=AE n;cases hx:(_root_.Decidable.decide (b=1)&&F7 ai A)
 .rw[Cl B9]at L;subst L;go_wp2
  go_ret3
  exact⟨Z,aa⟩
 rw[Cp B9]at L;subst L;go_wp2
 go_ret3
 exact⟨Z,aa⟩
def DP(arr:A3)(all:A1)(cl:AK):A3:=arr++#[Ae ⟨Aw all⟩,Ah cl]
def PF(a:arr.size=11)(j:I):(DP arr all cl)[11+j]?=#[Value.string ⟨Aw all⟩,Ah cl][j]?:=by unfold DP;rw[Nv E,a,show 11+j-11=j by omega]
def Np(h:arr[j]?=H u):(DP arr all cl)[j]?=H u:=by unfold DP;rw[ZU<|Cd h,h]
def q4W(a:arr.size=11)(l:A1):Ay (DP arr all cl) 11 (Ae ⟨Aw l⟩)=DP arr l cl:=by unfold DP;apply PS;have h:K arr.toList=11:=Bl;rw[R2,R9,ZR _ _ E,h,R9];rfl
def mK{P:Program}{listed:Array AK}{S:X->Prop}{p q:Oper}(i j l:I)(h:(∀b:Act->X->Prop,Shut (∀a w,S w->(S w->wpAnyH P md ops Q S fuel (Ay listed i AP) a w)->b a w)->if Region.wanted o (yielded ops a.tmps)=AP then Oper.wp P o a w b Q else b (a.put o.dst AO) w))(k:(∀b:Act->X->Prop,Shut (∀a w,S w->(S w->wpAnyH P md ops Q S fuel (Ay listed j AP) a w)->b a w)->if Region.wanted p (yielded ops a.tmps)=AP then Oper.wp P p a w b Q else b (a.put p.dst AO) w))(m:(∀b:Act->X->Prop,Shut (∀a w,S w->(S w->wpAnyH P md ops Q S fuel (Ay listed l AP) a w)->b a w)->if Region.wanted q (yielded ops a.tmps)=AP then Oper.wp P q a w b Q else b (a.put q.dst AO) w))(hi:ops[i]?=H o:=by rfl)(c:ops[j]?=H p:=by rfl)(hl:ops[l]?=H q:=by rfl)(d:Region.ready md ops listed=[i,j,l]:=by kernel_rfl):wpAnyH P md ops Q S (fuel+1) listed a w:=T0 d Ba<|OG hi h<|OG c k<|OG hl m SV
def Zw{β:Type}{P:Program}{S:X->Prop}{listed:Array AK}(L:Array AK)(b:I)(c:β->AJ (I×Aq))(T:β->Prop)(d:β->X)(e:(∀x,T x->wpAnyH P md ops Q S b L ((c x).foldl (λa p=>a.put (H p.1) p.2) a) (d x))->wpAnyH P md ops Q S fuel listed a w)(f:∀x,T x->wpAnyH P md ops Q S b L ((c x).foldl (λa p=>a.put (H p.1) p.2) a) (d x)):wpAnyH P md ops Q S fuel listed a w:=e f
def Vv(D:AS (AI×AI)<|AM Unit)(n:AH):AI:=match D with
 |.error f=>if f.2<(n:AI)then f.1 else 0
 |.ok _=>0
def PG(k:AH)(bs:A1)(l:AI)(D:AS (AI×AI)<|AM Unit)(X:AH->Prop)(T:A3)(F:AI×AI)(V:Ap):Prop :=
 (∃kd n s a i j b p m,T=Cg kd n s (Ac a i j) (Ac b p m))/\match D with
 |.ok dd=>F=(0,0)/\CV k V X (.agg T) dd/\(At bs:AI)<=l
 |.error f=>F=f
def Ml{D:AS (J×J)<|AM Unit}{e:Ending}(h:lE k bs l W D e W'):∃c F,e=Ak (Af #[.agg c,.agg<|Cf F])/\A0 W W'/\PG k bs l D (λj=>O (U W)<=j/\j<O (U W')) c F W':=by
 obtain⟨d,h⟩:=h;obtain f|r:=D
 .exact⟨_,f,h,d,⟨_,_,_,_,_,_,_,_,_,Z⟩,Z⟩
 obtain⟨⟨t,n,s,a,i,j,b,p,m,g,o⟩,q⟩:=h;exact⟨_,(0,0),g,d,⟨_,_,_,_,_,_,_,_,_,Z⟩,Z,o,q⟩
theorem PG.same{D:AS (J×J)<|AM Unit}{X Y:I->Prop}{T:A3}{V V':Ap}(h:PG k bs l D X T F V)(b:∀j,X j->Y j)(c:∀j,X j->V'.heap[j]?=V.heap[j]?):PG k bs l D Y T F V':=by
 obtain⟨d,a⟩:=h;refine⟨d,?_⟩;obtain f|e:=D
 .exact a
 exact⟨a.1,a.2.1.same b c,a.2.2⟩
structure Zx(V1:Ap)(k:AH)(bs:A1)(l:AI)(D:AS (AI×AI) (AM Unit))(x:AH×AH×A3×(AI×AI)×Ap):Prop where
 g:x.2.2.2.2.heap[x.1]?=An (Aj Cv 101)
 h:x.2.2.2.2.heap[x.2.1]?=An (Aj (Cf (0,0)) 103)
 ne:x.1≠x.2.1
 d:Au (Av V1)<=x.1/\Au (Av V1)<=x.2.1
 ac:A0 V1 x.2.2.2.2
 a:PG k bs l D (λj=>Au (Av V1)<=j/\j<Au (Av x.2.2.2.2)/\j≠x.1/\j≠x.2.1) x.2.2.1 x.2.2.2.1 x.2.2.2.2
def L4{V1 wc wd:X}{D:AS (J×J)<|AM Unit}{T:A3}{ba bb:I}(g:PG k bs l D (λj=>O (U wc)<=j/\j<O (U wd)) T F wd)(a:A0 V1 wc)(e:A0 wc wd)(c:A0 wd V)(f:A7 V ba Cv 101)(hb:A7 V bb (Cf (0,0)) 103)(d:O (U V1)<=ba/\O (U V1)<=bb/\ba≠bb/\(ba<O (U wc)\/O (U wd)<=ba)/\(bb<O (U wc)\/O (U wd)<=bb)):Zx V1 k bs l D (ba,bb,T,F,V) :=
 ⟨f,hb,d.2.2.1,⟨d.1,d.2.1⟩,a.trans<|(e.mono a.size).trans<|c.mono<|CE a.size e.size,g.same (λj b=>⟨CE a.size b.1,CQ b.2 c.size,by show j≠ba;omega,by show j≠bb;omega⟩) λj b=>c.block j b.2⟩
def On(w:Ap)(X a:Obj):(Az (Az w X) a).heap[O<|U w]?=H X/\(Az (Az w X) a).heap[O (U w)+1]?=H a/\A0 w (Az (Az w X) a)/\O (U<|Az (Az w X) a)=O (U w)+2 :=
 ⟨(CB _ _ _ Ba).trans<|Cj _,B2<|Cj (Az w X) (o:=a),Cm.trans<|Cm.mono Ba,Ba⟩
theorem qwH{G:I}{b:A1}{d:J}(hs:arr.size=11)(h6:arr[6]?=H (C Y fm))(h8:arr[8]?=H (C Y d))(h9:arr[9]?=H (C Y l))(q:A7 W G (DP arr all AQ) 72)(ay:fm=1\/fm=2\/fm=3)(ap:0<=d)(ax:d<=100000)(az:0<=l)(a0:l<=200000000)(hb:K (all++b)<=200000000):Ar As 37 #[A8 G,Ae ⟨Aw b⟩] W λe W'=>e=Ak (C Y<|Vv (DE fm (all++b) d l)<|K<|all++b)/\Ci G W W'/\A7 W' G (DP arr (all++b) AQ) 72:=by
 have bd:A6 W G 12<|Ah AQ:=(Cc q 12).trans<|PF hs 1;have bc:A6 W G 11<|Ae ⟨Aw all⟩:=(Cc q 11).trans<|PF hs 0;have a6:=Dy W G 11 _ _ q;have a8:¬(K all+K b>9223372036854775807):=by simp at hb;omega
 have HV:D<|(AB W ⟨G,11,Ao⟩<|.string<|⟨Aw all⟩++⟨Aw b⟩).heap[G]?=H (M (DP arr (all++b) AQ) 72):=by show _=_;rw[DX _ _ _ _ _ _ q,EX,q4W hs]
 have HB:D<|Ci G W<|AB W ⟨G,11,Ao⟩<|.string<|⟨Aw all⟩++⟨Aw b⟩:=⟨Z,Z,Z,Bd,λa9 _ hi=>CY W _ _ _ kf4⟩
 have B:=T λV=>SB V d l (bs:=all++b) ay ap ax az a0 hb;obtain⟨ad,HD⟩:=CC<|DE fm (all++b) d l;rw[AE HD]at B ⊢;obtain⟨a4,HK⟩:=CC<|d.toNat+1;rw[AE HK]at B;obtain⟨en,aj⟩:=CC<|Vv ad<|K<|all++b;rw[AE aj];clear q;go_enter func37,ntmps37;go_wp2;generalize AB W _ _=V1 at *;have au:D (∀V,A0 V1 V->A7 V G (DP arr (all++b) AQ) 72):=λV hV=>(hV.block G<|Cd HV).trans HV;have H6:=T h6;have H8:=T h8;have H9:=T h9;have am:=T hs;clear h6 h8 h9 hs;refine Dl (S:=λo=>A7 o G (DP arr (all++b) AQ) 72) HV B6 λa=>Cb 0 21 (A8 G) a <| Cb 1 22 (A8 G) a <| Cb 2 23 (A8 G) a <| Cb 3 24 (A9 G 6) a <| Ch 4 25 (C Y fm) Z (λo r=>by have z:o.cell? ⟨G,6,Ao⟩=_:=(Cc r 6).trans<|Np H6;go_simp) a ?_;refine Cb 5 26 (A8 G) a <| Cb 6 27 (A8 G) a <| Cb 7 28 (A8 G) a <| Cb 8 29 (A9 G 8) a <| Ch 9 30 (C Y d) Z (λo r=>by have z:o.cell? ⟨G,8,Ao⟩=_:=(Cc r 8).trans<|Np H8;go_simp) a ?_;refine Cb 10 31 (A8 G) a <| Cb 11 32 (A8 G) a <| Cb 12 33 (A8 G) a <| Cb 13 34 (A9 G 9) a <| Ch 14 35 (C Y l) Z (λo r=>by have z:o.cell? ⟨G,9,Ao⟩=_:=(Cc r 9).trans<|Np H9;go_simp) a ?_;refine Cb 15 36 (A8 G) a <| Cb 16 37 (A8 G) a <| Cb 17 38 (A9 G 11) a <| Ch 18 39 (Ae ⟨Aw<|all++b⟩) Z (λo r=>by have z:o.cell? ⟨G,11,Ao⟩=_:=(Cc r 11).trans<|PF am 0;go_simp) a ?_;have aa:D<|A0 V1 {V1 with drawn:=V1.drawn+1}:=(Cu _ _).drew;have s:D (∀V,Below (O<|U ({V1 with drawn:=V1.drawn+1}:X)) {V1 with drawn:=V1.drawn+1} V->A7 V G (DP arr (all++b) AQ) 72):=λV hV=>au.out V<|aa.trans hV;generalize({V1 with drawn:=V1.drawn+1}:X)=V2 at *;refine Zw (β:=I×I×A3×(J×J)×X) #[AP,AP,AP,AP,AP,AP,AP,AP,AP,AP,AP,AP,AP,AP,AP,AP,AP,AP,AP,AP,AP,AP,AP,AP,AP,AQ,AQ] 2 (λx=>[(40,Af #[.agg x.2.2.1,.agg<|Cf x.2.2.2.1]),(20,Af #[.agg x.2.2.1,.agg<|Cf x.2.2.2.1]),(41,.agg x.2.2.1),(42,.agg<|Cf x.2.2.2.1),(5,A8 x.1),(6,A8 x.2.1)]) (Zx V2 a4 (all++b) l ad) (λx=>x.2.2.2.2) (λaq=>?_) ?_
 .have R:=T aq;clear aq;refine mK 19 23 24 (λu c=>?_) (λu c=>?_) λu c=>?_
  .go_simp;refine(B _).mono ?_;rintro e w1 h;obtain⟨p,F,rfl,g,A⟩:=Ml h;simp only[];have m:=s.out w1<|(Cu (O<|U V2) V2).trans<|g.mono (Cu (O<|U V2) V2).size;refine c.out _ _ m λ_=>?_;clear c h;refine Cb 20 20 (Af #[.agg p,.agg<|Cf F]) m <| Cb 21 41 (.agg p) m <| Cb 22 42 (.agg<|Cf F) m <| Hk 23 24 (λu c=>?_) λu c=>?_
   .go_simp;refine c.out _ _ (s _<|(g.trans<|Cm.mono g.size)) λ_=>?_;clear c;refine CH 24 λu c=>?_;obtain⟨P,Q,t,t4⟩:=On w1 (M Cv 101)<|M (Cf (0,0)) 103;go_simp;refine c.out _ _ (s _<|g.trans<|t.mono g.size) λ_=>?_;clear c;exact cast B6<|R (O<|U w1,O (U w1)+1,p,F,_)<|L4 A (Cu (O<|U V2) V2) g t P Q<|AY g.size
   go_simp;refine c.out _ _ (s _<|(g.trans<|Cm.mono g.size)) λ_=>?_;clear c;refine CH 23 λu c=>?_;obtain⟨P,Q,t,t4⟩:=On w1 (M (Cf (0,0)) 103)<|M Cv 101;go_simp;refine c.out _ _ (s _<|g.trans<|t.mono g.size) λ_=>?_;clear c;exact cast B6<|R (O (U w1)+1,O<|U w1,p,F,_)<|L4 A (Cu (O<|U V2) V2) g t Q P<|AY g.size
  .go_simp;refine c.out _ _ (s _<|Cm) λ_=>?_;clear c;have w:A0 V2<|Az V2<|M Cv 101:=Cm;refine Hk 19 24 (λu c=>?_) λu c=>?_
   .go_simp;refine(B _).mono ?_;rintro e w1 h;obtain⟨p,F,rfl,g,A⟩:=Ml h;simp only[];have m:=s.out w1<|w.trans<|g.mono w.size;refine c.out _ _ m λ_=>?_;clear c h;refine Cb 20 20 (Af #[.agg p,.agg<|Cf F]) m <| Cb 21 41 (.agg p) m <| Cb 22 42 (.agg<|Cf F) m <| CH 24 λu c=>?_;go_simp;refine c.out _ _ (s _<|(w.trans<|g.mono w.size).trans<|Cm.mono<|CE w.size g.size) λ_=>?_;clear c;exact cast B6<|R (O<|U V2,O<|U w1,p,F,_)<|L4 A w g Cm ((CB _ _ _ ket).trans<|(g.block _ Bi).trans<|Cj V2) (Cj w1) Bz
   obtain⟨P,Q,t,t4⟩:=On V2 (M Cv 101)<|M (Cf (0,0)) 103;go_simp;refine c.out _ _ (s _<|t) λ_=>?_;clear c;refine CH 19 λu c=>?_;go_simp;refine(B _).mono ?_;rintro e w1 h;obtain⟨p,F,rfl,g,A⟩:=Ml h;simp only[];have m:=s.out w1<|t.trans<|g.mono t.size;refine c.out _ _ m λ_=>?_;clear c h;refine Cb 20 20 (Af #[.agg p,.agg<|Cf F]) m <| Cb 21 41 (.agg p) m <| Cb 22 42 (.agg<|Cf F) m ?_;exact cast B6<|R (O<|U V2,O (U V2)+1,p,F,_)<|L4 A t g (Cu _ _) ((g.block _ Bi).trans P) ((g.block _ Bi).trans Q) Bz
  go_simp;refine c.out _ _ (s _<|Cm) λ_=>?_;clear c;have w:A0 V2<|Az V2<|M (Cf (0,0)) 103:=Cm;refine Hk 19 23 (λu c=>?_) λu c=>?_
  .go_simp;refine(B _).mono ?_;rintro e w1 h;obtain⟨p,F,rfl,g,A⟩:=Ml h;simp only[];have m:=s.out w1<|w.trans<|g.mono w.size;refine c.out _ _ m λ_=>?_;clear c h;refine Cb 20 20 (Af #[.agg p,.agg<|Cf F]) m <| Cb 21 41 (.agg p) m <| Cb 22 42 (.agg<|Cf F) m <| CH 23 λu c=>?_;go_simp;refine c.out _ _ (s _<|(w.trans<|g.mono w.size).trans<|Cm.mono<|CE w.size g.size) λ_=>?_;clear c;exact cast B6<|R (O<|U w1,O<|U V2,p,F,_)<|L4 A w g Cm (Cj w1) ((CB _ _ _ ket).trans<|(g.block _ Bi).trans<|Cj V2) Bz
  obtain⟨P,Q,t,t4⟩:=On V2 (M (Cf (0,0)) 103)<|M Cv 101;go_simp;refine c.out _ _ (s _<|t) λ_=>?_;clear c;refine CH 19 λu c=>?_;go_simp;refine(B _).mono ?_;rintro e w1 h;obtain⟨p,F,rfl,g,A⟩:=Ml h;simp only[];have m:=s.out w1<|t.trans<|g.mono t.size;refine c.out _ _ m λ_=>?_;clear c h;refine Cb 20 20 (Af #[.agg p,.agg<|Cf F]) m <| Cb 21 41 (.agg p) m <| Cb 22 42 (.agg<|Cf F) m ?_;exact cast B6<|R (O (U V2)+1,O<|U V2,p,F,_)<|L4 A t g (Cu _ _) ((g.block _ Bi).trans Q) ((g.block _ Bi).trans P) Bz
 rintro⟨f,v,p,F,N⟩ y;obtain⟨kd,n,z,i,i1,j1,k,p1,m1,e⟩:=y.a.1;have ab:=y.a.2;have av:=y.d.1;have aw:=y.d.2;have a3:=y.ne;dsimp only at e ab av aw a3;subst e;have an:N.heap[G]?=_:=s.out N y.ac;have a7:G<O (U V2):=Cd a;have ag:(AD N f<|Cg kd n z (Ac i i1 j1)<|Ac k p1 m1).heap[G]?=H (M (DP arr (all++b) AQ) 72):=(Do _ _ _ _ E).trans an;have af:(AD N f<|Cg kd n z (Ac i i1 j1)<|Ac k p1 m1).heap[v]?=H (M (Cf (0,0)) 103):=(Do _ _ _ _ E).trans y.h;have ah:(AD (AD N f<|Cg kd n z (Ac i i1 j1)<|Ac k p1 m1) v<|Cf F).heap[G]?=H (M (DP arr (all++b) AQ) 72):=(Do _ _ _ _ E).trans ag;have ak:D<|(AD (AD N f<|Cg kd n z (Ac i i1 j1)<|Ac k p1 m1) v<|Cf F).heap[v]?=H (M (Cf F) 103):=CR _ _ _ _ _ _ af;have ai:D<|Ci G W<|AD (AD N f<|Cg kd n z (Ac i i1 j1)<|Ac k p1 m1) v<|Cf F:=by have j:=aa.trans<|y.ac.mono aa.size;have h2:=aa.size;have L:=AE HB;exact⟨j.os.trans L.os,j.tape.trans L.tape,j.output.trans L.output,by simpa using CE L.size j.size,λar hj hn=>(Do _ _ _ _ keU).trans<|(Do _ _ _ _ keU).trans<|(j.block ar keU).trans<|L.block ar hj hn⟩
 have ae:=T ah;refine Ij 25 5 41 B6 y.g thg ag <| sF 26 6 42 B6 af ah <| CK ?_;go_simp;clear an ag af ah y;generalize AD (AD N f _) v (Cf F)=w11 at *;have al:D<|en=if F.1=0 then 0 else if F.2<(K (all++b):J)then F.1 else 0:=by
  have h:=AE aj;have ao:=P5 fm (all++b) d l ap;rw[AE HD]at ao;obtain a5|dd:=ad
  .obtain rfl:=ab;show _=_;rw[<-h,Cl<|ao F.1 F.2 rfl];rfl
  obtain⟨rfl,_⟩:=ab;exact h.symm
 clear ab B
 go_wp2_with fail
 refine Dl (S:=λo=>A7 o v (Cf F) 103/\A7 o G (DP arr (all++b) AQ) 72) ⟨ak,ae⟩ B6 λa=>Cb 0 43 (A8 v) a <| Ch 1 44 (C Y F.1) Z (λo r=>by have z:A6 o v 0<|C Y F.1:=Cc r.1 0;go_simp) a ?_;by_cases h0:F.1=0
 .have HE:D<|en=0:=by rw[AE al,Cp h0];rfl
  refine Ch 2 45 (Ah AQ) Z (λo r=>by rw[h0];go_simp) a <| Cb 3 46 (Ah AQ) a <| E6 4 47 a <| E6 5 48 a <| E6 6 49 a <| E6 7 50 a <| E6 8 51 a <| E6 9 52 a <| E6 10 53 a <| E6 11 54 a <| Cb 12 55 (Ah AQ) a <| CK ?_;go_simp;go_wp2;go_ret;rw[AE HE];exact⟨Z,ai.trans<|.of_below (Cu _ _).drew,ae⟩
 have a2:(F.1 != 0)=AP:=by simpa using h0
 obtain⟨ac,HQ⟩:=CC<|_root_.Decidable.decide<|F.2<(K (all++b):J);have HE:D<|en=bif ac then F.1 else 0:=by show _=_;rw[AE al,Cl h0,<-AE HQ];grind
 refine Ch 2 45 (Ah AP) Z (λo r=>by go_simp;try exact congrArg (λx=>Result.ok (Next.value<|Value.bool x) o) a2) a <| Cb 3 46 (Ah AP) a <| Cb 4 47 (A9 v 1) a <| Ch 5 48 (C Y F.2) rfl (λo r=>by have z:A6 o v 1<|C Y F.2:=Cc r.1 1;go_simp) a ?_;refine Cb 6 49 (A8 G) a <| Cb 7 50 (A8 G) a <| Cb 8 51 (A9 G 11) a <| Ch 9 52 (Ae ⟨Aw<|all++b⟩) Z (λo r=>by have z:o.cell? ⟨G,11,Ao⟩=_:=(Cc r.2 11).trans<|PF am 0;go_simp) a ?_;refine Ch 10 53 (C Y<|K<|all++b) Z (λo r=>by go_simp;try rfl) a <| Ch 11 54 (Ah ac) rfl (λo r=>by go_simp;have h:=AE HQ;simpa using h) a <| Cb 12 55 (Ah ac) a <| CK ?_;go_simp;have r0:A6 w11 v 0<|C Y F.1:=Cc ak 0;have r1:({w11 with drawn:=w11.drawn+1}:X).cell? ⟨v,0,Ao⟩=H (C Y F.1):=r0;generalize F.1=e1 at *;cases ac
 all_goals
  go_wp2;go_ret;rw[AE HE];exact⟨Z,ai.trans<|.of_below (Cu _ _).drew,ae⟩
def mL{G:I}{b:A1}(d:arr.size=11)(c:A7 W G (DP arr all AP) 72):(Ar As 37 #[A8 G,Ae ⟨Aw b⟩] W λe a=>e=Ak (C Y 15)/\a=W)/\Ar As 39 #[A8 G] W λe a=>e=Ak (Af #[Ae ⟨#[]⟩,.agg<|CI (0,0,0,0),C Y 15,C Y 0])/\A0 W a:=by
 have f:A6 W G 12<|Ah AP:=Ca (Cc c 12)<|PF d 1;have g:(Az W<|M #[C Y 0,C Y 0,C Y 0,C Y 0] 82).cell? ⟨G,12,Ao⟩=H (Ah AP):=Ca (Cm.cell (p:=⟨G,12,Ao⟩)<|Cd c) f;constructor
 .go_enter func37,ntmps37;go_wp2;go_ret;exact⟨Z,Z⟩
 go_enter func39,ntmps39;go_wp2;exact CS (Ol results39 Z (Cj _) underlying82 Z No Z Z Z) Z ⟨Z,Cm⟩
theorem Ed.same{kt:AN}{m:I}{f:Lit->Option I}(h:Ed W kt m n f)(i:W'.heap[m]?=W.heap[m]?):Ed W' kt m n f:=by obtain⟨a,⟨c,b,d,e⟩,g⟩:=h;exact⟨a,⟨c,b,Ca i d,e⟩,g⟩
def Dv.aq{W1:X}(h:Dv W0 A q sts sv nf mn mf W)(b:O (U W1)=O (U W0))(hb:A0 W1 W')(d:J8 W1 q.h q.a)(a:∀j,j=A\/j=q.f\/j=q.g\/j=q.d\/j=q.b\/Ax sv=H j->W'.heap[j]?=W.heap[j]?):Dv W1 A q sts sv nf mn mf W':=by
 obtain⟨c,i,k⟩:=h.k;have f:=QF h.b λg e=>a g<|AG<|AG<|AG<|AG<|AG e;exact{h with
  ad:=Ca (a A<|AF rfl) h.ad
  f:=d
  ac:=hb
  d:=h.d.same (a _<|AG<|AF rfl)
  k:=⟨c,Ca (a _<|AG<|AG<|AF rfl) i,k⟩
  b:=by rw[b];exact f
  a:=h.a.same (a _<|AG<|AG<|AG<|AF rfl)
  c:=h.c.same (a _<|AG<|AG<|AG<|AG<|AF rfl)
  n:=by rw[b];exact h.n}
def Ot(W:Ap)(n:AH):Ap:={W with heap:=W.heap.extract 0 n}
theorem mU(h:n<=O (U W)):O (U<|Ot W n)=n:=by simp[Ot];omega
theorem qsL(h:n<=O (U W)):Below (O<|U<|Ot W n) (Ot W n) W:=by refine⟨rfl,rfl,rfl,by grind [mU],λk a=>?_⟩;grind [Ot]
structure LL(c:CF):Prop where
 g:1<=c.a/\c.a<=6
 j:0<=c.c/\c.c<(c.a.toNat:AI)
 d:0<=c.d/\c.d<(c.a.toNat:AI)
 f:c.f=1\/c.f=2\/c.f=3
 out:c.out=1\/c.out=2\/c.out=3
 b:1<=c.b/\c.b<=16
 a:1<=c.bytes/\c.bytes<=4096
 b8:At c.B<=8
 b6:∀i (h:i<At c.B),c.B[i]<=65536
 e:Fg c.a.toNat c.e.data.toList=0
theorem Mm(h:CW c=0):LL c:=by
 have k:=QM h;rw[<-(QJ c).1]at h;unfold He at h;split at h
 .omega
 next hh =>
 have g:=ZV hh;split at h
 .cases h
 next a =>
 split at h
 .cases h
 next d =>
 have a:EJ c.f c.out c.b c.bytes=AP:=Bl;have d:I9 c.B=AP:=keo;unfold Ga at g;split at g
 .next hn =>
  simp only[Fj]at hn;obtain⟨⟨b,e⟩,f⟩:=hn;unfold F9 at b;rw[Fj]at b;have b:=Dr b.1;have e:=Dr e;have f:=Dr f;unfold EJ at a;simp only[Fj,VV]at a;unfold I9 at d;rw[Fj]at d;refine⟨⟨b.1,b.2.1⟩,e,f,lG a.1.1.1.1.1,lG a.1.1.1.1.2,⟨a.1.1.1.2,a.1.1.2⟩,⟨a.1.2,a.2⟩,Dr d.1,λi j=>?_,k⟩;have:=Dr<|Hi.1 d.2 i<|Hj.2 j;grind
 cases g
theorem mV{l:A1}(h:Fg n l=0):∀x∈(Ea l).map DV,∃m:I,x.2.1=(m:J)/\m<n:=by
 have f:E5 n l<0:=kfK;intro x j;obtain⟨r,g,rfl⟩:=Kx.1 j;unfold E5 at f;unfold Ea at g;split at f
 .omega
 split at f
 .grind
 next h0 =>
 rw[Cl h0]at g;obtain⟨i,_⟩:=Z5 (Db 10 l) 0 f E;obtain⟨y,k,rfl⟩:=Kx.1 g;have e:=i y k;unfold Dn at e;show∃m:I,(De y).2.1=(m:J)/\m<n;unfold De
 match hs:Db 32 y,e with
 |[a,b,c],e =>
  unfold Od at e;simp only[Fj]at e;have e:=e.2.1
  match b,e with
  |[d],e =>
   unfold IQ at e;rw[Fj]at e;have o:=Dr e.1;have p:=Dr e.2;refine⟨d.toNat-48,?_,E⟩;show(if 48<=d.toNat/\d.toNat<=57 then(d.toNat:J)-48 else 0)=_;omega
structure I6(b:AH)(W:Ap):Prop where
 rd:Jl W
 st:Jr b W
 db:AC W ⟨8,15,Ao⟩=An (Ab Am 4)
 a:Ho W
 d:9<=b/\b<=Au (Av W)
def Kv(a:∀q,q<9->V.heap[q]?=W.heap[q]?){q:I}(b:q<9)(h:A6 W q off v):A6 V q off v:=Ca (Je (w:=W)<|a q b) h
def U8.a0(a:∀q,q<9->V.heap[q]?=W.heap[q]?)(h:U8 W):U8 V :=
 ⟨λc d=>Kv a B8<|h.1 c d,λi b=>⟨Kv a B8 (h.2 i b).1,Kv a B8 (h.2 i b).2⟩⟩
def I6.ac(h:I6 b W)(hb:Below b W V):I6 b V:=by
 have a:∀q,q<9->V.heap[q]?=W.heap[q]?:=λq f=>Co hb q<|AY h.d.1;have g:=hb.size;refine⟨⟨h.rd.u8.a0 a,⟨λu c=>Kv a B8<|h.rd.c.cb u c,λu c=>⟨Kv a B8 (h.rd.c.a u c).1,Kv a B8 (h.rd.c.a u c).2.1,Kv a B8 (h.rd.c.a u c).2.2⟩⟩,?_⟩,h.st.on hb,Kv a B8 h.db,?_,h.d.1,?_⟩
 .have:=h.rd.d;omega
 .obtain⟨t,fr,d⟩:=h.a.b;obtain⟨m,e⟩:=h.a.c;exact⟨⟨t,fr,Ca (a _ B8) d⟩,U8.a0 a h.a.a,m,Kv a B8 e⟩
 have:=h.d.2;omega
def I6.up(h:I6 b W)(hb:Below b W V):Jr (O<|U V) V:=λc a=>h.st c<|Cs hb<|CG a<|B3 h.d.2 hb.size
def Gy(c:CF):Rv:=⟨GT c,c.c,DY c.a.toNat c.L,c.d.toNat,c.key⟩
def kC(c:CF):AH:=c.b.toNat+1
def Nq(c:CF)(A:AH):A3:=Dp c.a.toNat (DY c.a.toNat c.L)++#[Ab Al c.d,Ab Al c.key,A8 A]
def L5(c:CF)(A:AH)(bv:Aq):Gt:=⟨c.f,c.out,c.b,c.bytes.toNat,Nq c A,bv⟩
theorem ZD(c:CF)(A:I):(Nq c A).size=40:=by grind [Nq,Dc]
theorem q5t(ck:LL c)(A:I)(a:Aq):QV c A a=Di (L5 c A a) (G Ao 0 0) AQ:=by have h:((c.bytes.toNat:I):J)=c.bytes:=PL ke7;grind [QV,Di,L5,Nq]
def Xc(A:AH)(q:D0)(own0:Option AH)(j:AH):Prop:=j≠A/\j≠q.d/\j≠q.b/\An j≠own0
def q4g(ck:LL c){U:X}(h:Oq c W0 L A q sts sa sc nf mf bv V)(g:I6 b W0)(f:O (Av W0)<=O (Av U))(i:Option I):IY ⟨Gy c,W0,A,q,O (Av U)+2,Dp c.a.toNat<|DY c.a.toNat c.L,c.a.toNat,U,i⟩:=by
 obtain⟨a,d,e⟩:=UX ck.e;refine⟨h.a.b,h.a.k,h.a.e,h.a.o,h.a.n,a,d,e,Hl _ _,?_,?_,?_,CE f<|aF _ _,aF _ _,g.db⟩
 .show c.a.toNat<=6;have:=ck.g;omega
 .show c.d.toNat<c.a.toNat;have:=ck.d;omega
 refine ZC ⟨c.c.toNat,?_,?_⟩ (GT c)<|mV ck.e
 .show c.c=_;have:=ck.j;omega
 show c.c.toNat<c.a.toNat;have:=ck.j;omega
theorem q0z(ck:LL c){D:A2->Prop}(w:∀r:Rc,IY r->r.v=Gy c->Vn D r (kC c) []){U:X}(h:Oq c W0 L A q sts sa sc nf mf bv V)(N:I6 b W0)(k:A0 V U){y:Aq}(s:CA (kC c) V (λj=>j<O (Av V)) (Ai t y) d)(ac:DJ (kC c) d<=2000000)(p:D d):Ar As 107 #[.agg<|Nq c A,Ai t y] U<|Zs (Xc A q<|Ax<|AX sa (K sts) sc) (O<|Av V) (kC c) U (D6 (Gy c) (kC c) [] d (0,0,0,0)).2<|(D6 (Gy c) (kC c) [] d (0,0,0,0)).1.getD .nil:=by
 have f:=h.a.a.next k
 have z:=f.ac.size;have ok:=q4g (U:=U) ck h N z<|Ax<|AX sa (K sts) sc;have u:=(UX ck.e).1;have B:IZ ⟨Gy c,W0,A,q,O (Av U)+2,Dp c.a.toNat<|DY c.a.toNat c.L,c.a.toNat,U,Ax<|AX sa (K sts) sc⟩ sts 0 []:=by
  obtain⟨x,W,l,i,m⟩:=h.a.first
  exact⟨x,l,UW (l6 h.a.n i) u m⟩
 have ab:=Vc (kC c) d;have aa:=Vb (kC c) d;have n:=qw3 ok Z Z Z (w _ ok Z) (F:=(λj=>j<O (Av V))) p f h.a.d (Cr _) h.a.m Z B (λj g=>CQ g k.size) (s.same (λ_ g=>g) λj g=>Co k j g) E E;have o:Iv ⟨Gy c,W0,A,q,O (Av U)+2,Dp c.a.toNat<|DY c.a.toNat c.L,c.a.toNat,U,Ax<|AX sa (K sts) sc⟩=Nq c A:=by have e2:=PL ck.d.1;grind [Iv,Nq,Gy]
 rw[o]at n;refine Ce n ?_;rintro e S ⟨Q,R,rfl,l,i,m,P⟩;refine⟨Q,R,Z,⟨⟨Ca i.os f.ac.os.symm,Ca i.tape f.ac.tape.symm,Ca i.output f.ac.output.symm⟩,l,λj a b=>m j a b.1 b.2.1 b.2.2.1 b.2.2.2⟩,P⟩
def q4o(ck:LL c){U:X}(h:Oq c W0 L A q sts sa sc nf mf bv V)(i:I6 b W0)(a:A0 V U){y:Aq}(e:CA (kC c) V (λj=>j<O (Av V)) (Ai t y) d)(g:DJ (kC c) d<=2000000):Ar As 107 #[.agg<|Nq c A,Ai t y] U<|Zs (Xc A q<|Ax<|AX sa (K sts) sc) (O<|Av V) (kC c) U (D6 (Gy c) (kC c) [] d (0,0,0,0)).2<|(D6 (Gy c) (kC c) [] d (0,0,0,0)).1.getD .nil:=q0z ck (D:=λ_=>True) (λr ok _ V F x d f R N sts _=>mj (c:=r) ok (kC c) V F x d [] f R N sts) h i a e g trivial
theorem qzS{F:I->Prop}{B:AJ J}(h:DQ W 3 1 F (G ba (K B) bc) (K B)<|B.map<|Value.int Y):G4 W ba B:=by
 refine⟨λi n=>?_⟩;rcases h.2 with⟨_,f⟩|⟨g,d,b,e,_,a,k,l,m,c⟩
 .omega
 injection e with e1 _ _;refine⟨g,0,e1,(Cd a),λj o=>?_⟩;rw[Gg];refine Ca (Cc a j) ?_;have p:(b.toList.take<|K B*1)[j]?=(B.map<|Value.int Y)[j]?:=by rw[c]
 grind
def Iw(c:CF)(l:A1):Cz:=match DE c.f l c.b c.bytes with
 |.error e=>.error e
 |.ok d=>.ok ((D6 (Gy c) (kC c) [] d (0,0,0,0)).2,LK c.out (kC c) ((D6 (Gy c) (kC c) [] d (0,0,0,0)).1.getD .nil) c.B)
def q5R(a:arr.size=11)(x:AK):Ay (DP arr all cl) 12 (Ah x)=DP arr all x:=by unfold DP;apply PS;have h:K arr.toList=11:=Bl;rw[R2,R9,ZR _ _ E,h,R9];rfl
def qv9(c:CF)(a:A4)(n m:I):prog.built 158 [(0,.agg c.ad),(1,G a n m)]=H (c.ad++#[G a n m,C Y 0,C Y 0,C Y 0,C Y 0]):=B6
def q4G(a:arr.size=11){x:Aq}(b:(CI R)[j]?=H u):(arr++#[x,C Y R.1,C Y R.2.1,C Y R.2.2.1,C Y R.2.2.2])[12+j]?=H u:=by rw[Nv E,a,show 12+j-11=j+1 by omega];simpa[CI]using b
def Nr(z:Cz):A1:=match z with
 |.ok (_,.ok l)=>l
 |_=>[]
def qsV{G:I}(ck:LL c)(hG:W.heap[G]?=H (M (DP c.ad all AQ) 72))(hb:K all<=200000000)(bx:∀V,Ci G W V->G4 V c.i c.B/\Ar As 64 #[.agg c.ad] V λe w'=>∃ci c3 cm x,e=Ak (Af #[Ac ci c3 cm,C Y x])/\A0 V w'/\∀ch,O (U w')<=ch->Nn ⟨Gy c,w',ch,c.ad,ci,c3,cm⟩):Ar As 39 #[Ad<|H ⟨G,0,Ao⟩] W λe W'=>e=Ak (Af #[Ae ⟨Aw<|Nr<|Iw c all⟩,.agg<|CI<|QT<|Iw c all,C Y<|PH<|Iw c all,C Y<|QU<|Iw c all])/\Ci G W W'/\W'.heap[G]?=H (M (DP c.ad all AP) 72):=by
 have dw:=ck.b;have cu:=ck.a;have hs:c.ad.size=11:=rfl;have cq:=Cd hG;have bp:(Az W<|M #[C Y 0,C Y 0,C Y 0,C Y 0] 82).heap[G]?=_:=(CB _ _ _ cq).trans hG;have d3:(Az W<|M #[C Y 0,C Y 0,C Y 0,C Y 0] 82).cell? ⟨G,12,Ao⟩=H (Ah AQ):=(Cc bp 12).trans<|PF hs 1;have dz:=Dy _ G 12 _ _ bp;have HV:D<|((AB W ⟨G,12,Ao⟩<|Ah AP).alloc<|M #[C Y 0,C Y 0,C Y 0,C Y 0] 82).heap[G]?=H (M (DP c.ad all AP) 72):=by refine(CB _ _ _<|by simpa[World.setCell]using cq).trans ?_;rw[DX _ _ _ _ _ _ hG,q5R hs]
 have hz:O (U<|AB W ⟨G,12,Ao⟩<|Ah AP)=O (U W):=Bd;have HP:D<|((AB W ⟨G,12,Ao⟩<|Ah AP).alloc<|M #[C Y 0,C Y 0,C Y 0,C Y 0] 82).heap[O<|U W]?=H (M (CI (0,0,0,0)) 82):=by rw[<-hz];exact Cj _
 have b3:Ci G W<|AB W ⟨G,12,Ao⟩<|Ah AP:=⟨Z,Z,Z,OH hz.symm,λi _ hi=>CY _ _ _ _ kf4⟩
 have HB:D<|Ci G W<|(AB W ⟨G,12,Ao⟩<|Ah AP).alloc<|M #[C Y 0,C Y 0,C Y 0,C Y 0] 82:=b3.trans<|.of_below Cm;clear hz b3;have bu:0<=c.b:=E;have HR:=T λV=>SB V c.b c.bytes (bs:=all) ck.f bu E E E hb;obtain⟨cz,dn⟩:=CC<|Iw c all;have ax:=AE dn;rw[ax];unfold Iw kC at ax;obtain⟨bd,HD⟩:=CC<|DE c.f all c.b c.bytes;rw[AE HD]at HR ax;have bv:c.b.toNat+1<=4096:=E;obtain⟨k,HK⟩:=CC<|c.b.toNat+1;rw[AE HK]at HR ax bv;have cg:=T ax;have da:=T bv;have be:=T ck;have c5:=T cu;clear ax bv dw cu ck;have h6:c.ad[6]?=H (C Y c.f):=rfl;have h8:c.ad[8]?=H (C Y c.b):=rfl;have h9:c.ad[9]?=H (C Y c.bytes):=rfl;have H6:=T h6;have H8:=T h8;have H9:=T h9;have ao:=T hs;clear h6 h8 h9 hs hG bp;obtain⟨arr,a4⟩:=CC c.ad;rw[AE a4]at HV H6 H8 H9 ao bx ⊢;have bj:=T bx;have b5:=T<|qv9 c;rw[AE a4]at b5;clear bx;go_enter func39,ntmps39;go_wp2;generalize(AB W _ _).alloc _=V1 at *;have dh:D (∀V,A0 V1 V->V.heap[G]?=H (M (DP arr all AP) 72)):=λV hV=>(hV.block G<|Cd HV).trans HV;refine Dl (S:=λl=>l.heap[G]?=H (M (DP arr all AP) 72)) HV B6 λo=>Cb 0 24 (Ad<|H ⟨G,0,Ao⟩) o <| Cb 1 25 (Ad<|H ⟨G,0,Ao⟩) o <| Cb 2 26 (Ad<|H ⟨G,0,Ao⟩) o <| Cb 3 27 (Ad<|H ⟨G,6,Ao⟩) o <| Ch 4 28 (C Y c.f) Z (λl w=>by have z:l.cell? ⟨G,6,Ao⟩=_:=(Cc w 6).trans<|Np H6;go_simp) o ?_;refine Cb 5 29 (Ad<|H ⟨G,0,Ao⟩) o <| Cb 6 30 (Ad<|H ⟨G,0,Ao⟩) o <| Cb 7 31 (Ad<|H ⟨G,0,Ao⟩) o <| Cb 8 32 (Ad<|H ⟨G,8,Ao⟩) o <| Ch 9 33 (C Y c.b) Z (λl w=>by have z:l.cell? ⟨G,8,Ao⟩=_:=(Cc w 8).trans<|Np H8;go_simp) o ?_;refine Cb 10 34 (Ad<|H ⟨G,0,Ao⟩) o <| Cb 11 35 (Ad<|H ⟨G,0,Ao⟩) o <| Cb 12 36 (Ad<|H ⟨G,0,Ao⟩) o <| Cb 13 37 (Ad<|H ⟨G,9,Ao⟩) o <| Ch 14 38 (C Y c.bytes) Z (λl w=>by have z:l.cell? ⟨G,9,Ao⟩=_:=(Cc w 9).trans<|Np H9;go_simp) o ?_;refine Cb 15 39 (Ad<|H ⟨G,0,Ao⟩) o <| Cb 16 40 (Ad<|H ⟨G,0,Ao⟩) o <| Cb 17 41 (Ad<|H ⟨G,11,Ao⟩) o <| Ch 18 42 (Ae ⟨Aw all⟩) Z (λl w=>by have z:l.cell? ⟨G,11,Ao⟩=_:=(Cc w 11).trans<|PF ao 0;go_simp) o ?_;have a0:D<|A0 V1 {V1 with drawn:=V1.drawn+1}:=(Cu _ _).drew;have A:D (∀V,Below (O<|U ({V1 with drawn:=V1.drawn+1}:X)) {V1 with drawn:=V1.drawn+1} V->V.heap[G]?=H (M (DP arr all AP) 72)):=λV hV=>dh.out V<|a0.trans hV;generalize({V1 with drawn:=V1.drawn+1}:X)=V2 at *;refine Zw (β:=I×I×A3×(J×J)×X) #[AP,AP,AP,AP,AP,AP,AP,AP,AP,AP,AP,AP,AP,AP,AP,AP,AP,AP,AP,AP,AP,AP,AP,AP,AP,AQ,AQ] 2 (λx=>[(43,Af #[.agg x.2.2.1,.agg<|Cf x.2.2.2.1]),(23,Af #[.agg x.2.2.1,.agg<|Cf x.2.2.2.1]),(44,.agg x.2.2.1),(45,.agg<|Cf x.2.2.2.1),(6,Ad<|H ⟨x.1,0,Ao⟩),(7,Ad<|H ⟨x.2.1,0,Ao⟩)]) (Zx V2 k all c.bytes bd) (λx=>x.2.2.2.2) (λcy=>?_) ?_
 .have aw:=T cy;clear cy;refine mK 19 23 24 (λL b=>?_) (λL b=>?_) λL b=>?_
  .go_simp;refine(HR _).mono ?_;rintro e w1 h;obtain⟨t,F,rfl,d,hr⟩:=Ml h;simp only[];have r:=A.out w1<|(Cu (O<|U V2) V2).trans<|d.mono (Cu (O<|U V2) V2).size;refine b.out _ _ r λ_=>?_;clear b h;refine Cb 20 23 (Af #[.agg t,.agg<|Cf F]) r <| Cb 21 44 (.agg t) r <| Cb 22 45 (.agg<|Cf F) r <| Hk 23 24 (λL b=>?_) λL b=>?_
   .go_simp;refine b.out _ _ (A _<|(d.trans<|Cm.mono d.size)) λ_=>?_;clear b;refine CH 24 λL b=>?_;obtain⟨t1,t2,Q,t4⟩:=On w1 (M Cv 101)<|M (Cf (0,0)) 103;go_simp;refine b.out _ _ (A _<|d.trans<|Q.mono d.size) λ_=>?_;clear b;exact cast B6<|aw (O<|U w1,O (U w1)+1,t,F,_)<|L4 hr (Cu (O<|U V2) V2) d Q t1 t2 keY
   go_simp;refine b.out _ _ (A _<|(d.trans<|Cm.mono d.size)) λ_=>?_;clear b;refine CH 23 λL b=>?_;obtain⟨t1,t2,Q,t4⟩:=On w1 (M (Cf (0,0)) 103)<|M Cv 101;go_simp;refine b.out _ _ (A _<|d.trans<|Q.mono d.size) λ_=>?_;clear b;exact cast B6<|aw (O (U w1)+1,O<|U w1,t,F,_)<|L4 hr (Cu (O<|U V2) V2) d Q t2 t1 keY
  .go_simp;refine b.out _ _ (A _<|Cm) λ_=>?_;clear b;have P:A0 V2<|Az V2<|M Cv 101:=Cm;refine Hk 19 24 (λL b=>?_) λL b=>?_
   .go_simp;refine(HR _).mono ?_;rintro e w1 h;obtain⟨t,F,rfl,d,hr⟩:=Ml h;simp only[];have r:=A.out w1<|P.trans<|d.mono P.size;refine b.out _ _ r λ_=>?_;clear b h;refine Cb 20 23 (Af #[.agg t,.agg<|Cf F]) r <| Cb 21 44 (.agg t) r <| Cb 22 45 (.agg<|Cf F) r <| CH 24 λL b=>?_;go_simp;refine b.out _ _ (A _<|(P.trans<|d.mono P.size).trans<|Cm.mono<|CE P.size d.size) λ_=>?_;clear b;exact cast B6<|aw (O<|U V2,O<|U w1,t,F,_)<|L4 hr P d Cm ((CB _ _ _ keu).trans<|(d.block _ Bi).trans<|Cj V2) (Cj w1) BA
   obtain⟨t1,t2,Q,t4⟩:=On V2 (M Cv 101)<|M (Cf (0,0)) 103;go_simp;refine b.out _ _ (A _<|Q) λ_=>?_;clear b;refine CH 19 λL b=>?_;go_simp;refine(HR _).mono ?_;rintro e w1 h;obtain⟨t,F,rfl,d,hr⟩:=Ml h;simp only[];have r:=A.out w1<|Q.trans<|d.mono Q.size;refine b.out _ _ r λ_=>?_;clear b h;refine Cb 20 23 (Af #[.agg t,.agg<|Cf F]) r <| Cb 21 44 (.agg t) r <| Cb 22 45 (.agg<|Cf F) r ?_;exact cast B6<|aw (O<|U V2,O (U V2)+1,t,F,_)<|L4 hr Q d (Cu _ _) ((d.block _ Bi).trans t1) ((d.block _ Bi).trans t2) BA
  go_simp;refine b.out _ _ (A _<|Cm) λ_=>?_;clear b;have P:A0 V2<|Az V2<|M (Cf (0,0)) 103:=Cm;refine Hk 19 23 (λL b=>?_) λL b=>?_
  .go_simp;refine(HR _).mono ?_;rintro e w1 h;obtain⟨t,F,rfl,d,hr⟩:=Ml h;simp only[];have r:=A.out w1<|P.trans<|d.mono P.size;refine b.out _ _ r λ_=>?_;clear b h;refine Cb 20 23 (Af #[.agg t,.agg<|Cf F]) r <| Cb 21 44 (.agg t) r <| Cb 22 45 (.agg<|Cf F) r <| CH 23 λL b=>?_;go_simp;refine b.out _ _ (A _<|(P.trans<|d.mono P.size).trans<|Cm.mono<|CE P.size d.size) λ_=>?_;clear b;exact cast B6<|aw (O<|U w1,O<|U V2,t,F,_)<|L4 hr P d Cm (Cj w1) ((CB _ _ _ keu).trans<|(d.block _ Bi).trans<|Cj V2) BA
  obtain⟨t1,t2,Q,t4⟩:=On V2 (M (Cf (0,0)) 103)<|M Cv 101;go_simp;refine b.out _ _ (A _<|Q) λ_=>?_;clear b;refine CH 19 λL b=>?_;go_simp;refine(HR _).mono ?_;rintro e w1 h;obtain⟨t,F,rfl,d,hr⟩:=Ml h;simp only[];have r:=A.out w1<|Q.trans<|d.mono Q.size;refine b.out _ _ r λ_=>?_;clear b h;refine Cb 20 23 (Af #[.agg t,.agg<|Cf F]) r <| Cb 21 44 (.agg t) r <| Cb 22 45 (.agg<|Cf F) r ?_;exact cast B6<|aw (O (U V2)+1,O<|U V2,t,F,_)<|L4 hr Q d (Cu _ _) ((d.block _ Bi).trans t2) ((d.block _ Bi).trans t1) BA
 rintro⟨N,v,t,F,w9⟩ hT;obtain⟨kd,n,z,a,i1,j1,m,p1,m1,e⟩:=hT.a.1;have bz:=hT.a;have dt:=hT.d.1;have du:=hT.d.2;have cw:=hT.ne;dsimp only at e bz dt du cw;subst e;have dr:O (U W)<O (U V1):=Cd HP;have d1:=a0.size;have ct:w9.heap[G]?=_:=A.out w9 hT.ac;have cr:w9.heap[O<|U W]?=H (M (CI (0,0,0,0)) 82):=(hT.ac.block _ E).trans<|(a0.block _ dr).trans HP;have bq:(AD w9 N<|Cg kd n z (Ac a i1 j1)<|Ac m p1 m1).heap[G]?=H (M (DP arr all AP) 72):=sx E ct;have bn:(AD w9 N<|Cg kd n z (Ac a i1 j1)<|Ac m p1 m1).heap[v]?=H (M (Cf (0,0)) 103):=sx E hT.h;have br:(AD (AD w9 N<|Cg kd n z (Ac a i1 j1)<|Ac m p1 m1) v<|Cf F).heap[G]?=H (M (DP arr all AP) 72):=sx E bq;have b9:D<|(AD (AD w9 N<|Cg kd n z (Ac a i1 j1)<|Ac m p1 m1) v<|Cf F).heap[v]?=H (M (Cf F) 103):=CR _ _ _ _ _ _ bn;have bk:D<|(AD (AD w9 N<|Cg kd n z (Ac a i1 j1)<|Ac m p1 m1) v<|Cf F).heap[N]?=H (M (Cg kd n z (Ac a i1 j1)<|Ac m p1 m1) 101):=sx cw<|CR _ _ _ _ _ _ hT.g;have av:D<|(AD (AD w9 N<|Cg kd n z (Ac a i1 j1)<|Ac m p1 m1) v<|Cf F).heap[O<|U W]?=H (M (CI (0,0,0,0)) 82):=sx E<|sx E cr;have aj:D<|Ci G W<|AD (AD w9 N<|Cg kd n z (Ac a i1 j1)<|Ac m p1 m1) v<|Cf F:=by have h1:=a0.trans<|hT.ac.mono a0.size;have h3:=AE HB;have h4:=h3.size;exact⟨h1.os.trans h3.os,h1.tape.trans h3.tape,h1.output.trans h3.output,by simpa using CE h3.size h1.size,λj q hn=>sx E<|sx E<|(h1.block j E).trans<|h3.block j q hn⟩
 have a9:D<|PG k all c.bytes bd (λj=>O (U V2)<=j/\j<O (U<|AD (AD w9 N<|Cg kd n z (Ac a i1 j1)<|Ac m p1 m1) v<|Cf F)/\j≠N/\j≠v) (Cg kd n z (Ac a i1 j1)<|Ac m p1 m1) F<|AD (AD w9 N<|Cg kd n z (Ac a i1 j1)<|Ac m p1 m1) v<|Cf F:=bz.same (λj q=>by simpa using q) λj q=>sx q.2.2.2<|sx q.2.2.1 Z;have al:=T br;refine Ij 25 6 44 B6 hT.g thg bq <| sF 26 7 45 B6 bn br <| CK ?_;go_simp;clear ct cr bq bn br hT bz HR;generalize AD (AD w9 N _) v (Cf F)=w11 at *;have a6:D (∀(V:X) (R:Cy),A0 w11 V->(AD V (O<|U W)<|CI R).heap[O<|U W]?=H (M (CI R) 82)/\Ci G W (AD V (O<|U W)<|CI R)/\(AD V (O<|U W)<|CI R).heap[G]?=H (M (DP arr all AP) 72)):=λV R h=>⟨CR _ _ _ _ _ _<|(h.block _<|Cd av).trans av,⟨h.os.trans aj.os,h.tape.trans aj.tape,h.output.trans aj.output,by simpa using CE aj.size h.size,λj q hn=>sx E<|(h.block j<|CQ q aj.size).trans<|aj.block j q hn⟩,sx E<|(h.block _<|Cd al).trans al⟩
 have r0:AC w11 ⟨v,0,Ao⟩=H (C Y F.1):=Cc b9 0;have bc:=P5 c.f all c.b c.bytes bu;rw[AE HD]at bc;obtain dp|dd:=bd
 .obtain rfl:F=dp:=a9.2;have d0:(F.1 != 0)=AP:=by simpa using bc F.1 F.2 Z
  have HE:D<|.error F=cz:=AE cg;clear a9 bc
  go_wp2_with fail
  have ds:∀l:X,l.heap=w11.heap->l.heap[v]?=H (M (Cf F) 103)/\l.heap[O<|U W]?=H (M (CI (0,0,0,0)) 82):=λl h=>by rw[h];exact⟨b9,av⟩
  refine Dl (S:=λl=>l.heap[v]?=H (M (Cf F) 103)/\l.heap[O<|U W]?=H (M (CI (0,0,0,0)) 82)) (ds _ Z) B6 λo=>Cb 0 49 (.agg<|CI (0,0,0,0)) o <| Cb 1 50 (Ad<|H ⟨v,0,Ao⟩) o <| Ch 2 51 (C Y F.1) Z (λl w=>by have z:l.cell? ⟨v,0,Ao⟩=H (C Y F.1):=Cc w.1 0;go_simp) o ?_;refine Cb 3 52 (Ad<|H ⟨v,1,Ao⟩) o <| Ch 4 53 (C Y F.2) Z (λl w=>by have z:l.cell? ⟨v,1,Ao⟩=H (C Y F.2):=Cc w.1 1;go_simp) o ?_;refine Cb 5 2 (Ae ⟨#[]⟩) o ?_;obtain⟨f1,f2,f3⟩:=a6.out _ (0,0,0,0) (Cu (O<|U w11) w11).drew;have bo:(({w11 with drawn:=w11.drawn+1}:X).setRow (O<|U W)<|CI (0,0,0,0)).heap[v]?=H (M (Cf F) 103):=sx E o.1;refine RL (i:=6) (x:=.tmp 3) (y:=.tmp 49) (g:=O<|U W) (cells:=CI (0,0,0,0)) B6 Z B6 Z Z B6 B6 o.2 Fh Z Bw ⟨bo,f1⟩ ?_;refine Cb 7 4 (C Y F.1) ⟨bo,f1⟩ <| Cb 8 5 (C Y F.2) ⟨bo,f1⟩ <| CK ?_;go_simp;go_wp2;rw[<-AE HE];exact CS (Ol results39 Z f1 underlying82 Z Fh Z Z Z) Z ⟨Z,f2,f3⟩
 obtain⟨dq,cs,dx⟩:=a9.2;have b0:=Qz bu HD;subst dq;have de:=T cs;have di:=T b0;have cj:=(bj w11 aj).2;have c9:=T (bj w11 aj).1;have co:DJ k dd<=1638400:=B3 ((b0 k).1)<|AE c5;have dy:=Vc k dd;have dv:=Vb k dd;have c4:=T co;have ca:D<|D3 k dd<=90000/\K (Du k dd)<=999999999:=⟨E,E⟩
 clear co dy dv;have an:∀(j:I) (u:Aq),arr[j]?=H u->AC w11 ⟨G,0+j,Ao⟩=H u:=λj u q=>(Cc al _).trans (by rw[Gg];exact Np q);have au:=T an;clear a9 cs dx b0 bc an bj
 go_wp2_with(first
  |(refine QI (.tmp 57) Z B6 Z au underlying40 Z (DC ao) ?_)
  |(go_at_call 64;refine cj.mono ?_;clear cj;rintro e f ⟨ra,rn,rc,rx,rfl,bm,cx⟩;have ar:=T bm;have dc:=T cx;have an:∀(j:I) (u:Aq),arr[j]?=H u->AC f ⟨G,0+j,Ao⟩=H u:=(λj u q=>(bm.cell (p:=⟨G,0+j,Ao⟩)<|Cd al).trans<|au j u q);have c6:=T an;clear au an bm cx)
  |(refine QI (.tmp 64) Z B6 Z c6 underlying40 Z (DC ao) ?_)
  |(refine Jh Z Z Z ?hl (b5 ra rn rc) ?_;(case hl=>simp[go_sem]);have c0:=ar.size;have dj:D<|(Az f<|M (arr++#[Ac ra rn rc,C Y 0,C Y 0,C Y 0,C Y 0]) 158).heap[N]?=H (M (Cg kd n z (Ac a i1 j1)<|Ac m p1 m1) 101):=(CB _ _ _<|CQ (Cd bk) c0).trans<|(ar.block _<|Cd bk).trans bk;have cl:=mt (dc _<|Cr _) k (Az f<|M (arr++#[Ac ra rn rc,C Y 0,C Y 0,C Y 0,C Y 0]) 158) (λj=>O (U V2)<=j/\j<O (U w11)/\j≠N/\j≠v) _ dd Ao [] 0 (0,0,0,0) 0 ⟨Cj _,Cm,Ba⟩ ⟨λi hi=>by simp at hi⟩ nofun (λ_=>rfl) (λj q=>⟨B0 q.2.1,by have:=q.2.1;show j≠O (U f);omega⟩) (de.same (λ_ h=>h) λj q=>(CB _ _ _<|CQ q.2.1 c0).trans<|ar.block j q.2.1) ca.2 (AY ca.1)<|B0<|AE da;have b7:=T cl;clear cl)
  |(refine CO Z 101 (.tmp 6) Z N Z 101 (Cg kd n z (Ac a i1 j1)<|Ac m p1 m1) (0,0) _ dj underlying101 Z KI ?_)
  |(go_at_call 77;go_loud (refine b7.mono ?_;clear b7;rintro e ai ⟨ah,n3,s3,ab,ac,ad,ae,af,ag,rfl,c1,cp,cv,c2⟩;have dm:=T c2;clear c2;unfold Cg;have ce:=T c1;have b4:=T cp;have c7:=T cv;clear c1 cp cv)))
 have a2:D<|A0 ai<|Az ai<|M #[C Y ah,C Y n3,.string s3,Ac ab ac ad,Ac ae af ag] 101:=Cm;have dk:D<|(Az ai<|M #[C Y ah,C Y n3,.string s3,Ac ab ac ad,Ac ae af ag] 101).heap[O<|U ai]?=H (M (Cg ah n3 s3 (Ac ab ac ad)<|Ac ae af ag) 101):=Cj _;generalize Az ai (M #[C Y ah,C Y n3,.string s3,Ac ab ac ad,Ac ae af ag] 101)=w15 at *;have bh:D<|A0 w11 w15:=by have g2:=ar.size;have g3:A0 w11<|Az f<|M (arr++#[Ac ra rn rc,C Y 0,C Y 0,C Y 0,C Y 0]) 158:=ar.trans<|Cm.mono g2;exact(g3.trans<|b4.a0 g2 g3.size).trans<|a2.mono<|CE g3.size b4.size
 have a8:D<|w15.heap[O<|U f]?=_:=(a2.block _<|Cd ce.h).trans ce.h;have dg:D<|w15.heap[G]?=H (M (DP arr all AP) 72):=(bh.block _<|Cd al).trans al;obtain⟨d2,a5⟩:=CC<|(D6 (Gy c) k [] dd (0,0,0,0)).1.getD .nil;have df:D<|CV k ai (λj=>O (U f)+1<=j/\j<O (U ai)) (.agg<|Cg ah n3 s3 (Ac ab ac ad)<|Ac ae af ag) d2:=by
  have h1:=AE c7;have h2:=AE dm;have h3:=AE a5;dsimp only[List.reverse_nil]at h1 h2;rcases hq:(D6 (Gy c) k [] dd (0,0,0,0)).1 with _|d'
  .rw[hq]at h2 h3;obtain rfl:.nil=d2:=h3;obtain⟨k',rfl⟩:∃k',k=k'+1:=⟨_,HK.symm⟩
   exact congrArg Value.agg<|h2 Z
  rw[hq]at h1 h3;obtain rfl:d'=d2:=h3;have h4:=h1 _ Z;simp only[CL,A0]at h4;exact h4
 have cd:D<|F8 k d2:=by rw[<-AE a5];exact Zz (di k).2
 have cc:D<|DJ k d2<=149999999:=by show _<=_;rw[<-AE a5];have:=Z8 (Gy c) k dd (0,0,0,0);have:=AE c4;omega
 have h7:arr[7]?=H (C Y c.out):=by rw[<-AE a4];rfl
 have H7:=T h7;have bf:D (∀V,A0 w15 V->Ar As 47 #[C Y c.out,.agg<|Cg ah n3 s3 (Ac ab ac ad)<|Ac ae af ag] V (Iq (_root_.Decidable.decide (c.out=1)&&F7 k d2) (Fs c.out k d2) V)):=λV hV=>lF be.out.out (λj q=>CQ q.2<|CE a2.size hV.size) (df.same (λ_ h=>h) λj q=>(hV.block j<|CQ q.2 a2.size).trans<|a2.block j q.2) cd cc;have bw:K (Fs c.out k d2)<=999999999:=B3 (Sz (fm:=c.out) cd)<|AE cc;have b2:Except.ok ((D6 (Gy c) k [] dd (0,0,0,0)).2,LK c.out k d2 c.B)=cz:=by rw[<-AE a5];exact cg
 obtain⟨hh,HH⟩:=CC<|_root_.Decidable.decide (c.out=1)&&F7 k d2;rw[AE HH]at bf;obtain⟨ol,bi⟩:=CC<|Fs c.out k d2;rw[AE bi]at bf bw;obtain⟨R,cb⟩:=CC<|(D6 (Gy c) k [] dd (0,0,0,0)).2;rw[AE cb]at b2;dsimp only[List.reverse_nil,Mk]at a8;rw[AE cb]at a8;have bl:=T b2;have db:=T bw;clear b2 bw;clear h7;refine Dl (S:=λl=>l.heap[G]?=H (M (DP arr all AP) 72)/\l.heap[O<|U ai]?=H (M (Cg ah n3 s3 (Ac ab ac ad)<|Ac ae af ag) 101)) ⟨dg,dk⟩ B6 λaa=>Cb 0 76 (Ad<|H ⟨G,0,Ao⟩) aa <| Cb 1 77 (Ad<|H ⟨G,0,Ao⟩) aa <| Cb 2 78 (Ad<|H ⟨G,0,Ao⟩) aa <| Cb 3 79 (Ad<|H ⟨G,7,Ao⟩) aa <| Ch 4 80 (C Y c.out) Z (λl w=>by have z:l.cell? ⟨G,7,Ao⟩=_:=(Cc w.1 7).trans<|Np H7;go_simp) aa ?_;refine Ch 5 81 (.agg<|Cg ah n3 s3 (Ac ab ac ad)<|Ac ae af ag) Z (λl w=>yT 11 w.2 Z Z) aa <| CH 6 λL b=>?_;go_simp;refine(bf _ (Cu _ _).drew).mono ?_;rintro e N0 ⟨rfl,a3⟩;simp only[];have ap:N0.heap[G]?=H (M (DP arr all AP) 72)/\N0.heap[O<|U ai]?=H (M (Cg ah n3 s3 (Ac ab ac ad)<|Ac ae af ag) 101):=⟨(a3.block _<|Cd aa.1).trans aa.1,(a3.block _<|Cd aa.2).trans aa.2⟩
 refine b.out _ _ ap λ_=>?_;clear b;refine Cb 7 75 (Af #[Ae ⟨Aw<|bif hh then[]else ol⟩,Ah<|!hh]) ap <| Cb 8 83 (Ae ⟨Aw<|bif hh then[]else ol⟩) ap <| Cb 9 84 (Ah<|!hh) ap <| Cb 10 13 (Ae ⟨Aw<|bif hh then[]else ol⟩) ap <| Cb 11 14 (Ah<|!hh) ap <| CK ?_;go_simp;have ak:D<|A0 w11 N0:=bh.drew.trans<|a3.mono bh.size;have cf:D<|N0.heap[O<|U f]?=_:=(a3.block _<|Cd a8).trans a8;have az:D<|N0.heap[O<|U W]?=_:=(ak.block _<|Cd av).trans av;have c8:=T<|c9.ac ak;clear aa ap a3;cases hh
 .have an:∀(j:I) (u:Aq),arr[j]?=H u->AC N0 ⟨G,0+j,Ao⟩=H u:=λj u q=>(Cc ((ak.block _<|Cd al).trans al) _).trans (by rw[Gg];exact Np q);have au:=T an;have cn:arr[10]?=H (Ac c.i (K c.B) c.g):=by rw[<-AE a4];rfl
  have cF:=T<|qzR H7 cn c8 be.b8 be.b6 db;clear an cn;rcases hf:J0 c.out ol c.B with _|s
  .have HE:D<|.ok (R,.error 14)=cz:=by have h:=AE bl;rw[mD keV<|by rw[AE bi];exact hf]at h;exact h
   rw[hf]at cF
   go_wp2_with(first
    |(refine QI (.tmp 91) Z B6 Z au underlying40 Z (DC ao) ?_)
    |(go_at_call 78;refine cF.out.mono ?_;rintro e ay ⟨rfl,am⟩;have bg:=T<|ak.trans<|am.mono ak.size;have a7:D<|ay.heap[O<|U W]?=_:=(am.block _<|Cd az).trans az;clear am)
    |(refine D8 Z 82 _ _ Z (O<|U W) (CI (0,0,0,0)) Z Z 82 _ a7 Fh Z Bw ?_))
   obtain⟨f1,f2,f3⟩:=a6.out _ (0,0,0,0) bg;rw[<-AE HE];exact CS (Ol results39 Z f1 underlying82 Z Fh Z Z Z) Z ⟨Z,f2,f3⟩
  have HE:D<|.ok (R,.ok s)=cz:=by have h:=AE bl;rw[mE keV<|by rw[AE bi];exact hf]at h;exact h
  rw[hf]at cF
  go_wp2_with(first
   |(refine QI (.tmp 91) Z B6 Z au underlying40 Z (DC ao) ?_)
   |(go_at_call 78;refine cF.out.mono ?_;rintro e ay ⟨rfl,am⟩;have bg:=T<|ak.trans<|am.mono ak.size;have a7:D<|ay.heap[O<|U W]?=_:=(am.block _<|Cd az).trans az;have dl:D<|ay.heap[O<|U f]?=_:=(am.block _<|Cd cf).trans cf;clear am))
  refine Dl (S:=λl=>l.heap[O<|U f]?=H (M (arr++#[Ac ra rn rc,C Y R.1,C Y R.2.1,C Y R.2.2.1,C Y R.2.2.2]) 158)/\∃R',l.heap[O<|U W]?=H (M (CI R') 82)) ⟨dl,_,a7⟩ B6 λaq=>Cb 0 100 (Ae ⟨Aw s⟩) aq <| Cb 1 101 (Ad<|H ⟨O<|U f,0,Ao⟩) aq <| Cb 2 102 (Ad<|H ⟨O<|U f,0,Ao⟩) aq <| Cb 3 103 (Ad<|H ⟨O<|U f,12,Ao⟩) aq <| Ch 4 104 (.agg<|CI R) Z (λl w=>Oe (.tmp 103) Z Z (λj u hu=>(Cc w.1<|12+j).trans<|q4G ao hu) underlying82 Z Fh) aq <| Cb 5 2 (Ae ⟨Aw s⟩) aq ?_;obtain⟨f1,f2,f3⟩:=a6.out _ R bg.drew;have bt:(({ay with drawn:=ay.drawn+1}:X).setRow (O<|U W)<|CI R).heap[O<|U f]?=_:=sx (B3 (Cd av) ar.size) aq.1;refine RL (i:=6) (x:=.tmp 3) (y:=.tmp 104) (g:=O<|U W) (cells:=CI R) B6 Z B6 Z Z B6 B6 a7 Fh Z Bw ⟨bt,R,f1⟩ ?_;refine Cb 7 4 (C Y 0) ⟨bt,R,f1⟩ <| Cb 8 5 (C Y 0) ⟨bt,R,f1⟩ <| CK ?_;go_simp;go_wp2;rw[<-AE HE];exact CS (Ol results39 Z f1 underlying82 Z Fh Z Z Z) Z ⟨Z,f2,f3⟩
 have HE:D<|.ok (R,.error 13)=cz:=by have h:=AE bl;rw[mC keV]at h;exact h
 obtain⟨f1,f2,f3⟩:=a6.out _ (0,0,0,0) ak
 go_wp2_with(first|(refine D8 rfl 82 _ _ rfl (O<|U W) (CI (0,0,0,0)) rfl rfl 82 _ az Fh rfl Bw ?_))
 rw[<-AE HE];exact CS (Ol results39 Z f1 underlying82 Z Fh Z Z Z) Z ⟨Z,f2,f3⟩
def PI(A:AH)(q:D0)(own0:Option AH)(j:AH):Prop:=j=A\/j=q.f\/j=q.g\/j=q.d\/j=q.b\/own0=An j
theorem mW(h:Dv W0 A q sts sv nf mn mf W){cs:A3}(a:W.heap[L]?=H (M cs 135))(b:PI A q (Ax sv) j):j≠L:=by
 intro e;subst e;rcases b with rfl|rfl|rfl|rfl|rfl|b
 .rw[h.ad]at a;grind
 .exact Mi h.d a
 .obtain⟨c,d,_⟩:=h.k;grind
 .exact Mi h.a a
 .exact Mi h.c a
 exact absurd (UY h.b b a) B8
theorem ZE(h:Dv W0 A q sts sv nf mn mf W)(a:PI A q (Ax sv) j):j<O (U W):=by
 have c:∀{d:AN} {m n:I} {f:Lit->Option I},Ed W d m n f->m<O (U W):=by rintro d m n f ⟨k,⟨p,o,g,_⟩,_⟩;exact Cd g
 rcases a with rfl|rfl|rfl|rfl|rfl|a
 .exact Cd h.ad
 .exact c h.d
 .obtain⟨e,i,_⟩:=h.k;exact Cd i
 .exact c h.a
 .exact c h.c
 rcases h.b.2 with⟨b,_⟩|⟨r,l,e,b,_,s,_⟩
 .rw[b]at a;cases a
 rw[b]at a;injection a with a;grind
def Oq.aq(h:Oq c W0 L A q sts sa sc nf mf bv W)(l:O (U W0)<=L)(d:W'.os=W.os/\W'.tape=W.tape/\W'.output=W.output)(k:O (U W)<=O (U W'))(e:∀j,j<L->W'.heap[j]?=W.heap[j]?)(i:∀j,PI A q (Ax<|AX sa (K sts) sc) j->W'.heap[j]?=W.heap[j]?):Oq c W0 L A q sts sa sc nf mf bv W':=by have a:=h.a.a.ac;refine⟨{h.a with a:=h.a.a.aq Z ⟨Ca d.1 a.os,Ca d.2.1 a.tape,Ca d.2.2 a.output,CE a.size k,λj f=>Ca (e j E)<|Co a j f⟩ h.a.a.f i},h.d.same (λ_ b=>b) λg b=>e g b.2,h.e⟩
def ZF(h:Dv W0 A q sts sv nf mn mf W)(a:PI A q (Ax sv) j):O (U W0)<=j:=by
 have:=h.n;rcases a with rfl|rfl|rfl|rfl|rfl|a
 case inr.inr.inr.inr.inr=>exact DK h.b a
 all_goals omega
theorem mX{o:Option I}(h:¬PI A q o j):Xc A q o j:=by grind [PI,Xc]
def K5(c:CF)(t0 lo L b:AH)(fb:Option AH)(fed:A1)(W:Ap):Prop :=
 ∃W0 A q sts sa sc nf mf bv fa fn fc,Oq c W0 L A q sts sa sc nf mf bv W/\(t0<=lo/\lo<=Au (Av W0)/\Au (Av W0)<=L/\L<b/\b<=Au (Av W))/\I6 t0 W0/\W.heap[L]?=An (Aj (Di (L5 c A bv) (Ac fa fn fc) AQ) 135)/\Cn W b (Ac fa fn fc) fed/\(∀j,PI A q (Ax<|AX sa (At sts) sc) j->j<b)/\At fed<=c.bytes.toNat+1/\Ax (AX fa fn fc)=fb/\∃lo' rc,lo<=lo'/\KZ W0 lo' (Ac q.h (At<|GT c) rc) (GT c)
def K5.aq(h:K5 c t0 lo L b fb fed W)(m:W'.os=W.os/\W'.tape=W.tape/\W'.output=W.output)(hs:O (U W)<=O (U W'))(i:∀j,j<t0\/(lo<=j/\j<b)\/fb=H j->W'.heap[j]?=W.heap[j]?):K5 c t0 lo L b fb fed W':=by obtain⟨a,A,q,aa,sa,sc,nf,V,x,z,F,B,d,⟨g1,g2,g3,g4,g5⟩,N,P,o,p,Q,r,S,rc,p1,p2⟩:=h;have k:=d.a.a.ac;have v:=mU (W:=W') (n:=O<|U a) E;have s:=qsL (W:=W') (n:=O<|U a) E;have u:∀j,j<t0\/lo<=j->j<O (U a)->(Ot W'<|O<|U a).heap[j]?=a.heap[j]?:=λj ho f=>(Co s j E).symm.trans<|Ca (i j E)<|Co k j f;have w:=p2.kept (W':=Ot W'<|O<|U a) λj k1 R=>u j E R;obtain⟨ra,ab,l,y⟩:=w.ac;injection l with l;subst l;refine⟨Ot W'<|O<|U a,A,q,aa,sa,sc,nf,V,x,z,F,B,⟨{d.a with a:=d.a.a.aq v s (by rw[d.a.b];exact y) λj f=>i j<|B3 (ZF d.a.a f)<|p j f},?_,d.e⟩,E,N.ac ⟨Ca m.1 k.os,Ca m.2.1 k.tape,Ca m.2.2 k.output,E,λj f=>u j (AF f) E⟩,Ca (i L E) P,⟨QF o.1 λj e=>i j<|AG<|AG<|r▸e,E,o.2.2⟩,p,Q,r,S,rc,p1,w⟩;exact d.d.same (λg t=>by rw[v];exact t) λg t=>i g E
theorem q8G(c:CF)(w:X)(o:Fa w c)(f:I6 t0 w):Ar As 26 #[.agg c.ad] w λe g=>A0 w g/\((¬CW c=0/\e=Ak (Af #[Ad Ao,C Y<|CW c]))\/(CW c=0/\∃L,e=Ak (Af #[A8 L,C Y 0])/\K5 c t0 (O<|U w) L (O<|U g) Ao [] g)):=by
 refine Ce (q0W o f.a λh=>(Mm h).b8) ?_;rintro e g ⟨a,b⟩;refine⟨a,?_⟩;rcases b with b|⟨b,m,L,A,q,B,y,z,t,s,n,rfl,l,p,F,N,⟨r,x,u,v⟩,i⟩
 .exact AF b
 refine AG ⟨b,L,Z,m,A,q,B,y,z,t,s,n,Ao,0,0,i,⟨f.d.2,l,p,E,Cr _⟩,?_,?_,S9,λj k=>ZE i.a.a k,Ex _,Z,r,x,u,v⟩
 .have d:=i.a.a.ac;refine f.ac ⟨Ca d.os.symm a.os,Ca d.tape.symm a.tape,Ca d.output.symm a.output,l,λj k=>?_⟩;have:=f.d.2;rw[<-Co d j E];exact Co a j E
 grind [q5t,Mm]
theorem qtN(a:∀q,q<9->V.heap[q]?=W.heap[q]?)(h:Jl W):Jl V:=by refine⟨h.u8.a0 a,⟨λu b=>Kv a B8<|h.c.cb u b,λu b=>⟨Kv a B8 (h.c.a u b).1,Kv a B8 (h.c.a u b).2.1,Kv a B8 (h.c.a u b).2.2⟩⟩,?_⟩;have c:=a 8 E;have d:=h.d;grind
def mY(ck:LL c){U:X}(a:Jl U){fa:A4}{fc:I}{l:A1}(hl:K l<=4097)(hb:E2 U fa l):Ar As 43 #[C Y (L5 c A bv).a,Ag #[C Y (L5 c A bv).b,C Y (L5 c A bv).bytes],G fa (K l) fc] U<|KJ (kC c) U<|DE c.f l c.b c.bytes:=by have e:((c.bytes.toNat:I):J)=c.bytes:=PL ke7;have h:=dP (cap:=fc) (d:=c.b) (l:=c.bytes) ck.f hb a BY BY E;rw[<-e]at h;rw[e]at h;unfold L5;dsimp only;rw[e];exact h
def Ou(c:CF)(fed bs:A1):A1:=fed++bs.take (c.bytes.toNat+1-At fed)
theorem q8n(ck:LL c)(h:K5 c t0 lo L b fb fed W)(l:A4)(cap:I)(bs:A1)(hb:E2 W l bs)(ad:l=Ao->cap=0)(aa:K bs<=cap):Ar As 36 #[A8 L,G l (K bs) cap] W λe i=>e=Ak (C Y<|PE (DE c.f (Ou c fed bs) c.b c.bytes)<|K<|Ou c fed bs)/\Dw W i (λj=>(lo<=j/\j<b)\/fb=H j)/\∃n,K5 c t0 lo L b n (Ou c fed bs) i/\∀j,n=H j->fb=H j\/O (U W)<=j:=by
 obtain⟨w,A,q,ae,sa,sc,nf,mf,x,y,B,z,k,⟨g1,g2,N,P,g5⟩,d,p,r,s,Q,rfl,R⟩:=h;have ag:=ck.a;have ab:K (Ou c fed bs)<=c.bytes.toNat+1:=by grind [Ou]
 have hf:=q0G (kC c) (ZD c A) (Ou c fed bs) Z p r P hb ad aa (by show c.bytes.toNat<=4096;omega) Q (P5 _ _ _ _ BY) λaf m o V S=>mY ck (qtN (λq hq=>Ca (V q<|AY d.d.1)<|Co k.a.a.ac q<|AY d.d.1) d.rd) E S;refine Ce hf ?_;rintro e i ⟨m,F,o,rfl,k1,k2,g,u,v,k6⟩;have ac:∀j,j<b->H j≠Ax (AX y B z):=λj a e=>AY<|DK r.1 e.symm;have t:=λj a f=>v j E f<|ac j a;exact⟨Z,⟨g.1,g.2.1,g.2.2,u,λj a f=>v j a (λe=>f E) λe=>f<|AG e.symm⟩,_,⟨w,A,q,ae,sa,sc,nf,mf,x,m,F,o,k.aq N g u (λj a=>t j E E) λj a=>t j (s j a)<|mW k.a.a p a,E,d,k2,k1,s,ab,Z,R⟩,k6⟩
def qyS(hb:∃a b,bv=G a (K c.B) b)(e:A4)(g f:I)(d:AK):(Di (L5 c A bv) (G e g f) d).all (·.oneCell')=AP:=by obtain⟨a,b,rfl⟩:=hb;unfold Di L5 Nq;dsimp only;rw[SS,SS,SS,Hm];simp[Value.oneCell']
def ZG{l:A1}(h:Cn W b v l)(c:O (U W)<=O (U W'))(a:∀g,Ax v=H g->W'.heap[g]?=W.heap[g]?):Cn W' b v l:=⟨QF h.1 a,CE h.2.1 c,h.2.2⟩
theorem QW{l:A1}(h:Cn W b v l)(e:Ax v=H g):g<O (U W):=by
 rcases h.1.2 with⟨a,_⟩|⟨f,c,d,a,_,i,_⟩
 .rw[a]at e;cases e
 rw[a]at e;injection e with e;grind
def q5J(c:CF)(lo L b:AH)(l:A1)(W:Ap)(e:Ending)(V':Ap):Prop :=
 ∃va vn vc,e=Ak (Af #[Ac va vn vc,.agg<|CI<|QT<|Iw c l,Ab Al<|PH<|Iw c l,Ab Al<|QU<|Iw c l])/\Dw W V' (λj=>lo<=j/\j<b)/\V'.heap[L]?=An (Aj (Di Gx (Ac Ao 0 0) AP) 135)/\Vx V' (Au<|Av W) (Ac va vn vc) (Iw c l)
def q5Z(ck:LL c)(h:K5 c t0 lo L b fb fed W):Ar As 38 #[A8 L] W<|q5J c lo L b fed W:=by
 obtain⟨W0,A,q,V,R,S,nf,mf,w,s,fn,u,o,⟨g1,g2,a,g4,g5⟩,z,B,v,h6,h7,_⟩:=h;have aw:=ck.a;have Q:0<=c.b:=BY;have hL:=Cd B;have al:K fed<=4097:=E;obtain⟨ad,ae,x,av⟩:=QH v;injection x with e1 e2 e3;subst e1;subst e2;subst e3;have N:∀j,j<O (U W)->j≠L->(GS W L (L5 c A w)<|G s (K fed) u).heap[j]?=W.heap[j]?:=λj ab b=>ZB ab b;have ax:=Vy (W:=W) (L:=L) (g:=(L5 c A w))<|G s (K fed) u;have af:=ZG v E λg e=>N g (QW v e)<|AY<|DK v.1 e;have F:=o.aq a (qvH) E (λj f=>N j E E) λj f=>N j (ZE o.a.a f)<|mW o.a.a B f;have ag:=(z.ac<|CG F.a.a.ac E).rd;have ak:=mR (g:=(L5 c A w)) (G s (K fed) u) hL;have aj:=qta (Xc A q<|Ax<|AX R (K V) S) (kC c) (ZD c A) (qyS o.e s (K fed) u AQ) B (P5 _ _ _ _ Q) (Iw c fed)
  (λy m=>by obtain⟨ad,ae,x,ai⟩:=QH<|MM af m;injection x with e1 e2 e3;subst e1;exact mY ck (ag.ac m) al ai)
  (λe he=>by unfold Iw;rw[he])
  (λac P=>by
   refine⟨_,_,(by unfold Iw;rw[P]),λar ap aq d an y m=>?_⟩;have ay:=xu Q P (k:=kC c);have l:=Cs d<|CG m d.size;have p:=F.aq a ⟨l.os,l.tape,l.output⟩ l.size (λj f=>Co l j E) λj f=>Co l j<|ZE F.a.a f;have ao:=an.same (λj f=>CQ f.2 m.size) λj f=>Co m j f.2;obtain⟨ba,bc,t⟩:=p.e;have n:=CG p.a.a.ac<|CE g1 g2;have am:∀i,Eh (Xc A q<|Ax<|AX R (K V) S) y i->Below t0 W0 i:=λi hF=>⟨Ca hF.a.1 n.os,Ca hF.a.2.1 n.tape,Ca hF.a.2.2 n.output,CE n.size hF.b.size,λj f=>Ca (hF.block j (AY n.size)<|mX λe=>AY<|ZF p.a.a e)<|Co n j f⟩
   refine qsI (Xc A q<|Ax<|AX R (K V) S) (ZD c A) (Ca (Co l _ E) ak) ap aq t (q2x ck.b8 ck.b6) (mH ck.out<|CE (Sz<|Zz (Qz Q P<|kC c).2)<|AY<|Z8 (Gy c) (kC c) ac (0,0,0,0)) (λi hF=>?_) (λi hF=>z.up<|am i hF) λU' ah=>q4o ck p z ah ao E;have aa:=p.d;rw[t]at aa;exact qzS<|aa.kept (λ_ hg=>hg) hF.b B8 B8 B8)
 refine Ce aj ?_;rintro e i ⟨va,vn,vc,rfl,r,k2,k3⟩;exact⟨va,vn,vc,Z,⟨r.a.1,r.a.2.1,r.a.2.2,r.size,λj f hn=>r.block j f (λe=>hn E)<|mX λe=>hn ⟨AY<|ZF o.a.a e,h6 j e⟩⟩,k2,k3⟩
theorem q8p(ck:LL c)(a:A1):PE (DE c.f (a.take<|c.bytes.toNat+1) c.b c.bytes) (K<|a.take<|c.bytes.toNat+1)=Vv (DE c.f a c.b c.bytes) (K a):=by
 have b:0<=c.b:=BY;have g:0<=c.bytes:=ke7;rw[<-iU c.f a c.b c.bytes b g];rcases h:DE c.f (a.take<|c.bytes.toNat+1) c.b c.bytes with f|d
 .obtain⟨k,e⟩:=f;show(if e=_ then _ else _)=if e<_ then _ else _;by_cases i:e=(K (a.take<|c.bytes.toNat+1):J)
  .rw[Cp i,Cl];by_cases j:c.bytes.toNat<K a
   .obtain⟨l,o,m,n⟩:=iT (fm:=c.f) b g j;grind
   grind
  have:=iS [] b h i;grind
 rfl
theorem q0H(h:CW c=0)(z:Fa V c)(A : -9223372036854775808<=c.key/\c.key<=9223372036854775807):Ar As 64 #[.agg c.ad] V λe f=>∃a m d x,e=Ak (Af #[G a m d,C Y x])/\A0 V f/\∀P,O (U f)<=P->Nn ⟨Gy c,f,P,c.ad,a,m,d⟩:=by
 have ck:=Mm h;obtain⟨k,b⟩:=Ps<|Zg h;refine Ce (Zf k.symm (w:=V)) ?_;rintro e f ⟨a,m,d,rfl,q,F⟩;obtain⟨N,Q,g,u⟩:=(F<|lU h).aq;injection g with g e2 e3;subst g;subst e2;subst e3;have R:=Z6<|QM h;have r:c.d.toNat<c.a.toNat:=AY ck.d;refine⟨_,_,_,_,Z,q,λP j=>⟨Z,?_,Z,A,j,λp=>?_,λs S W L v j k=>lO c.ad c.c Z d L (u.ac v) j k E λi h=>B9⟩⟩
 .show H (Value.int Y c.d)=H (C Y (c.d.toNat:J));rw[PL ck.d.1]
 obtain⟨l,t,o⟩:=ZC (dflt:=c.c) (n:=c.a.toNat) ⟨c.c.toNat,AY ck.j,AY ck.j⟩ (GT c) (mV ck.e) p;refine⟨l,t,AY ck.g,λs y=>?_⟩;have B:=YO b.a o r;have:=Wu b.ai b.f b.hL b.a o r<|(z.a.ac q).ac y;rw[<-B]at this;exact this
structure Gr where
 c:CF
 d:AH
 L:AH
 b:AH
 G:AH
 h:Option AH
 e:A1
 a:AK
 all:A1
 f:AK
def Gr.ac(r:Gr)(j:AH):Prop:=(r.d<=j/\j<r.b)\/r.h=An j\/j=r.G
structure EC(w:Ap)(r:Gr)(W:Ap):Prop where
 c:CW r.c=0
 ai:Fa w r.c
 key : -9223372036854775808<=r.c.key/\r.c.key<=9223372036854775807
 a0:Au (Av w)<=r.d/\r.d<=r.L/\r.L<r.b/\r.b<=r.G
 d:∀j,r.h=An j->r.b<=j/\j<Au (Av W)/\j≠r.G
 b:r.a=AQ->K5 r.c (Au (Av w)) r.d r.L r.b r.h (r.e.take (r.c.bytes.toNat+1)) W
 sh:r.a=AP->W.heap[r.L]?=An (Aj (Di Gx (Ac Ao 0 0) AP) 135)
 a:W.heap[r.G]?=An (Aj (DP r.c.ad r.all r.f) 72)
theorem EC.lt{r:Gr}(h:EC w r W)(a:j<O (U w)\/r.ac j):j<O (U W)/\(r.ac j->O (U w)<=j):=by
 have b:=h.a0;have c:=Cd h.a;unfold Gr.ac;rcases a with a|a|a|rfl
 .exact⟨E,λd=>by have:=h.d j;grind⟩
 .omega
 .have:=h.d j a;omega
 omega
def EC.aq{w W W':Ap}{r:Gr}{X:I->Prop}(h:EC w r W)(hF:Dw W W' X)(c:∀j,j<O (U w)\/r.ac j->¬X j):EC w r W':=by
 have b:=λj a=>hF.block j (h.lt a).1<|c j a;have d:=h.a0;have f:=hF.size;exact{h with
  d:=λj a=>AY (h.d j a)
  b:=λe=>(h.b e).aq ⟨hF.os,hF.tape,hF.output⟩ hF.size λj a=>b j (a.imp_right λa=>a.imp_right .inl)
  sh:=λe=>(b _<|AG<|AF ⟨E,E⟩).trans (h.sh e)
  a:=(b _<|AG<|AG<|AG rfl).trans h.a}
theorem EC.next{w W W':Ap}{r:Gr}(h:EC w r W)(a:A0 W W'):EC w r W':=h.aq (X:=λ_=>False) (Ll a) λ_ _=>id
theorem quw(c:CF)(l bs:A1):Ou c (l.take<|c.bytes.toNat+1) bs=(l++bs).take (c.bytes.toNat+1):=by grind [Ou,List.take_append]
def ZH(r:Gr)(s:A1):AI:=bif r.a then 15 else PE (DE r.c.f ((r.e++s).take<|r.c.bytes.toNat+1) r.c.b r.c.bytes) (At<|(r.e++s).take<|r.c.bytes.toNat+1)
def Vz(r:Gr)(s:A1):AI:=bif r.f then 15 else Vv (DE r.c.f (r.all++s) r.c.b r.c.bytes) (At<|r.all++s)
def QX(r:Gr):Cz:=bif r.a then .error (15,0)else Iw r.c (r.e.take<|r.c.bytes.toNat+1)
def L6(r:Gr):Cz:=bif r.f then .error (15,0)else Iw r.c r.all
theorem qzV{r:Gr}(h:EC w r V){s:A1}(cap:I)(hb:E2 V (Aa g) s)(p:K s<=cap):Ar As 36 #[A8 r.L,G (Aa g) (K s) cap] V λe a=>e=Ak (C Y<|ZH r s)/\Dw V a r.ac/\∃fb,EC w {r with h:=fb,e:=bif r.a then r.e else r.e++s} a/\∀j,fb=H j->r.h=H j\/O (U V)<=j:=by
 have ck:=Mm h.c;have B:=h.a0;have o:=Cd h.a;have A:=h.d;obtain⟨c,F,L,b,t,k,pl,i,u,v⟩:=r;cases i
 .refine(q8n ck (h.b Z) _ cap s hb nofun p).mono ?_;rw[quw];rintro e a ⟨rfl,d,fb,f,q⟩;have n:=d.block _ o λe=>B9;refine⟨Z,M1 d λj e=>e.imp_right .inl,fb,{h with d:=λj e=>?_,b:=λ_=>f,sh:=nofun,a:=n.trans h.a},q⟩
  .obtain⟨_,_,_,_,_,_,_,_,_,x,z,y,_,_,_,_,l,_,_,m,_⟩:=f;have:=QW l<|m.trans e;grind
 refine(qpu V L Gx Vw (G Ao 0 0) _<|h.sh Z).mono ?_;rintro e a ⟨rfl,rfl⟩;exact⟨Z,.refl _ _,k,h,λj e=>AF e⟩
theorem mZ{r:Gr}(h:EC w r V){al:A1}{x:AK}(a:Ci r.G V V')(d:A7 V' r.G (DP r.c.ad al x) 72):Dw V V' r.ac/\EC w {r with all:=al,f:=x} V':=by
 have g:=h.a0;have hF:Dw V V' λj=>j=r.G:=⟨a.os,a.tape,a.output,a.size,a.block⟩
 refine⟨M1 hF λj e=>AG<|AG e,{h with d:=λj e=>?_,b:=λe=>(h.b e).aq ⟨a.os,a.tape,a.output⟩ a.size λj b=>?_,sh:=λe=>(a.block _ ?_ ?_).trans<|h.sh e,a:=d}⟩
 .have f:=h.d j e;have:=a.size;grind
 .have:=h.lt (j:=j)<|b.imp_right λb=>b.imp_right .inl;refine a.block j this.1 ?_;rcases b with b|b|b
  .omega
  .omega
  exact(h.d j b).2.2
 .exact Nat.lt_trans (show r.L<r.G by omega)<|Cd h.a
 grind
def q07{r:Gr}(h:EC w r V){s:A1}(f:K (r.all++s)<=200000000):Ar As 37 #[A8 r.G,Ae ⟨Aw s⟩] V λe a=>e=Ak (C Y<|Vz r s)/\Dw V a r.ac/\EC w {r with all:=bif r.f then r.all else r.all++s} a:=by
 have ck:=Mm h.c;have n:=ck.b;have m:=ck.a;obtain⟨c,o,L,b,j,l,p,k,all,d⟩:=r;cases d
 .refine(qwH Z Z Z Z h.a ck.f E E E E f).mono ?_;rintro e a ⟨rfl,g,i⟩;exact⟨Z,mZ h g i⟩
 refine((mL Z h.a).1).mono ?_;rintro e a ⟨rfl,rfl⟩;exact⟨Z,.refl _ _,h⟩
def qv5{r:Gr}(h:EC w r V):Ar As 38 #[A8 r.L] V λe a=>∃d g f,e=Ak (Af #[G d g f,.agg<|CI<|QT<|QX r,C Y<|PH<|QX r,C Y<|QU<|QX r])/\Dw V a r.ac/\EC w {r with h:=Ao,a:=AP} a/\Vx a (O<|U V) (G d g f) (QX r):=by
 have ck:=Mm h.c;have t:=h.a0;have l:=Cd h.a;obtain⟨c,u,L,b,o,s,v,cp,p,q⟩:=r;cases cp
 .refine(q5Z ck<|h.b Z).mono ?_;rintro e a ⟨d,g,f,rfl,k,m,n⟩;exact⟨_,_,_,Z,M1 k λj e=>AF e,{h with d:=nofun,b:=nofun,sh:=λ_=>m,a:=(k.block _ l λe=>E).trans h.a},n⟩
 refine(qo7 V L Gx Vw (G Ao 0 0)<|h.sh Z).mono ?_;rintro e a ⟨rfl,i⟩;exact⟨_,_,_,rfl,Ll i,{h.next i with d:=nofun,b:=nofun},rfl⟩
def qu4{r:Gr}(h:EC w r V)(g:A0 w V)(j:K r.all<=200000000):Ar As 39 #[A8 r.G] V λe a=>e=Ak (Af #[Ae ⟨Aw<|Nr<|L6 r⟩,.agg<|CI<|QT<|L6 r,C Y<|PH<|L6 r,C Y<|QU<|L6 r])/\Dw V a r.ac/\EC w {r with f:=AP} a:=by
 have q:=h.a0;obtain⟨c,s,L,b,m,p,t,o,n,cl⟩:=r;cases cl
 .refine(qsV (Mm h.c) h.a j λa i=>?_).mono ?_
  .have f:=h.ai.ac<|g.trans<|i.a0 E g.size;exact⟨f.b,q0H h.c f h.key⟩
  rintro e a ⟨rfl,k,l⟩;exact⟨Z,mZ h k l⟩
 refine((mL (b:=[]) Z h.a).2).mono ?_;rintro e a ⟨rfl,d⟩;exact⟨rfl,Ll d,h.next d⟩
def Dw.andThen{W V V':Ap}{X Y:I->Prop}(h:Dw W V X)(k:Dw V V' Y)(hx:∀j,j<O (U W)->Y j->X j):Dw W V' X:=⟨Ca k.os h.os,Ca k.tape h.tape,Ca k.output h.output,CE h.size k.size,λj a b=>Ca (k.block j (CQ a h.size) λe=>b<|hx j a e)<|h.block j a b⟩
def Ci.ad(k:Ci g W V):Dw W V λj=>j=g:=⟨k.os,k.tape,k.output,k.size,k.block⟩
structure ZI(n:AH)(r r':Gr)(m:AH):Prop where
 L:r'.L=r.L
 G:r'.G=r.G
 both:r'.e=r'.all/\r'.a=r'.f
 len:At r'.all<=m
 ac:∀j,r'.ac j->r.ac j\/n<=j
theorem q2Z{r:Gr}(h:CW r.c=0)(a:r.e=r.all/\r.a=r.f)(s:A1):ZH r s=Vz r s:=by grind [ZH,Vz,q8p,Mm]
def q2X{r:Gr}(h:CW r.c=0)(a:r.e=r.all/\r.a=r.f):QX r=L6 r:=by have ck:=Mm h;unfold QX L6 Iw;rw[a.1,a.2,iU _ _ _ _ BY ke7]
def EM(r:Gr):A3:=#[A8 r.L,A8 r.G]
theorem q2o{r:Gr}(h:EC w r W)(A:r.e=r.all/\r.a=r.f){s:A1}(B:K (r.all++s)<=200000000):Ar As 14 #[.agg<|EM r,Ae ⟨Aw s⟩] W λe u=>e=Ak (Ah AP)/\Dw W u r.ac/\∃N,EC w N u/\ZI (O<|U W) r N (K<|r.all++s):=by
 have F:K s<=200000000:=by simp at B;omega
 obtain⟨l,p⟩:=CC<|Vz r s;have HP:D (∀(V:X) (g:I),EC w r V->A7 V g (IM<|s++Ji) 5->Ar As 36 #[A8 r.L,G (Aa g) (K s)<|K s+8] V λe a=>e=Ak (C Y l)/\Dw V a r.ac/\∃fb,EC w {r with h:=fb,e:=bif r.a then r.e else r.e++s} a/\∀j,fb=H j->r.h=H j\/O (U V)<=j):=λV g y hb=>by rw[<-AE p,<-q2Z h.c A];grind [qzV,lJ]
 have HR:D (∀(V:X) (fb:Option I),EC w {r with h:=fb,e:=bif r.a then r.e else r.e++s} V->Ar As 37 #[A8 r.G,Ae ⟨Aw s⟩] V λe a=>e=Ak (C Y l)/\Dw V a (Gr.ac {r with h:=fb,e:=bif r.a then r.e else r.e++s})/\EC w {r with h:=fb,e:=bif r.a then r.e else r.e++s,all:=bif r.f then r.all else r.all++s} a):=λV fb y=>by rw[<-AE p];exact q07 y B
 have t:D<|(Az W<|M (EM r) 47).heap[O<|U W]?=H (M (EM r) 47):=Cj _;have m:D<|A0 W<|Az W<|M (EM r) 47:=Cm;have HZ:D<|O (U<|Az W<|M (EM r) 47)=O (U W)+1:=CL _ _;have HG:=T h;have am:=T A;have al:D (∀j,r.ac j->j<O (U W)):=λj e=>(h.lt<|AG e).1;have ae:=T F;have af:D<|O (U w)<=O (U W):=by have:=h.a0;have:=Cd h.a;show _<=_;omega
 have cL:=λV=>cx V F;unfold EM at *;go_enter func14,ntmps14
 go_wp2_with fail
 generalize Az W _=W1 at *;refine Ce (cL _) ?_;rintro e k ⟨rfl,z,v⟩;have n:=T<|Cs m<|CG v m.size;have aa:=T z;have f:=T<|Ca (Co v _<|Cd t) t;have k0:=Cc f 0;have cP:=HP.out k _ (HG.next n) z;have b:D<|O (U W)+1<O (U k):=by grind [D]
 rw[AE HZ]at *
 go_wp2_with fail
 refine Ce cP ?_;rintro e w3 ⟨rfl,d,fb,aj,ai⟩;have ag:=T (Ca (d.block _ (Cd f) λe=>by grind [D]) f);have ab:=T (Ca (d.block _ b λe=>by grind [D]) aa);have Q:=T<|(Ll n).next d;have ad:=T d.size;have S:=T ai;have k1:=Cc ag 1;have cR:=HR.out w3 fb aj
 go_wp2_with fail
 refine Ce cR ?_;rintro e w4 ⟨rfl,x,ak⟩;have q:D (∀j,Gr.ac {r with h:=fb,e:=bif r.a then r.e else r.e++s} j->r.ac j\/O (U k)<=j):=λj e=>by
  rcases e with e|e|e
  .exact AF<|AF e
  .exact(S j e).imp_left λe=>AG<|AF e
  exact AF<|AG<|AG e
 have ac:=T ((x.block _ (CQ b ad) λe=>by grind [D]).trans ab);have R:=T (Q.andThen x λj i e=>by grind [D]);have P:=T ak;have cW:=cy ac ae
 go_wp2_with(first|(go_at_call 21;refine Ce cW ?_;rintro e w5 ⟨rfl,ah⟩;have o:=T ah.ad))
 go_ret;refine⟨Z,R.andThen o λj i e=>E,_,P.aq o λj i e=>?_,⟨Z,Z,?_,?_,λj e=>?_⟩⟩
 .have h2:=AE b;have h3:=AE af;rcases i with c|c
  .omega
  rcases q.out _ c with c|c<;>grind [D]
 .grind [D]
 .cases r.f<;>simp
 exact(q j e).imp_right λh=>AY<|AE b
def q7w{vn vc:I}{z:Cz}(h:Vx V base (G va vn vc) z)(hb:base<=O (U V)):vn=K (Nr z)/\Cn V base (G va (K<|Nr z) vc) (Nr z)/\(va.isNone=AP\/PH z=0):=by
 have nil:AX va vn vc=G Ao 0 0->vn=0/\Cn V base (G va 0 vc) []/\va.isNone=AP:=λe=>by injection e with e1 e2 e3;subst e1;subst e3;exact⟨e2,⟨Fi _ _ _ _,hb,_,_,_,Z⟩,Z⟩
 match z,h with
 |.ok (_,.ok l),h =>
  obtain⟨a,c,e⟩:=Qm (show Cn V base _ l from h).1;injection e with e1 e2 e3;subst e2;exact⟨Z,h,AG Z⟩
 |.ok (_,.error _),h=>exact⟨(nil h).1,(nil h).2.1,AF (nil h).2.2⟩
 |.error _,h=>exact⟨(nil h).1,(nil h).2.1,AF (nil h).2.2⟩
theorem n8{l:A1}:∀{B:AJ J},(∀x∈B,x<=65536)->L2 fm bs B=H l->K l<=K bs+65536
 |[],_,h=>Bs
 |y::B,hb,h=>by
  have b:=hb y<|Mn ..;rw[L2]at h;split at h
  .grind
  exact n8 (λx a=>hb x<|LM _ a) h
theorem q51(ck:LL c)(W:X){l:A1}(hl:K l<=200000000):K (Nr<|Iw c l)<=200000000:=by
 have o:=ck.b;have n:=ck.a;have b:=SB W c.b c.bytes (bs:=l) ck.f E E E E hl;unfold Iw kC;generalize hD:DE c.f l c.b c.bytes=D at *;obtain f|a:=D
 .exact Ex _
 dsimp only;have d:DJ (c.b.toNat+1) a<=1638400/\F8 (c.b.toNat+1) a:=Xb b λe p h=>⟨B3 ((Qz E hD<|c.b.toNat+1).1) h.2.2,(Qz E hD _).2⟩
 have k:=Z8 (Gy c) (c.b.toNat+1) a (0,0,0,0);have m:=Sz (fm:=c.out)<|Zz (c:=Gy c) (R:=(0,0,0,0)) d.2;generalize(D6 (Gy c) (c.b.toNat+1) [] a (0,0,0,0)).1.getD .nil=d2 at *;rcases h3:LK c.out (c.b.toNat+1) d2 c.B with e|s
 .exact Ex _
 show K s<=_;unfold LK J0 at h3;split at h3
 .cases h3
 split at h3
 .cases h3
 next h4 =>
 injection h3 with h3;subst h3;split at h4
 .grind
 have:=n8 (λx j=>by obtain⟨i,g,rfl⟩:=ae.1 j;exact ck.b6 i g) h4;omega
def q3i{r:Gr}(h:CW r.c=0)(W:X)(hl:K r.all<=200000000):K (Nr<|L6 r)<=200000000:=by
 unfold L6;cases r.f
 .exact q51 (Mm h) W hl
 simp[Nr]
def q77(R:Cy)(w:X):(binOp .eql 82 (.agg<|CI R)<|.agg<|CI R).run As w=.ok (Ah AP) w:=by unfold CI;go_simp
theorem qt6{r:Gr}(h:EC w r W)(hp:r.e=r.all/\r.a=r.f)(hw:A0 w W)(hs:K r.all<=200000000){M:I}(hl:Fu W B b0 cs gv la lcap M xs)(hM:M<=100000000)(hB:O (U w)<=B/\O (U w)<=b0/\b0<=O (U W))(hx:∀j,r.ac j->j≠B/\¬Gw la lcap M xs j):Ar As 15 #[A8 B,.agg<|EM r] W λe S=>e=Ak (Ah AP)/\Dw W S (λj=>r.ac j\/j=B\/Ax (AX la (4*M) lcap)=H j)/\(∃y z A,Fu S B b0 cs gv y z (M+1) A/\∀j,Gw y z (M+1) A j->Gw la lcap M xs j\/O (U W)<=j)/\∃r',EC w r' S/\∀bg,ZI bg r r'<|K r.all:=by
 obtain⟨R,a7⟩:=CC<|QT<|L6 r;obtain⟨F,HE⟩:=CC<|PH<|L6 r;obtain⟨ak,a5⟩:=CC<|QU<|L6 r;obtain⟨l,HL⟩:=CC<|Nr<|L6 r;have an:=q3i h.c W hs;rw[AE HL]at an;have HP:D (∀V:X,EC w r V->Ar As 38 #[A8 r.L] V λe k=>∃d m,e=Ak (Af #[G d (K l) m,.agg<|CI R,C Y F,C Y ak])/\Dw V k r.ac/\EC w {r with h:=Ao,a:=AP} k/\Cn k (O<|U V) (G d (K l) m) l/\(d.isNone=AP\/F=0)):=λV P=>Ce (qv5 P) (by rw[q2X h.c hp];rintro e k ⟨d,vn,m,rfl,k1,k2,k3⟩;obtain⟨rfl,h4,h5⟩:=q7w k3 k1.size;grind [D]);have HR:D (∀V:X,EC w {r with h:=Ao,a:=AP} V->A0 w V->Ar As 39 #[A8 r.G] V λe k=>e=Ak (Af #[Ae ⟨Aw l⟩,.agg<|CI R,C Y F,C Y ak])/\Dw V k (Gr.ac {r with h:=Ao,a:=AP})/\EC w {r with h:=Ao,a:=AP,f:=AP} k):=λV P hw=>by rw[<-AE a7,<-AE HE,<-AE a5,<-AE HL];exact qu4 P hw hs
 have Q:D<|(Az W<|Aj (EM r) 47).heap[O<|U W]?=H (Aj (EM r) 47):=Cj _;have HB:D<|A0 W<|Az W<|Aj (EM r) 47:=Cm;have HZ:D<|O (U<|Az W<|Aj (EM r) 47)=O (U W)+1:=CL _ _;have HG:=T h;have a6:=T hp;have u:D (∀j,r.ac j->O (U w)<=j/\j<O (U W)/\j≠B/\¬Gw la lcap M xs j):=λj e=>⟨(h.lt<|AG e).2 e,(h.lt<|AG e).1,hx j e⟩
 have q:=T hl;have N:=T hw;have ar:=T hB;have af:=T an;have k0:=Cc Q 0;unfold EM at *;go_enter func15,ntmps15
 go_wp2_with fail
 generalize Az W _=W1 at *;have cP:=HP.out W1<|HG.next HB;refine Ce cP ?_;rintro e b ⟨d,m,rfl,al,bc,v,ba⟩;have f:=T<|(Ll HB).next al;have aj:=T (Ca (al.block _ (Cd Q) λe=>by grind [D]) Q);rw[AE HZ]at v;have ah:D<|O (U W)+1<=O (U b):=by grind [D]
 have ay:=T bc;have x:=T v;have aw:=T ba;have bj:D (∀g,Ax (AX d (K l) m)=H g->g<O (U b)):=λg e=>QW v e;have o:D<|A0 b<|Az b<|Aj (CI R) 82:=Cm;have a8:=T<|Ca (Co o _<|Cd aj) aj;have ab:D<|(Az b<|Aj (CI R) 82).heap[O<|U b]?=H (Aj (CI R) 82):=Cj _;have k1:=Cc a8 1;have cR:=HR.out (Az b<|Aj (CI R) 82) (ay.next o) (Cs N ⟨f.os,f.tape,f.output,f.size,λj a=>f.block j (CQ a N.size) λe=>by grind [D]⟩ |>.trans (CG o<|CE N.size f.size))
 go_wp2_with(first
  |(refine D8 Z 82 _ _ Z (O<|U b) (CI R) Z Z 82 _ (Cj b) Fh Z Bw ?_;rw[Ge])
  |fail)
 generalize Az b _=w3 at *;refine Ce cR ?_;rintro e c ⟨rfl,n,bd⟩;have p:D (∀j,Gr.ac {r with h:=Ao,a:=AP} j->r.ac j):=λj e=>by
  rcases e with e|e|e
  .exact AF e
  .cases e
  exact AG<|AG e
 have bm:=n.size;have bb:=o.size;have ao:∀j,O (U W)<=j->j<O (U w3)->c.heap[j]?=w3.heap[j]?:=λj i s=>n.block j s λe=>by grind [D]
 have ax:=T<|(f.next<|Ll o).andThen n λj _ e=>p.out j e;have ac:=T<|Ca (ao _ (AY<|AE ah)<|Cd ab) ab;have a4:=T<|ZG x E λg e=>Ca (ao g (AY<|DK x.1 e)<|CQ (QW x e) bb)<|Co o g<|QW x e;have az:=T bd;have ai:=T<|Cd ac;have t:D<|A0 c<|Az c<|Aj (CI R) 82:=Cm;have ap:D<|(Az c<|Aj (CI R) 82).heap[O<|U c]?=H (Aj (CI R) 82):=Cj _;have ad:=T<|ax.next<|Ll t;have ae:=T (q.kept ad λj a e=>by grind [u.out j e]);have ag:=T<|MM a4 t;have au:=T<|Ca (Co t _ ai) ac;have a0:=T<|az.next t;have a9:D<|O (U<|Az c<|Aj (CI R) 82)=O (U c)+1:=CL _ _
 go_wp2_with(first
  |(refine D8 Z 82 _ _ Z (O<|U c) (CI R) Z Z 82 _ (Cj c) Fh Z Bw ?_;rw[Ge])
  |fail)
 generalize Az c _=w5 at *;have aa:∀j,Gw la lcap M xs j->j<O (U W):=λj a=>by
  rcases a with a|⟨bf,bh,i,s⟩
  .exact En q.b.ad a
  exact(q.e bf bh j i s).2.1
 have bl:=Cd q.b.b;refine Ce (eY ae.b (base:=O (U W)+1) E (λg e=>AY<|aa g<|AF e) (by grind [D]) (by grind [D]) E ag af aw) ?_;rintro e w6 ⟨rfl,bk,bq,a1,c1,a2,c2,a3,c3,hk⟩;have am:∀j,O (U W)+1<=j->j<O (U w5)->Ax (AX d (K l) m)≠H j->w6.heap[j]?=w5.heap[j]?:=λj i s h3=>hk.ad.block j s λe=>by
  rcases e with e|e|e|e
  .omega
  .have:=aa j<|AF e.symm;omega
  .exact h3 e.symm
  omega
 have be:=AE ah;have bo:=AE ai;have bp:=AE a9;have av:=T (Ca (am _ be E λe=>by grind [D]) au);have aq:=T (Ca (am _ E E λe=>by grind [D]) ap);have HK:=T hk;have bi:=T aa;have hq:=q77 R
 go_wp2_with(first
  |(refine F0 Z ?hw Z av underlying82 Z Fh ?_;case hw=>simp[go_sem];done)
  |(refine F0 Z ?hw Z aq underlying82 Z Fh ?_;case hw=>simp[go_sem];done))
 go_ret;have hF:=HK.ad;have ho:∀j,H j=Ax (AX d (K l) m)->O (U W)+1<=j:=λj e=>DK ag.1 e.symm;obtain⟨y,z,A,f1,f2⟩:=lK ae (λj a=>by grind [D]) rfl af HK;refine⟨Z,(M1 ad λj e=>AF e).andThen hF λj a e=>?_,⟨y,z,A,f1,λj e=>(f2 j e).imp_right λh=>E⟩,_,a0.aq hF λj a e=>?_,λ_=>⟨Z,Z,⟨a6.1,Z⟩,Cr _,λj e=>AF<|p j e⟩⟩
 .grind
 have hB:=AE ar;have bn:j<O (U W):=by
  rcases a with a|a
  .omega
  exact(u j<|p j a).2.1
 rcases e with e|e|e|e
 .rcases a with a|a
  .omega
  exact(u j<|p j a).2.2.1 e
 .rcases a with a|a
  .have:=DK q.b.ad e.symm;omega
  exact(u j<|p j a).2.2.2<|AF e.symm
 .have:=ho j e;omega
 omega
structure Gz(w:Ap)(cs:Aq)(W:Ap)(S M:AH)(rs:AJ Gr)(ga:A4)(gcap:AH)(la:A4)(lcap:AH)(xs:AJ Aq):Prop where
 ac:A0 w W
 a:Fu W (Au (Av w)) (Au (Av w)) cs (Ac ga (At rs) gcap) la lcap M xs
 ad:W.ownsRow (Au (Av w)) 47 2 (Ac ga (At rs) gcap) (At rs) (rs.flatMap λr=>(EM r).toList)
 b:∀(i:AH) (r:Gr),rs[i]?=An r->EC w r W/\(r.e=r.all/\r.a=r.f)/\At r.all<=S
 e:∀(i k:AH) (r r':Gr),rs[i]?=An r->rs[k]?=An r'->i≠k->∀j,r.ac j->¬r'.ac j
 out:∀(i:AH) (r:Gr),rs[i]?=An r->∀j,r.ac j->j≠Au (Av w)/\¬Gw la lcap M xs j/\Ax (AX ga (At rs) gcap)≠An j
 c:∀j,Ax (AX ga (At rs) gcap)=An j->j≠Au (Av w)/\¬Gw la lcap M xs j
theorem Gz.next{M:I}{rs:AJ Gr}(h:Gz w cs W S M rs ga gcap la lcap xs)(a:A0 W W')(c:S<=S'):Gz w cs W' S' M rs ga gcap la lcap xs :=
 {h with
  ac:=Cs h.ac (CG a h.ac.size)
  a:=h.a.next a
  ad:=NX h.ad λj e=>Co a j (En h.ad e)
  b:=λi r b=>⟨(h.b i r b).1.next a,(h.b i r b).2.1,CE (h.b i r b).2.2 c⟩}
def Fu.lt{M:I}(h:Fu V B b0 cs gv la lcap M xs)(a:Gw la lcap M xs j):j<O (U V):=by
 rcases a with a|⟨i,v,b,c⟩
 .exact En h.b.ad a
 exact(h.e i v j b c).2.1
theorem q2L{rs:AJ Gr}{r r':Gr}(hi:rs[i]?=H r)(b:r'.L=r.L)(a:r'.G=r.G):(rs.set i r').flatMap (λr=>(EM r).toList)=rs.flatMap λr=>(EM r).toList:=by
 have e:EM r'=EM r:=by unfold EM;rw[b,a]
 rw[aG,aG,List.map_set,e];congr 1;apply VS;intro k;grind
theorem Gz.upd{M:I}{rs:AJ Gr}(h:Gz w cs W S M rs ga gcap la lcap xs){r r':Gr}(hi:rs[i]?=H r)(hF:Dw W W' λj=>r.ac j\/j=O (U w)\/Ax (AX la (4*M) lcap)=H j)(A:EC w r' W')(g:ZI (O<|U W) r r' S')(z:S<=S')(N:Fu W' (O<|U w) (O<|U w) cs (G ga (K rs) gcap) la' lcap' M' xs')(x:∀j,Gw la' lcap' M' xs' j->Gw la lcap M xs j\/O (U W)<=j)(P:∀j,r'.ac j->¬Gw la' lcap' M' xs' j):Gz w cs W' S' M' (rs.set i r') ga gcap la' lcap' xs':=by
 have y:=h.b i r hi;have hw:=h.ac.size;have v:∀j,j<O (U w)->¬(r.ac j\/j=O (U w)\/Ax (AX la (4*M) lcap)=H j):=λj d e=>by
  rcases e with e|e|e
  .have:=(y.1.lt<|AG e).2 e;omega
  .omega
  have:=DK h.a.b.ad e;omega
 have p:K (rs.set i r')=K rs:=List.length_set;have o:∀{k:I} {q:Gr},(rs.set i r')[k]?=H q->(k=i/\q=r')\/(k≠i/\rs[k]?=H q):=λ{k q} f=>B9;have V:∀{k:I} {q:Gr},k≠i->rs[k]?=H q->∀j,r'.ac j->¬q.ac j:=λ{k q} f b j s a=>by
  rcases g.ac j s with e|e
  .exact h.e i k r q hi b (Ne.symm f) j e a
  have:=((h.b k q b).1.lt<|AG a).1;omega
 refine⟨Cs h.ac ⟨hF.os,hF.tape,hF.output,hF.size,λj d=>hF.block j E<|v j d⟩,by rw[p];exact N,?_,λk q f=>?_,λk l q R f F B j s a=>?_,λk q f j e=>?_,λj e=>?_⟩
 .rw[p,q2L hi g.L g.G];refine NX h.ad λj e=>hF.block j (En h.ad e) λa=>?_;have:=h.c j e;rcases a with a|a|a
  .exact(h.out i r hi j a).2.2 e
  .exact this.1 a
  exact this.2<|AF a
 .rcases o f with⟨rfl,rfl⟩|⟨u,b⟩
  .exact⟨A,g.both,g.len⟩
  have t:=h.b k q b;refine⟨t.1.aq hF λj d e=>?_,t.2.1,CE t.2.2 z⟩;rcases d with d|d
  .exact v j d e
  have c:=h.out k q b j d;rcases e with e|e|e
  .exact h.e k i q r b hi u j d e
  .exact c.1 e
  exact c.2.1<|AF e
 .rcases o f with⟨rfl,rfl⟩|⟨u,b⟩
  .grind
  rcases o F with⟨rfl,rfl⟩|⟨aa,Q⟩
  .grind
  exact h.e k l q R b Q B j s a
 .rw[p];rcases o f with⟨rfl,rfl⟩|⟨u,b⟩
  .refine⟨?_,P j e,λa=>?_⟩
   .rcases g.ac j e with m|m
    .exact(h.out k r hi j m).1
    have:=Cd h.a.b.b;omega
   rcases g.ac j e with m|m
   .exact(h.out k r hi j m).2.2 a
   have:=En h.ad a;omega
  have c:=h.out k q b j e;refine⟨c.1,λa=>?_,c.2.2⟩;rcases x j a with n|n
  .exact c.2.1 n
  have:=((h.b k q b).1.lt<|AG e).1;omega
 rw[p]at e;have c:=h.c j e;refine⟨c.1,λa=>?_⟩;rcases x j a with n|n
 .exact c.2 n
 have:=En h.ad e;omega
theorem Gz.put{M:I}{rs:AJ Gr}(h:Gz w cs W S M rs ga gcap la lcap xs)(hF:Dw W W' λj=>j=O (U w)\/Ax (AX la (4*M) lcap)=H j)(k:S<=S')(m:Fu W' (O<|U w) (O<|U w) cs (G ga (K rs) gcap) la' lcap' M' xs')(l:∀j,Gw la' lcap' M' xs' j->Gw la lcap M xs j\/O (U W)<=j):Gz w cs W' S' M' rs ga gcap la' lcap' xs':=by
 have d:∀j,j<O (U w)->¬(j=O (U w)\/Ax (AX la (4*M) lcap)=H j):=λj b e=>by
  rcases e with e|e
  .omega
  have:=DK h.a.b.ad e;omega
 have p:=h.ac.size;have f:∀{j},¬Gw la lcap M xs j->j<O (U W)->¬Gw la' lcap' M' xs' j:=λg n e=>(l _ e).elim g λo=>E;exact⟨Cs h.ac ⟨hF.os,hF.tape,hF.output,hF.size,λj b=>hF.block j E<|d j b⟩,m,NX h.ad λj e=>hF.block j (En h.ad e) λc=>c.elim (h.c j e).1 λc=>(h.c j e).2<|AF c,
  λi r a=>⟨(h.b i r a).1.aq hF λj b e=>b.elim (λb=>d j b e) λb=>e.elim (h.out i r a j b).1 λe=>(h.out i r a j b).2.1<|AF e,(h.b i r a).2.1,CE (h.b i r a).2.2 k⟩,h.e,
  λi r a j e=>⟨(h.out i r a j e).1,f (h.out i r a j e).2.1 ((h.b i r a).1.lt<|AG e).1,(h.out i r a j e).2.2⟩,λj e=>⟨(h.c j e).1,f (h.c j e).2<|En h.ad e⟩⟩
def q7x(W:Ap)(B b0:AH)(cs gv:Aq)(la:A4)(lcap M:AH)(xs:AJ Aq)(e:Ending)(W':Ap):Prop:=e=Ak (Ah AP)/\Dw W W' (λj=>j=B\/Ax (AX la (4*M) lcap)=An j)/\∃la' lcap' xs',Fu W' B b0 cs gv la' lcap' (M+1) xs'/\∀j,Gw la' lcap' (M+1) xs' j->Gw la lcap M xs j\/Au (Av W)<=j
theorem qzT(fm:J)(s:A1):(L1 fm s).1.length<=K s:=by unfold L1;grind
def q3g(u:AK){M:I}{o:FR}(hs:o.s.size<=200000000)(h:Fu W B b0 cs gv la lcap M xs)(hM:M<=100000000)(an:b0<=O (U W))(ht:Jl W)(hT:Jr (O<|U W) W):Ar As (bif u then 10 else 9) #[A8 B,.agg o.ad] W<|q7x W B b0 cs gv la lcap M xs:=by
 obtain⟨s,ae⟩:∃s:A1,o.s=⟨Aw s⟩:=⟨o.s.data.toList,Ba⟩
 have w:K s<=200000000:=by rw[ae]at hs;simpa[ByteArray.size]using hs
 obtain⟨W1,F⟩:=IB<|Az W<|Aj o.ad 34;have HD:=T F;have L:D<|A0 W W1:=by rw[F];exact Cm
 have Q:D<|A7 W1 (O<|U W) o.ad 34:=by rw[F];exact Cj _
 have x:D (∀V:X,A7 V (O<|U W) o.ad 34->A6 V (O<|U W) 1 (C Y o.a)/\A6 V (O<|U W) 2 (C Y o.b)/\A6 V (O<|U W) 3 (C Y o.c)/\A6 V (O<|U W) 4 (C Y o.d)/\A6 V (O<|U W) 5 (Ae ⟨Aw s⟩)):=λV f=>⟨Cc f 1,Cc f 2,Cc f 3,Cc f 4,ae▸Cc f 5⟩
 obtain⟨i,k,m,n,p⟩:=x.out W1 Q;have z:=T h;have r:D<|K s<=200000000/\M<=100000000/\b0<=O (U W):=⟨w,hM,an⟩
 have cL:=λV=>cx V w;have l:D (∀V,A0 W V->Jl V/\Jr (O<|U V) V):=λV f=>⟨ht.ac f,λw' hw=>hT w'<|Cs f<|CG hw f.size⟩
 clear h ht hT F hs ae hM an;cases u
 case' false =>
  have ad:=q2B W o.a o.b o.c o.d w;have HP:=T λV aa (f:E2 V aa s) A=>qub o.a o.b o.c o.d (K s+8) f (l V A).1 (l V A).2 r.1;have HR:=T λV=>qtD V o.a o.b o.c o.d r.1;generalize K4 o.a o.b o.c o.d s=R at *;obtain⟨az,ao,a6⟩:=R
 case' true =>
  have ad:=CE (qzT o.a s) w;have HP:=T λV aa (f:E2 V aa s) A=>q5l o.a (K s+8) f E (l V A).1;have HR:=T λV=>qtO V o.a s;generalize L1 o.a s=R at *;obtain⟨az,ao⟩:=R
 all_goals
  have ai:=T ad;dsimp only[cond]at *;clear w ad
  first|go_enter func9,ntmps9|go_enter func10,ntmps10
  go_wp2_with(first
   |(refine bz HD ?_)
   |fail)
  refine Ce (cL _) ?_;rintro e w2 ⟨rfl,ac,ab⟩;have P:=T ac;have N:=T<|Cs L<|CG ab L.size;have g:=T<|Ca (Co ab _<|Cd Q) Q;have cP:=HP.out w2 _ (lJ ac r.1) N;clear i k m n p ac ab cL;obtain⟨i,k,m,n,p⟩:=x.out w2 g
  go_wp2_with fail
  refine Ce cP ?_;rintro e w3 ⟨t,va,vc,rfl,am,al⟩;have af:=T<|Cs N<|CG t N.size;have ag:=T<|Ca (Co t _<|Cd P) P;have a:=T<|Ca (Co t _<|Cd g) g;have au:=T am;have aq:=T al;have av:=T t.size;clear i k m n p t am al cP;obtain⟨i,k,m,n,p⟩:=x.out w3 a
  go_wp2_with fail
  refine Ce (HR _) ?_;rintro e w4 ⟨rfl,q⟩;have ap:=T<|Cs af<|CG q af.size;have ar:=T<|Ca (Co q _<|Cd ag) ag;have ay:=T<|Ca (Co q _<|Cd a) a;have S:=T<|MM au q;have aw:=T<|CE av q.size;clear i k m n p q;obtain⟨i,k,m,n,p⟩:=x.out w4 ay
  go_wp2_with fail
  refine Ce (cy ar r.1) ?_;rintro e w5 ⟨rfl,v⟩;have a9:=L.size;have y:D<|Dw W w5 λ_=>False:=(Ll ap).andThen v.ad λj hj e=>E;have HG:=T<|Cd P;have aj:=T<|ZG S v.size λak e=>v.block ak (QW S e) λe2=>B3 (DK S.1 e)<|AE HG;have ax:=T<|CE aw v.size;have ah:=T<|z.kept y λ_ _=>id;clear i k m n p v
  go_wp2_with fail
  have hg:=AE HG;have a8:=Cd z.b.b;have hn:=AE r;refine Ce (eY ah.b (base:=O<|U w2) E (λak e=>AY<|z.lt<|AF e) (AY y.size) ax E aj ai aq) ?_;rintro e w6 ⟨rfl,a7,ba,a1,c1,a2,c2,a3,c3,hk⟩;have HK:=T hk;clear hk;go_wp2;go_ret;obtain⟨a0,a4,a5,f1,f2⟩:=lK ah (λj hj=>AY<|z.lt hj) rfl ai HK;refine⟨Z,(M1 y λ_ e=>e.elim).andThen HK.ad λj hj e=>?_,a0,a4,a5,f1,λj e=>(f2 j e).imp_right λh=>E⟩;have h5:=y.size;rcases e with e|e|e|e
  .exact AF e
  .exact AG e.symm
  .have:=DK aj.1 e.symm;omega
  omega
def Tryz.infoPair:(prog.info? 47).map (λi=>(i.zero,i.size,i.bytes))=H (H<|Ag #[Ad Ao,Ad Ao],2,16):=B6
def q4N(h:K5 (c.ai V) t0 lo L b fb fed W):K5 c t0 lo L b fb fed W:=by obtain⟨d,A,q,o,m,n,l,k,e,f,i,g,a,j⟩:=h;exact⟨d,A,q,o,m,n,l,k,e,f,i,g,⟨a.a,a.d,a.e⟩,j⟩
theorem Gz.ai{M:I}{rs:AJ Gr}{ga':A4}{gcap':I}(h:Gz w cs W S M rs ga gcap la lcap xs){r:Gr}(hF:Dw W W' λj=>j=O (U w)\/Ax (AX ga (K rs) gcap)=H j)(F:A7 W' (O<|U w) #[cs,G ga' (K rs+1) gcap',G la (4*M) lcap] 31)(hr:W'.ownsRow (O<|U w) 47 2 (G ga' (K rs+1) gcap') (K rs+1)<|(rs.flatMap λr=>(EM r).toList)++(EM r).toList)(A:∀j,Ax (AX ga' (K rs+1) gcap')=H j->Ax (AX ga (K rs) gcap)=H j\/O (U W)<=j)(P:∀j,r.ac j->Ax (AX ga' (K rs+1) gcap')≠H j)(V:EC w r W')(hp:r.e=r.all/\r.a=r.f)(Q:K r.all<=S)(N:∀j,r.ac j->O (U W)<=j):Gz w cs W' S M (rs++[r]) ga' gcap' la lcap xs:=by
 have R:=Cd h.a.b.b;have L:∀j,Gw la lcap M xs j->¬(j=O (U w)\/Ax (AX ga (K rs) gcap)=H j):=λj a e=>by
  rcases e with rfl|e
  .rcases a with a|⟨i,v,p,f⟩
   .exact h.a.b.ne _ a Z
   have:=(h.a.e i v _ p f).1;omega
  exact(h.c j e).2 a
 have b:=λj a=>hF.block j (h.a.lt a)<|L j a;have s:K (rs++[r])=K rs+1:=Ba;have n:∀{k:I} {q:Gr},(rs++[r])[k]?=H q->rs[k]?=H q\/(k=K rs/\q=r):=λ{k q} b=>B9;refine⟨h.ac.trans ⟨hF.os,hF.tape,hF.output,hF.size,λj a=>hF.block j E λe=>?_⟩,⟨⟨by rw[s];exact F,NX h.a.b.ad λj e=>b j<|AF e,h.a.b.ne⟩,λi v z=>(h.a.all i v z).aq λg e=>b g<|AG ⟨i,v,z,e⟩,λi v g p f=>?_,h.a.f,h.a.d⟩,?_,λk q b=>?_,λk l q B b y x j u c=>?_,λk q b j e=>?_,λj e=>?_⟩
 .rcases e with e|e
  .omega
  have:=DK h.ad e;omega
 .have:=h.a.e i v g p f;have:=hF.size;grind
 .grind
 .rcases n b with d|⟨rfl,rfl⟩
  .have f:=h.b k q d;refine⟨f.1.aq hF λj a e=>?_,f.2⟩;rcases a with a|a
   .rcases e with e|e
    .omega
    have:=DK h.ad e;omega
   have o:=h.out k q d j a;grind
  grind
 .rcases n b with d|⟨rfl,rfl⟩
  .rcases n y with t|⟨rfl,rfl⟩
   .exact h.e k l q B d t x j u c
   have:=((h.b k q d).1.lt<|AG u).1;grind
  rcases n y with t|⟨rfl,rfl⟩
  .have:=((h.b l B t).1.lt<|AG c).1;grind
  exact x Z
 .rw[s];rcases n b with d|⟨rfl,rfl⟩
  .have o:=h.out k q d j e;refine⟨o.1,o.2.1,λc=>?_⟩;rcases A j c with m|m
   .exact o.2.2 m
   have:=((h.b k q d).1.lt<|AG e).1;omega
  have:=N j e;exact⟨E,λc=>AY<|h.a.lt c,P j e⟩
 rw[s]at e;rcases A j e with m|m
 .exact h.c j m
 exact⟨E,λc=>AY<|h.a.lt c⟩
theorem qtk(hc:Fa w c)(hk : -9223372036854775808<=c.key/\c.key<=9223372036854775807)(ht:I6 (O<|U w) w){M:I}{rs:AJ Gr}(h:Gz w cs W S M rs ga gcap la lcap xs)(hn:K rs<=100000000):Ar As 12 #[A8<|O<|U w,.agg c.ad] W λe W'=>e=Ak (Ah AP)/\∃bj r b7,Gz w cs W' S M bj r b7 la lcap xs/\K bj<=K rs+1:=by
 have g:=T h;have HT:=T ht;have bt:=T hk;have R:=T hc;have HS:=T c.size;have B:D<|A0 W<|Az W<|Aj c.ad 40:=Cm;have an:D<|(Az W<|Aj c.ad 40).heap[O<|U W]?=H (Aj c.ad 40):=Cj _;have b5:D<|O (U<|Az W<|Aj c.ad 40)=O (U W)+1:=CL _ _;have n:=T<|h.ac.trans<|B.out.mono h.ac.size;go_enter func12,ntmps12
 go_wp2_with(first
  |(refine CO Z 40 _ Z _ Z _ _ _ _ an.out underlying40 Z (DC HS.out) ?_)
  |fail)
 generalize Az W _=W1 at *;refine(bu<|R.out.ac n.out).mono ?_;rintro e o ⟨rfl,be⟩;have k:=T be;have bm:=T<|bo (R.out.ac n.out) be;have ag:=T<|(c.ai W1).size;have bz:=T<|(c.ai W1).aq;have F:D<|A0 o<|Az o<|Aj (c.ai W1).ad 40:=Cm;have ae:D<|(Az o<|Aj (c.ai W1).ad 40).heap[O<|U o]?=H (Aj (c.ai W1).ad 40):=Cj _
 go_wp2_with(first
  |(refine Wx Z Z Z (O<|U o) Z ?_)
  |(refine D8 Z 40 _ _ Z (O<|U o) (c.ai W1).ad Z Z 40 FQ (Cj o) (DC ag.out) (PY ag.out) bz.out ?_;rw[Ge])
  |(refine CO Z 40 _ Z _ Z _ _ _ _ ae.out underlying40 Z (DC ag.out) ?_)
  |fail)
 generalize Az o _=w3 at *;have a5:=T<|n.out.trans<|k.out.ac.mono n.out.size;have a6:=T<|a5.out.trans<|F.out.mono a5.out.size;have bc:=T<|OL k.out.ac.size<|Cd ae.out;have aj:=T<|k.out.ac.trans<|F.out.mono k.out.ac.size;have a9:=T<|(aj.out.block _<|Cd an.out).trans an.out;have ax:=T<|(F.out.block _<|Cd k.out.e).trans k.out.e;have a1:=T<|(F.out.block _<|Cd k.out.b).trans k.out.b;have bv:=T<|Cd k.out.b;have bl:=T λap hV=>Vg c ap (R.out.ac hV) (HT.out.ac hV).a;have bn:=T λap hV hE hI=>bw (w:=ap) (R.out.ac n.out) hV hE hI;refine(q8G (c.ai W1) w3 (bm.out.ac F.out)<|HT.out.ac a6.out).mono ?_;rintro e f ⟨v,hO⟩;have ab:=T<|aj.out.trans<|v.mono aj.out.size;have ao:=T<|(v.block _<|Cd a9.out).trans a9.out;have bb:=T<|(v.block _<|Cd ae.out).trans ae.out;have ay:=T<|(v.block _<|Cd ax.out).trans ax.out;have a2:=T<|(v.block _<|Cd a1.out).trans a1.out;have b2:=T v.size;have cK:=bl.out f<|n.out.trans<|ab.out.mono n.out.size;have HO:D (∃L P,e=Ak (Af #[.pointer P,C Y<|CW c])/\((P=Ao/\¬CW c=0)\/(P=Aa L/\CW c=0/\K5 c (O<|U w) (O<|U w3) L (O<|U f) Ao [] f))):=by
  rcases hO with⟨h0,rfl⟩|⟨h0,L,rfl,hg⟩
  .exact⟨0,Ao,Z,AF ⟨Z,h0⟩⟩
  refine⟨L,_,?_,AG ⟨Z,h0,q4N hg⟩⟩;rw[show CW c=0 from h0]
 obtain⟨L,P,rfl,hO⟩:=AE HO;have ck:=T hO;have bf:(P.isSome:AK)=(CW c==0):=B9;generalize hce:CW c=E at *;have bk:=T hce;generalize E9 c=N at *;have cm:(E != E)=AQ:=Ba;have cb:O (U W)<O (U W1):=AY<|AE b5;obtain rfl|⟨au,rfl⟩:P=Ao\/∃au,P=H au:=by cases P<;>simp
 case' inl=>have b9:(E==0)=AQ:=by simpa using bf.symm
 case' inr=>have b9:(E==0)=AP:=by simpa using bf.symm
 all_goals
  go_wp2_with(first
   |(refine CO Z 40 _ Z _ Z _ _ _ _ ao.out underlying40 Z (DC HS.out) ?_)
   |(go_at_call 27;refine cK.mono ?_;rintro e w5 ⟨rfl,y⟩;have av:=T<|ab.out.trans<|y.mono ab.out.size;have ba:=T<|(y.block _<|Cd ao.out).trans ao.out;have b4:=T<|(y.block _<|Cd bb.out).trans bb.out;have cW:=bn.out w5 av.out ((y.block _<|Cd ay.out).trans ay.out)<|(y.block _<|Cd a2.out).trans a2.out;have aw:=T y)
   |(refine CO Z 40 _ Z _ Z _ _ _ _ ba.out underlying40 Z (DC HS.out) ?_)
   |(refine CO Z 40 _ Z _ Z _ _ _ _ b4.out underlying40 Z (DC ag.out) ?_)
   |(go_at_call 28;refine cW.mono ?_;rintro e d ⟨rfl,aq,cc⟩;have ak:=T<|av.out.trans aq;have b3:=T<|(aq.block _ cb).trans ba.out;have bp:=T cc;have a4:=T aq.size))
  have az:=T<|g.out.next (S':=S) (B.out.trans<|ak.out.mono B.out.size)<|Cr _
 rotate_left
 .go_ret;exact⟨Z,rs,ga,gcap,AE az,B5⟩
 obtain⟨hE,ar⟩:E=0/\au=⟨L,0,Ao⟩/\K5 c (O<|U w) (O<|U w3) L (O<|U f) Ao [] f:=by grind [D]
 obtain⟨rfl,ar⟩:=ar;subst hE;have bs:D<|K5 c (O<|U w) (O<|U w3) L (O<|U f) Ao [] d:=by have m:=AE aw;have h2:=AE a4;have h3:=AE ab;have h4:=AE ak;have h5:=AE bv;have h6:=AE bc;have h7:=n.out.size;have h8:=AE b2;refine ar.aq ⟨h4.os.trans h3.os.symm,h4.tape.trans h3.tape.symm,h4.output.trans h3.output.symm⟩ (CE m.size h2) λj hj=>?_;have co:j<O (U w)\/O (U w3)<=j/\j<O (U f):=B9;exact(bp.out j (AY m.size) B5 B5).trans<|m.block j B5
 have q:D<|Gz w cs {d with drawn:=d.drawn+1} S M rs ga gcap la lcap xs:=az.out.next (Cu (O<|U d) d).drew<|Cr _
 have a0:D<|K5 c (O<|U w) (O<|U w3) L (O<|U f) Ao [] {d with drawn:=d.drawn+1}:=bs.out.aq ⟨Z,Z,Z⟩ (Cr _) λ_ _=>rfl;have bx:D<|O (U w)<=O (U w3)/\O (U W)<=O (U w3)/\O (U f)<=O (U ({d with drawn:=d.drawn+1}:X)):=⟨a6.out.size,AY<|AE bc,CE aw.out.size a4.out⟩
 have a8:D<|A0 W {d with drawn:=d.drawn+1}:=(B.out.trans<|ak.out.mono B.out.size).drew;refine Dl (S:=λbd=>bd.heap[O<|U W]?=H (Aj c.ad 40)) b3.out B6 ?_;intro i;have a3:D (∀j,Ax (AX ga (K rs) gcap)=H j->j<O (U W)):=λj e=>En g.out.ad e;generalize({d with drawn:=d.drawn+1}:X)=u at *;obtain⟨pi,ch,ce,cf,cg⟩:=DL Tryz.infoPair;have Q:D<|A0 u<|u.alloc<|Aj (DP c.ad [] AQ) 72:=Cm;have af:D<|(u.alloc<|Aj (DP c.ad [] AQ) 72).heap[O<|U u]?=H (Aj (DP c.ad [] AQ) 72):=Cj _;have t:=(Q.out.block _<|Cd i).trans i;have p:=T<|(Q.out.block _<|Cd q.out.a.b.b).trans q.out.a.b.b;have q1:A6 u (O<|U w) 1<|G ga (K rs) gcap:=Cc q.out.a.b.b 1;have q2:(u.alloc<|Aj (DP c.ad [] AQ) 72).cell? ⟨O<|U w,1,Ao⟩=H (G ga (K rs) gcap):=Cc p.out 1;refine Cb 0 42 (A8<|O<|U w) i <| Cb 1 43 (A8<|O<|U w) i <| Cb 2 44 (A8<|O<|U w) i <| Cb 3 45 (A9 (O<|U w) 1) i <| Cb 5 47 (A8 L) i <| Ch 6 48 (.agg c.ad) Z (λbd hZ=>KU (.tmp 3) Z Z hZ underlying40 Z<|DC HS.out) i <| Cb 7 49 (.agg<|DP c.ad [] AQ) i ?_;have ac:D<|Below (O<|U<|u.alloc<|Aj (DP c.ad [] AQ) 72) (u.alloc<|Aj (DP c.ad [] AQ) 72)<|(u.alloc<|Aj (DP c.ad [] AQ) 72).alloc<|Aj #[A8 L,A8<|O<|U u] 47:=Cm;have aa:=(ac.out.block _<|Cd t).trans t;have q3:((u.alloc<|Aj (DP c.ad [] AQ) 72).alloc<|Aj #[A8 L,A8<|O<|U u] 47).cell? ⟨O<|U w,1,Ao⟩=H (G ga (K rs) gcap):=Cc ((ac.out.block _<|Cd p.out).trans p.out) 1;refine Zw (β:=Unit) #[AP,AP,AP,AP,AP,AP,AP,AP,AP,AP,AP,AQ,AQ,AQ,AQ] 4 (λ_=>[(46,G ga (K rs) gcap),(50,A8<|O<|U u),(51,Ag #[A8 L,A8<|O<|U u]),(52,G (Aa<|O (U u)+1) 1 1)]) (λ_=>True) (λ_=>(u.alloc<|Aj (DP c.ad [] AQ) 72).alloc<|Aj #[A8 L,A8<|O<|U u] 47) (λci=>?_) ?_
 .have am:=T ci;refine Hk 4 8 (λl a=>?_) λl a=>?_
  .go_simp;refine a.out _ _ i λ_=>?_;refine CH 8 λl a=>?_;go_simp;refine a.out _ _ t λ_=>?_;refine Cb 9 51 (Ag #[A8 L,A8<|O<|U u]) t <| CH 10 λl a=>?_;go_simp;refine a.out _ _ aa λ_=>?_;exact cast B6<|am.out () trivial
  go_simp;refine a.out _ _ t λ_=>?_;refine Cb 9 51 (Ag #[A8 L,A8<|O<|U u]) t <| Hk 4 10 (λl a=>?_) λl a=>?_
  .go_simp;refine a.out _ _ t λ_=>?_;refine CH 10 λl a=>?_;go_simp;refine a.out _ _ aa λ_=>?_;exact cast B6<|am.out () trivial
  go_simp;refine a.out _ _ aa λ_=>?_;refine CH 4 λl a=>?_;go_simp;refine a.out _ _ aa λ_=>?_;exact cast B6<|am.out () trivial
 rintro _ _;have b6:D<|O (U<|u.alloc<|Aj (DP c.ad [] AQ) 72)=O (U u)+1:=CL _ _;generalize u.alloc _=w7 at *;have b1:=T<|NX q.out.ad λj e=>Q.out.block j<|En q.out.ad e;refine CH 11 λl a=>?_;refine Ks B6 ?_;refine RG (s:=.tmp 46) (x:=.tmp 52) (ad:=⟨O (U u)+1,0,Ao⟩) Z underlying28 ch ce cf cg Z B8 B6 (b1.out.alloc _) 1 1 B6 Z (TS b6.out) (λu hu=>BJ) B8 Bc B5 (by have:=Q.out.size;have:=q.out.ac.size;simp;omega) ?_;intro v' A bi ai cj;obtain⟨r,V,rfl⟩:=Vu bi;have b8:=Cd p.out;have cd:H (O<|U w)≠Ax (AX ga (K rs) gcap):=λe=>(q.out.c _ e.symm).1 Z;have al:=T<|(ai.block _ B7 cd).trans<|(ac.out.block _ b8).trans p.out;have ah:=(ai.block _ B9 λe=>by grind [D]).trans aa;have k1:A6 A (O<|U w) 1<|G ga (K rs) gcap:=Cc al.out 1;have f1:=Dy A (O<|U w) 1 _ _ al.out;have bq:=T<|(Ll Q.out).next (Rz ai λcl e _=>e);have br:=T ((ai.block _ (B0<|Cd af.out) λe=>by grind [D]).trans<|(ac.out.block _<|Cd af.out).trans af.out);have b0:=T bi;have a7:D (∀j,Ax (AX r (K rs+1) V)=H j->Ax (AX ga (K rs) gcap)=H j\/O (U u)<j):=λj e=>by
  have:=Cd af.out;rcases cj with m|m
  .grind
  rw[m]at e;injection e with e;simp at e;exact AG B5
 refine a.out _ _ ah λ_=>?_;refine Cb 12 54 (A8<|O<|U w) ah <| Cb 13 55 (A9 (O<|U w) 1) ah <| CH 14 λl a=>?_;go_simp;have ca:(AB A ⟨O<|U w,1,Ao⟩<|G r (K rs+1) V).heap[O<|U W]?=_:=(CY _ _ _ _<|by grind [D]).trans ah;refine a.out _ _ ca λ_=>?_;refine CK ?_;go_simp;go_wp2;go_ret;have bh:=AE bx;have cn:=Cd g.out.a.b.b;have z:Dw u (AB A ⟨O<|U w,1,Ao⟩<|G r (K rs+1) V) λj=>j=O (U w)\/Ax (AX ga (K rs) gcap)=H j:=(M1 bq.out λj e=>AG e).next (Tu<|AF rfl)
 have cp:=a8.out.size;have ho:∀j,j≠O (U w)->(AB A ⟨O<|U w,1,Ao⟩<|G r (K rs+1) V).heap[j]?=A.heap[j]?:=λj hj=>CY _ _ _ _ kf1;have bg:O (U w3)<=L/\L<O (U f):=by obtain⟨_,_,_,_,_,_,_,_,_,_,_,_,_,⟨_,g2,g3,g4,_⟩,_⟩:=AE a0;omega
 refine⟨Z,rs++[⟨c,O<|U w3,L,O<|U f,O<|U u,Ao,[],AQ,[],AQ⟩],⟨r,V,g.out.ai ((Ll a8.out).andThen z λj _ e=>e) ?_ (NX b0.out λj e=>ho j ?_) (λj e=>(a7.out j e).imp_right λh=>B5) (λj e e2=>?_) ⟨AE bk,AE R,AE bt,⟨bh.1,bg.1,bg.2,bh.2.2⟩,nofun,λ_=>a0.out.aq ⟨z.os,z.tape,z.output⟩ z.size λj hj=>z.block j ?_ λe=>?_,nofun,(ho _<|by dsimp only;omega).trans br.out⟩ ⟨rfl,rfl⟩ (Ex _) λj e=>?_⟩,Ba⟩
 .show _=_;rw[DX _ _ _ _ _ _ al.out];rfl
 .grind [D]
 .rcases a7.out j e2 with m|m
  .have:=a3.out j m;rcases e with e|e|e<;>grind
  rcases e with e|e|e<;>grind
 .grind
 .rcases e with e|e
  .grind
  have h2:=a3.out j e;rcases hj with h|h|h
  .have:=DK g.out.ad e;omega
  .omega
  cases h
 rcases e with e|e|e<;>grind
def Ns(w:Ap)(cs:Aq)(S M n:AH)(e:Ending)(W':Ap):Prop:=e=Ak (Ah AP)/\∃M' rs ga gcap la lcap xs,Gz w cs W' S M' rs ga gcap la lcap xs/\M'<=M+1/\At rs<=n+1
def q8f(s:AT):s=⟨Aw s.data.toList⟩:=Ba
theorem n9:∀{rs:AJ Gr} {k:I} {r:Gr},rs[k]?=H r->(rs.flatMap λr=>(EM r).toList)[k*2]?=H (A8 r.L)/\(rs.flatMap λr=>(EM r).toList)[k*2+1]?=H (A8 r.G)
 |[],_,_,h=>Bs
 |q::rs,0,r,h=>by obtain rfl:q=r:=Bu;exact⟨Z,Z⟩
 |q::rs,k+1,r,h=>by rw[show(k+1)*2=k*2+2 by omega];exact n9 (rs:=rs) Bu
theorem q9d{rs:AJ Gr}(h:W.ownsRow base 47 2 (G ga (K rs) gcap) (K rs)<|rs.flatMap λr=>(EM r).toList){r:Gr}(d:rs[k]?=H r):∃a,ga=Aa a/\a<O (U W)/\A6 W a (k*2) (A8 r.L)/\A6 W a (k*2+1) (A8 r.G):=by
 have s:=Dk d;rcases h.2 with⟨b,c⟩|⟨g,f,i,e,b,c,l,m,n,o⟩
 .omega
 injection e with e1 e2 e3;have p:∀j,j<K rs*2->AC W ⟨g,j,Ao⟩=(rs.flatMap λr=>(EM r).toList)[j]?:=λj q=>by grind [Cc]
 grind [n9]
def q7I(r:Gr):(prog.info? 47).map (·.size)=H (EM r).size:=B6
theorem q5S{M:I}{rs:AJ Gr}(h:Gz w cs W S M rs ga gcap la lcap xs){r:Gr}(hi:rs[i]?=H r)(s:AT)(o:S+s.size<=200000000):Ar As 14 #[.agg<|EM r,.string s] W<|Ns w cs (S+s.size) M<|K rs:=by
 obtain⟨d,f,n⟩:=h.b i r hi;have q:K s.data.toList=s.size:=Fz;rw[show(Value.string s)=Ae ⟨Aw s.data.toList⟩ by rw[<-q8f]];refine Ce (q2o d f (s:=s.data.toList) B9) ?_;rintro e m ⟨rfl,hF,l,k,a⟩;have g:=h.out i r hi;exact⟨Z,M,rs.set i l,ga,gcap,la,lcap,xs,h.upd hi (M1 hF λj e=>AF e) k {a with len:=CE a.len B9} E (h.a.kept hF λj p e=>by
  grind) (λj e=>AF e) (λj e b=>by
  rcases a.ac j e with c|c
  .exact(g j c).2.1 b
  have:=h.a.lt b;omega),E,Ba⟩
def qwi{M:I}{rs:AJ Gr}(h:Gz w cs W S M rs ga gcap la lcap xs){r:Gr}(hi:rs[i]?=H r)(p:S<=S')(z:S'<=200000000)(o:M<=100000000):Ar As 15 #[A8<|O<|U w,.agg<|EM r] W<|Ns w cs S' M<|K rs:=by
 obtain⟨f,n,x⟩:=h.b i r hi;have b:=h.out i r hi;refine Ce (qt6 f n h.ac E h.a o ⟨Cr _,Cr _,h.ac.size⟩ λj e=>⟨(b j e).1,(b j e).2.1⟩) ?_;rintro e l ⟨rfl,hF,⟨s,t,v,q,k⟩,u,g,c⟩;exact⟨Z,M+1,rs.set i u,ga,gcap,s,t,v,h.upd hi hF g {c (O<|U W)with len:=CE (c 0).len E} p q k (λj e m=>by
  have y:=(g.lt<|AG e).1;rcases(c<|O<|U l).ac j e with a|a
  .rcases k j m with d|d
   .exact(b j a).2.1 d
   have:=(f.lt<|AG a).1;omega
  omega),E,Ba⟩
def qvt{o:FR}(c:o.f=7\/o.f=8)(p : -9223372036854775808<=o.a/\o.a<=9223372036854775807){M:I}{rs:AJ Gr}(h:Gz w cs W S M rs ga gcap la lcap xs)(F:K rs<=maxLen)(m:S+o.s.size<=200000000)(z:M<=100000000):Ar As 6 #[Ad<|H ⟨O<|U w,0,Ao⟩,.agg o.ad] W<|Ns w cs (S+o.s.size) M<|K rs:=by
 have oa:o.ad[1]?=H (C Y o.a):=rfl;have os:o.ad[5]?=H (.string o.s):=rfl;have A:AC W ⟨O<|U w,1,Ao⟩=H (G ga (K rs) gcap):=Cc h.a.b.b 1;have P:=Cd h.a.b.b;have i:=T h;rcases VO (K rs)with y|j
 .rw[y]at A;rcases c with c|c
  case' inl=>have ok:o.ad[0]?=H (C Y 7):=kfM
  case' inr=>have ok:o.ad[0]?=H (C Y 8):=kfM
  all_goals
   clear h c;go_enter func6,ntmps6;go_wp2;go_ret;exact⟨rfl,M,rs,ga,gcap,la,lcap,xs,i.next Cm E,E,E⟩
 have aa:((K rs:J)==0)=AQ:=Nw.2 E;have B:=bD o.a j;have x:=λw=>bE w j F p.1 p.2;generalize MA o.a (K rs)=k at *;obtain⟨r,f⟩:∃r,rs[k]?=H r:=⟨_,D7 B⟩
 obtain⟨b,rfl,Q,k0,k1⟩:=q9d h.ad f;have R:(0:J)<=(k:J):=E;have V:(k:J)<(K rs:J):=E;have g:D<|A0 W (Az (Az W<|Aj o.ad 34)<|Aj (EM r) 47).drew:=((Cm).alloc Ba _).drew;have t:D<|(Az (Az W<|Aj o.ad 34)<|Aj (EM r) 47).drew.heap[O (U W)+1]?=H (Aj (EM r) 47):=by have e:=Cj (Az W<|Aj o.ad 34) (o:=Aj (EM r) 47);rw[CL]at e;exact e
 have v:=q5S (h.next (S':=S) g<|Cr _) f o.s m;have u:=qwi (h.next (S':=S) g<|Cr _) f (S':=S+o.s.size) E m z;have q:=T<|q7I r;generalize K rs=n at *;rcases c with c|c
 case' inl=>have ok:o.ad[0]?=H (C Y 7):=kfM
 case' inr=>have ok:o.ad[0]?=H (C Y 8):=kfM
 all_goals
  clear h c f i;unfold EM at *;go_enter func6,ntmps6;go_wp2
  go_region_held3(λd=>AC d ⟨O<|U w,1,Ao⟩=H (G (H ⟨b,0,Ao⟩) n gcap)/\AC d ⟨O<|U W,1,Ao⟩=H (C Y o.a)/\AC d ⟨b,k*2,Ao⟩=H (Ad<|H ⟨r.L,0,Ao⟩)/\AC d ⟨b,k*2+1,Ao⟩=H (Ad<|H ⟨r.G,0,Ao⟩)) (go_keep) (first|(go_at_call 11;refine Ce (x _) ?_;rintro e d ⟨rfl,rfl⟩))
 all_goals go_wp2_with(first|(refine CO rfl 47 _ rfl _ rfl _ _ _ _ t underlying47 rfl q ?_)|(go_at_call 14;refine Ce v ?_;rintro e N ⟨rfl,l⟩)|(go_at_call 15;refine Ce u ?_;rintro e N ⟨rfl,l⟩))
 all_goals go_ret
 all_goals exact⟨rfl,l⟩
def qz1{o:FR}(d:o.f=6\/o.f=1\/o.f=2\/o.f=3)(t : -9223372036854775808<=o.a/\o.a<=9223372036854775807){g:I->CF}(Q:cn<=maxLen)(r:OQ w ca cn g)(R:∀k,k<cn -> -9223372036854775808<=(g k).key/\(g k).key<=9223372036854775807)(m:I6 (O<|U w) w)(V:L0 w o ps){M:I}{rs:AJ Gr}(h:Gz w (G ca cn ccap) W S M rs ga gcap la lcap xs)(hn:K rs<=100000000):Ar As 6 #[Ad<|H ⟨O<|U w,0,Ao⟩,.agg o.ad] W<|Ns w (G ca cn ccap) S M<|K rs:=by
 have oa:o.ad[1]?=H (C Y o.a):=rfl;have ok:o.ad[0]?=H (C Y o.f):=rfl;have ai:AC W ⟨O<|U w,0,Ao⟩=H (G ca cn ccap):=Cc h.a.b.b 0;have ah:=Cd h.a.b.b;have x:=T h;rcases VO cn with rfl|A
 .clear h m;rcases d with d|d|d|d
  all_goals
   rw[d]at ok;clear d;go_enter func6,ntmps6;go_wp2;go_ret;exact⟨rfl,M,rs,ga,gcap,la,lcap,xs,x.next Cm<|Cr _,E,E⟩
 have al:((cn:J)==0)=AQ:=Nw.2 E;obtain⟨b,off,rfl,hb,P⟩:=r.aq 0 E;have v:=bD o.a A;have ab:=λw=>bE w A Q t.1 t.2;have s:=r.each _ v;have N:=R _ v;generalize MA o.a cn=k at *;have i:=λj hj=>Ca (h.ac.cell (p:=⟨b,off+k*11+j,Ao⟩) hb)<|P k j v hj;generalize hgk:g k=c at *;have k0:AC W ⟨b,off+k*11,Ao⟩=H (C Y c.a):=i 0 E;have k1:AC W ⟨b,off+k*11+1,Ao⟩=H (G c.j (K c.L) c.h):=i 1 E;have k2:AC W ⟨b,off+k*11+2,Ao⟩=H (C Y c.c):=i 2 E;have k3:AC W ⟨b,off+k*11+3,Ao⟩=H (.string c.e):=i 3 E;have k4:AC W ⟨b,off+k*11+4,Ao⟩=H (C Y c.d):=i 4 E;have k5:AC W ⟨b,off+k*11+5,Ao⟩=H (C Y c.key):=i 5 E;have k6:AC W ⟨b,off+k*11+6,Ao⟩=H (C Y c.f):=i 6 E;have k7:AC W ⟨b,off+k*11+7,Ao⟩=H (C Y c.out):=i 7 E;have k8:AC W ⟨b,off+k*11+8,Ao⟩=H (C Y c.b):=i 8 E;have k9:AC W ⟨b,off+k*11+9,Ao⟩=H (C Y c.bytes):=i 9 E;have am:AC W ⟨b,off+k*11+10,Ao⟩=H (G c.i (K c.B) c.g):=i 10 E;have aj:(0:J)<=(k:J):=E;have ak:(k:J)<(cn:J):=E;have HS:=T c.size;have aa:D ((prog.info? 34).map (·.size)=H o.ad.size):=BM;have y:D<|(Az (Az W<|Aj o.ad 34)<|Aj c.ad 40).drew.heap[O (U W)+1]?=H (Aj c.ad 40)/\(Az (Az W<|Aj o.ad 34)<|Aj c.ad 40).drew.heap[O<|U W]?=H (Aj o.ad 34):=by have e:=Cj (Az W<|Aj o.ad 34) (o:=Aj c.ad 40);rw[CL]at e;exact⟨e,Ca (CB _ _ _ Ba)<|Cj _⟩
 have F:A0 W (Az (Az W<|Aj o.ad 34)<|Aj c.ad 40).drew:=((Cm).alloc Ba _).drew;have l:=h.next (S':=S) F<|Cr _
 have q:=Ce (qtk s N m l hn) (R':=Ns w (G (H ⟨b,off,Ao⟩) cn ccap) S M<|K rs) λe w2 ⟨u,ag,ac,ad,k1,k2⟩=>⟨u,M,ag,ac,ad,la,lcap,xs,k1,E,k2⟩
 have n:=λd=>Ce (qws (c:=c) (o:=o) (ps:=ps) d (s.ac l.ac) (m.a.ac l.ac)<|V.ac l.ac) (R':=Ns w (G (H ⟨b,off,Ao⟩) cn ccap) S M<|K rs) λe w2 ⟨u,ae⟩=>⟨u,M,rs,ga,gcap,la,lcap,xs,l.next ae<|Cr _,E,E⟩
 clear P r h m t Q i R s N F l V x;rcases d with d|d
 case' inl =>
  have z:=q;clear n q
 case' inr =>
  have z:=n d;clear n q;rcases d with d|d|d
 all_goals
  rw[d]at ok;clear d;go_enter func6,ntmps6;go_wp2
  go_region_held3(λf=>AC f ⟨O<|U w,0,Ao⟩=H (G (H ⟨b,off,Ao⟩) cn ccap)/\AC f ⟨O<|U W,1,Ao⟩=H (C Y o.a)/\AC f ⟨b,off+k*11,Ao⟩=H (C Y c.a)/\AC f ⟨b,off+k*11+1,Ao⟩=H (G c.j (K c.L) c.h)/\AC f ⟨b,off+k*11+2,Ao⟩=H (C Y c.c)/\AC f ⟨b,off+k*11+3,Ao⟩=H (.string c.e)/\AC f ⟨b,off+k*11+4,Ao⟩=H (C Y c.d)/\AC f ⟨b,off+k*11+5,Ao⟩=H (C Y c.key)/\AC f ⟨b,off+k*11+6,Ao⟩=H (C Y c.f)/\AC f ⟨b,off+k*11+7,Ao⟩=H (C Y c.out)/\AC f ⟨b,off+k*11+8,Ao⟩=H (C Y c.b)/\AC f ⟨b,off+k*11+9,Ao⟩=H (C Y c.bytes)/\AC f ⟨b,off+k*11+10,Ao⟩=H (G c.i (K c.B) c.g)) (go_keep) (first|(go_at_call 11;refine Ce (ab _) ?_;rintro e f ⟨rfl,rfl⟩))
 all_goals go_wp2_with(first|(refine CO rfl 40 _ rfl _ rfl _ _ _ _ y.1 underlying40 rfl (DC HS) ?_)|(refine CO rfl 34 _ rfl _ rfl _ _ _ _ y.2 underlying34 rfl aa ?_)|((first|go_at_call 12|go_at_call 13);refine Ce z ?_;rintro e w2 ⟨rfl,af⟩))
 all_goals go_ret
 all_goals exact⟨rfl,af⟩
def qy8{o:FR}(b:o.f=4\/o.f=5)(k:I6 (O<|U w) w){M:I}{rs:AJ Gr}(h:Gz w cs W S M rs ga gcap la lcap xs)(r:o.s.size<=200000000)(p:M<=100000000):Ar As 6 #[A8<|O<|U w,.agg o.ad] W<|Ns w cs S M<|K rs:=by
 have ok:o.ad[0]?=H (C Y o.f):=rfl;have i:A0 W<|Az W<|Aj o.ad 34:=Cm;have a:=h.next (S':=S) i<|Cr _
 have d:=k.ac a.ac;have c:=λu=>Ce (q3g u r a.a p a.ac.size d.rd λA t=>d.st A<|CG t<|AY a.ac.size) (R':=Ns w cs S M<|K rs) λe l ⟨q,hF,y,z,B,v,x⟩=>⟨q,M+1,rs,ga,gcap,y,z,B,a.put hF (Cr _) v x,E,E⟩
 have n:D<|(Az W<|Aj o.ad 34).heap[O<|U W]?=H (Aj o.ad 34):=Cj _;have m:D ((prog.info? 34).map (·.size)=H o.ad.size):=BM;have f:=c AQ;have g:=c AP;clear a d c i h k;dsimp only[cond]at f g;rcases b with b|b
 all_goals
  rw[b]at ok;clear b;go_enter func6,ntmps6
  go_wp2_with(first
   |(refine CO Z 34 _ Z _ Z _ _ _ _ n underlying34 Z m ?_)
   |(go_at_call 9;refine Ce f ?_;rintro e l ⟨rfl,j⟩)
   |(go_at_call 10;refine Ce g ?_;rintro e l ⟨rfl,j⟩))
  go_ret;exact⟨Z,j⟩
def qzJ{k:J}(h:NB [1,2,3,4,5,6,7,8] k=AP):(k=6\/k=1\/k=2\/k=3)\/(k=4\/k=5)\/k=7\/k=8:=by simp[NB]at h;omega
def K6(h:AH->FR)(k:AH):AH:=((List.range k).map λi=>(h i).s.size).sum
theorem na(h:I->FR)(k:I):K6 h (k+1)=K6 h k+(h k).s.size:=by simp[K6,W8]
def PJ(w:Ap)(cs:Aq)(h:AH->FR)(k:AH)(W:Ap):Prop:=∃M rs ga gcap la lcap xs,Gz w cs W (K6 h k) M rs ga gcap la lcap xs/\M<=k/\At rs<=k
theorem PJ.next{k':I}(f:PJ w cs h k W)(e:A0 W W')(p:k<=k')(g:K6 h k<=K6 h k'):PJ w cs h k' W':=by obtain⟨a,l,b,c,i,j,m,d,n,o⟩:=f;exact⟨a,l,b,c,i,j,m,d.next e g,E,E⟩
def qwG{w W W':Ap}{X:I->Prop}(h:A0 w W)(a:Dw W W' X)(hx:∀j,X j->O (U w)<=j):A0 w W' :=
 Cs h ⟨a.os,a.tape,a.output,a.size,λj b=>a.block j Bn λe=>AY<|hx j e⟩
def I6.top(h:I6 b W):I6 (O<|U W) W:=⟨h.rd,h.up<|Cu _ _,h.db,h.a,AY h.d,Cr _⟩
theorem qtx{g:I->CF}(ar:cn<=maxLen)(a5:sn<=100000000)(az:∀k,k<=sn->K6 h k<=200000000)(ae:I)(hC:OQ w ca cn g)(au:∀k,k<cn -> -9223372036854775808<=(g k).key/\(g k).key<=9223372036854775807)(hO:Q0 w sa sn h)(hF:∀k,k<sn->∃ps,L0 w (h k) ps)(hP:G4 w pa [1,2,3,4,5,6,7,8])(hg:I6 (O<|U w) w):Ar As 4 #[G ca cn ccap,G sa sn scap,G pa 8 ae] w λe w'=>e=Ak (Ah AP)/\A0 w w':=by
 have HC:=T hC;have HO:=T hO;have ai:=T hF;have HP:=T hP;have HG:=T hg;have an:=T az;have al:=T au;have ag:=T ar;have HT:D<|PJ w (G ca cn ccap) h 0<|Az w<|M #[G ca cn ccap,G Ao 0 0,G Ao 0 0] 31:=⟨0,[],Ao,0,Ao,0,[],⟨Cm,q6l<|Cj _,Fi _ _ _ _,λi af h=>BB,λi k af r' h=>BB,λi af h=>BB,λad e=>keC⟩,Cr _,Cr _⟩
 go_enter func4,ntmps4;go_wp2;generalize Az w (M #[G ca cn ccap,G Ao 0 0,G Ao 0 0] 31)=W0 at *
 go_loopg[8,9,10,11,12] sn (λu x1 x2 x3 x4 x5 wr=>∃k:I,D (k+u=sn)/\x1=C Y k/\D (PJ w (G ca cn ccap) h k wr))
 case atStart=>grind [D]
 case round =>
  obtain⟨k,f,rfl,L⟩:=hrel;obtain _|u:=gk
  .have av:¬(k:J)<sn:=AY<|AE f;obtain⟨q,A,N,P,R,V,W,y,x,_⟩:=AE L;have z:=y.a;have r:=T y;have cA:=tK z.rd Z (AY<|AE f) z.d z.hdis z.f
   go_wp2_with(first|(go_at_call 8;refine Ce cA ?_;rintro e w2 ⟨rfl,aq⟩;have ah:=T aq))
   go_ret;exact⟨Z,qwG r.ac ah λad ⟨i,a2,m,Q⟩=>AY<|(r.a.e i a2 ad m Q).1⟩
  have av:(k:J)<sn:=AY<|AE f;have a4:(k:J)<144115188075855872:=E;have F:D<|A0 w wr:=by obtain⟨q,A,N,P,R,V,W,y,_⟩:=AE L;exact y.ac
  obtain⟨b,off,rfl,a3,n⟩:=(HO.ac F).aq k E;have v:=T<|HO.a1 k E;have aa:D<|K6 h k+(h k).s.size<=200000000/\K6 h (k+1)=K6 h k+(h k).s.size:=⟨by have:=an.out (k+1) E;grind [na],na h k⟩
  have k0:A6 wr b (off+k*7)<|C Y (h k).f:=n k 0 E E;have k1:A6 wr b (off+k*7+1)<|C Y (h k).a:=n k 1 E E;have k2:A6 wr b (off+k*7+2)<|C Y (h k).b:=n k 2 E E;have k3:A6 wr b (off+k*7+3)<|C Y (h k).c:=n k 3 E E;have k4:A6 wr b (off+k*7+4)<|C Y (h k).d:=n k 4 E E;have k5:A6 wr b (off+k*7+5)<|.string (h k).s:=n k 5 E E;have k6:A6 wr b (off+k*7+6)<|.slice (h k).g (h k).e (h k).h:=n k 6 E E;obtain⟨ps,aw⟩:=ai.out k E;have am:=T aw;generalize h k=o at *;have j:D<|A0 wr<|Az wr<|M o.ad 34:=Cm;have ab:=T<|L.next j (Cr _)<|Cr _;have t:=oV (k:=o.f) (cap:=ae) (B:=[1,2,3,4,5,6,7,8]) (by simp[maxLen])<|HP.ac<|Cs F<|CG j F.size;have HN:D<|(Az wr<|M o.ad 34).heap[O<|U wr]?=H (M o.ad 34):=Cj _;have aj:D ((prog.info? 34).map (·.size)=H o.ad.size):=BM;cases x:NB [1,2,3,4,5,6,7,8] o.f
  .rw[x]at t
   go_wp2_with(first
    |(go_at_call 5;refine Ce t ?_;rintro e w2 ⟨rfl,rfl⟩))
   go_roundg u
   case measure=>omega
   case rel=>exact⟨k+1,B9,Bb,ab.next (Cu _ _) E<|AY<|AE aa⟩
  rw[x]at t;have ak:=T<|qzJ x
  go_wp2_with(first
   |(go_at_call 5;refine Ce t ?_;rintro e w2 ⟨rfl,rfl⟩)
   |(refine CO Z 34 _ Z _ Z _ _ _ _ HN underlying34 Z aj ?_)
   |fail)
  have a0:Ar As 6 #[A8<|O<|U w,.agg o.ad] (Az wr<|M o.ad 34) λe l=>e=Ak (Ah AP)/\PJ w (G ca cn ccap) h (k+1) l:=by
   have ay:=AE aa;obtain⟨q,A,N,P,R,V,W,m,Q,h3⟩:=AE ab;have fin:∀{S:I} {e:Ending} {l:X},S<=K6 h (k+1)->Ns w (G ca cn ccap) S q (K A) e l->e=Ak (Ah AP)/\PJ w (G ca cn ccap) h (k+1) l:=λ{S e l} hS ⟨he,M',rs',ga',gcap',la',lcap',xs',q1,q2,q3⟩=>⟨he,M',rs',ga',gcap',la',lcap',xs',q1.next (Cu _ _) hS,E,E⟩
   rcases AE ak with f|f|f
   .exact Ce (qz1 f v ag HC al HG am m E) λe l p=>fin E p
   .exact Ce (qy8 f HG m E E) λe l p=>fin E p
   exact Ce (qvt f v m Bc ay.1 E) λe l p=>fin E p
  refine Ce a0 ?_;rintro e w3 ⟨rfl,ac⟩;have ao:=T ac;obtain⟨q,A,N,P,R,V,W,m,Q,h3⟩:=ac;have cL:=tH m.a.rd (AY<|AE f) m.a.d
  go_wp2_with(first
   |(go_at_call 7;refine Ce cL ?_;rintro e w4 ⟨rfl,ax⟩;have ap:=T<|ao.next ax.ac (Cr _)<|Cr _))
  go_roundg u
  case measure=>omega
  case rel=>exact⟨k+1,B9,Bb,ap⟩
def q63:G4 (Az w<|M #[C Y 1,C Y 2,C Y 3,C Y 4,C Y 5,C Y 6,C Y 7,C Y 8] 3) (Aa<|O<|U w) [1,2,3,4,5,6,7,8]:=⟨λi b=>⟨O<|U w,0,rfl,Ba,λj a=>by rw[Gg];refine Ca (Cc (Cj _) j) ?_;show(List.map (Value.int Y) [1,2,3,4,5,6,7,8]).toArray[j]?=_;rw[VH,L9,D7 a];rfl⟩⟩
def qyY:prog.cellsOf 146=2:=B6
def qxM:prog.cellsOf 4=1:=B6
section
variable{H:Type} {enc:TypeId×Aq->H} {w:Ap}
def qwB{x:AM H×AJ MemPlace}(h:DataW.trod enc As w 0 (λ_=>AP) AP fuel 32 [v]=An x)(p:Rows.uptoBulk x.1<=1048576):∃(a:A4) (d:I) (L:AJ<|A1×AK),v=G a (K L) d/\Gc w a L/\(a=Ao->K L=0/\d=0)/\(∀i (h:i<K L),L[i].1.length<=maxLen)/\K L<=1048576:=by
 rcases open_slice underlying32 h with⟨k,_⟩|⟨a,len,d,m,ac,u,V,k,_,hl,hm,N,rfl,s⟩
 .cases k;exact⟨Ao,0,[],Z,⟨λi c=>kf2⟩,λ_=>⟨Z,Z⟩,λi c=>absurd c<|Nat.not_lt_zero i,B8⟩
 cases k;obtain rfl:m=d:=by rw[N];rfl
 simp only[]at p;rw[Rows.uptoBulk]at p;have j:=Za<|(List.range len).map u;rw[LO,ay]at j;rw[qyY]at s;have Q:∀i,i<len->∃z:A1×AK,AC w (a.add<|i*2)=An (Ae ⟨Aw z.1⟩)/\AC w ((a.add<|i*2).add 1)=An (Ah z.2)/\K z.1<=maxLen:=λi c=>by obtain⟨n,A,B⟩:=s i E;obtain⟨_,j,q⟩:=SQ A;obtain⟨R,n',_,_,_,P,r⟩:=PQ underlying146 B;obtain⟨W,c1,rfl⟩:=Q1 j;obtain⟨y0,y1,rfl⟩:=Q1<|show K R=2 from P;obtain⟨e,l,_,ab⟩:=SR underlying9<|Gj r 0 rfl 0 rfl rfl Th rfl rfl;obtain⟨S,o,_⟩:=DataW.trod_bool underlying4<|Gj r 1 rfl 1 rfl rfl qxM rfl rfl;simp at l o;subst l o;have t:=q 0 E;rw[add_add,Nat.add_zero]at t;refine⟨(e.data.toList,S),by rw[t];simp,q 1 E,?_⟩;have h3:K e.data.toList=e.size:=Fz;show K e.data.toList<=maxLen;omega
 obtain⟨y,f⟩:=choose_lt Q;refine⟨An a,m,(List.range len).map y,Ba,⟨λi c=>?_⟩,nofun,λi c=>?_,B7⟩
 .have aa:i<len:=BO;obtain⟨b,off,rfl,F⟩:=Rl (by have:=(f 0 E).1;rwa[Rf]at this);have g:=f i E;rw[add_add,JB,JB]at g;exact⟨b,off,Z,F,by rw[g.1];simp,by rw[Wf,g.2.1];simp⟩
 have:=(f i BO).2.2;simpa using this
def q6H{cs:AJ Aq}{x:AM H×AJ MemPlace}(h:DataW.trod enc As w 0 (λ_=>AP) AP fuel 34 cs=An x)(u:Rows.uptoBulk x.1<=1048576):∃o:FR,cs=o.ad.toList/\(-9223372036854775808<=o.a/\o.a<=9223372036854775807)/\o.s.size<=Rows.uptoBulk x.1/\∃d,L0 w o d:=by
 obtain⟨R,aa,_,rfl,p,v,b⟩:=PQ underlying34 h;rw[bG]at p
 match cs,p,R,v with
 |[v0,v1,v2,v3,v4,v5,v6],_,[y0,y1,y2,y3,y4,y5,y6],_ =>
  obtain⟨S,f,_⟩:=J1 underlying3<|Gj b 0 rfl 0 rfl rfl II rfl rfl;obtain⟨V,g,_,Q⟩:=J1 underlying3<|Gj b 1 rfl 1 rfl rfl II rfl rfl;obtain⟨W,i,_⟩:=J1 underlying3<|Gj b 2 rfl 2 rfl rfl II rfl rfl;obtain⟨n,j,_⟩:=J1 underlying3<|Gj b 3 rfl 3 rfl rfl II rfl rfl;obtain⟨z4,k,_⟩:=J1 underlying3<|Gj b 4 rfl 4 rfl rfl II rfl rfl;obtain⟨c,l,A,_⟩:=SR underlying9<|Gj b 5 rfl 5 rfl rfl Th rfl rfl;have r:=Gj b 6 Z 6 Z Z p6 Z Z;have m:∀y∈[y0,y1,y2,y3,y4,y5,y6].map λx=>x.1,Rows.uptoBulk y<Rows.uptoBulk (DataW.agg<|[y0,y1,y2,y3,y4,y5,y6].map λx=>x.1):=λy z=>by rw[Rows.uptoBulk];have:=Vf z;omega
  dsimp only at u ⊢;generalize DataW.agg ([y0,y1,y2,y3,y4,y5,y6].map λx=>x.1)=Y at *;obtain⟨N,P,d,q,B,F,L,p4⟩:=qwB (x:=y6) kex<|AY<|m y6.1 Ba;simp at f g i j k l;have t:=m y5.1 Ba;subst f g i j k l q;have e:=bounds_i64 Q;refine⟨⟨S,V,W,n,z4,c,N,K d,P⟩,Z,⟨by simpa using e.1,by simpa using e.2⟩,?_,d,Z,B,F,L,E⟩;subst A;rw[show Rows.uptoBulk (DataW.lit (H:=H)<|.string c.data.toList)=K c.data.toList+1 by rw[Rows.uptoBulk]]at t;have h2:K c.data.toList=c.size:=Fz;show c.size<=_;omega
def nc:∀(l:AJ<|AM H) (d:AM H),Rows.uptoBulkAll (l++[d])=Rows.uptoBulkAll l+Rows.uptoBulk d
 |[],d=>by simp[Rows.uptoBulkAll]
 |a::r,d=>by rw[Kw,Rows.uptoBulkAll,Rows.uptoBulkAll,nc r d];omega
def ZJ{f:I->I}{D:I->AM H}:∀{n k:I},k<=n->(∀i,i<n->f i<=Rows.uptoBulk (D i))->((List.range k).map f).sum<=Rows.uptoBulkAll ((List.range n).map D)
 |0,k,hk,_=>by obtain rfl:k=0:=E;exact Ex _
 |n+1,k,hk,h=>by
  have b:=h n E;rw[W8,Kb,List.map_singleton,nc];by_cases e:k=n+1
  .subst e;have:=ZJ (n:=n) (k:=n) (Cr _) λi a=>h i E;rw[W8,Kb,W7];simp;omega
  have:=ZJ (n:=n) (k:=k) E λi a=>h i E;omega
def q5m{x:AM H×AJ MemPlace}(h:DataW.trod enc As w 0 (λ_=>AP) AP fuel 23 [v]=An x)(u:Rows.uptoBulk x.1<=1048576):∃(a:A4) (n f:I) (g:I->FR),v=G a n f/\Q0 w a n g/\n<=1048576/\(∀k,k<=n->K6 g k<=1048576)/\∀k,k<n->∃t,L0 w (g k) t:=by
 rcases open_slice underlying23 h with⟨r,_⟩|⟨a,len,f,m,n,e,R,r,_,W,hm,P,rfl,z⟩
 .cases r;exact⟨Ao,0,0,λ_=>bI,Z,⟨λk c=>E,λk c=>E⟩,E,λk c=>by rw[show k=0 by omega];simp[K6],λk c=>E⟩
 cases r;obtain rfl:m=f:=kfO;rw[bG]at z;simp only[]at u;rw[Rows.uptoBulk]at u;have y:=Za<|(List.range len).map e;rw[LO,ay]at y;have Q:∀i,i<len->∃o:FR,((-9223372036854775808<=o.a/\o.a<=9223372036854775807)/\o.s.size<=Rows.uptoBulk (e i)/\∃t,L0 w o t)/\∀j,j<7->AC w ((a.add<|i*7).add j)=o.ad[j]?:=λi p=>by obtain⟨S,A,B⟩:=z i E;obtain⟨_,y,L⟩:=SQ A;have V:=Vf (l:=(List.range len).map e)<|Kx.2 ⟨i,Hj.2 p,Z⟩;obtain⟨o,rfl,F⟩:=q6H B (by simp only[];omega);exact⟨o,F,λj q=>Ca (L j q) Ba⟩
 have ih:Inhabited FR:=⟨bI⟩
 obtain⟨g,d⟩:=choose_lt Q;refine⟨An a,len,m,g,Z,⟨λk c=>?_,λk c=>(d k c).1.1⟩,E,λk c=>CE (ZJ c λi p=>(d i p).1.2.1) E,λk c=>(d k c).1.2.2⟩;obtain⟨b,off,rfl,N⟩:=Rl (by have:=(d 0 E).2 0 E;rw[Rf,add_add]at this;exact this);refine⟨b,off,Z,N,λk j c q=>?_⟩;have:=(d k c).2 j q;rw[add_add,JB]at this;rw[<-this,Wf]
end
def q43{g:I->CF}(j:cn<=maxLen)(o:sn<=100000000)(p:∀k,k<=sn->K6 h k<=200000000)(f:OQ w ca cn g)(n:∀k,k<cn -> -9223372036854775808<=(g k).key/\(g k).key<=9223372036854775807)(i:Q0 w sa sn h)(hF:∀k,k<sn->∃q,L0 w (h k) q)(l:I6 (O<|U w) w):Ar As 3 #[G ca cn ccap,G sa sn scap] w λe r=>e=Ak (Ah AP)/\A0 w r:=by
 have a:A0 w<|Az w<|M #[C Y 1,C Y 2,C Y 3,C Y 4,C Y 5,C Y 6,C Y 7,C Y 8] 3:=Cm;have c:=qtx (ccap:=ccap) (scap:=scap) j o p 8 (f.ac a) n (i.ac a) (λk m=>(hF k m).imp λ_ h=>h.ac a) q63 (l.ac a).top;have b:=T a;go_enter func3,ntmps3
 go_wp2_with(first|(go_at_call 4;refine Ce c ?_;rintro e s ⟨rfl,d⟩))
 go_ret;exact⟨Z,Cs b<|CG d Ba⟩
def q8S:AJ AI:=[0,1,56,2,57,49,28,3,61,58,42,50,38,29,17,4,62,47,59,36,45,43,51,22,53,39,33,30,24,18,12,5,63,55,48,27,60,41,37,16,46,35,44,21,52,32,23,11,54,26,40,15,34,20,31,10,25,14,19,9,13,8,7,6]
def q98:(prog.globals[8]?).map (·.type)=H 374:=B6
def q4v:prog.cellsOf 374=64:=B6
def q3v:prog.cellsOf 5=1:=B6
def q4Z:(Rows.laid_math_bits_deBruijn64tab:A2)=tabData Am q8S:=B6
def q4T(a:laidMetH As Rows.allRow.laid W)(c:W.ShapedOpen As):I6 (O<|U W) W:=by have h:laidMet As Rows.allRow.laid W:=a;have b:=qz7 a c;refine⟨b.rd,b.g,?_,bL a c,b.rd.d,Cr _⟩;obtain⟨g,t,cs,l,p,f,j,k,e⟩:=laidMet.reads h (d:=Rows.laid_math_bits_deBruijn64tab)<|.tail _<|.head _;obtain rfl:g=8:=Fl<|f.symm.trans B6;obtain rfl:=Fl<|q98.symm.trans j;rw[q4Z]at e;have i:=cells_of_tab underlying374 underlying5 q3v q4v e;rw[ZZ f k 15,<-Oz,i];rfl
def q0n{H:Type}{t1 t2:AN}{d0 d1:AM H}{P:Program}(h:(DataW.weightsEach P ([t1,t2]++[])<|[d0,d1]++[]).all (·<=reachBytes)=AP):(d0.weights P t1).all (·<=reachBytes)=AP/\(d1.weights P t2).all (·<=reachBytes)=AP:=by simp only[Rd,DataW.weightsEach,ST,Fj]at h;exact⟨h.1,h.2⟩
def qoR{H:Type}{enc:AN×Aq->H}{args:A3}{ds gs:AJ<|AM H}{before:AJ MemPlace}(n:∀(j:I) t v,f3.params[j]?=An t->args[j]?=An v->Value.okWide As W .any base t v)(y:DataW.Whole enc As f3.params.toList Rows.allSpec.vars AQ W args.toList ds gs before)(B:(DataW.weightsEach As (f3.params.toList++[])<|ds++gs).all (·<=reachBytes)=AP)(m:Rows.uptoSmall H (ds++gs)=AP)(g:laidMetH As Rows.allUptoRow.laid W)(hS:W.ShapedOpen As):Ar As 3 args W λe r=>∃v,e=Ak v/\Rows.allSpec.post enc As f3 AQ AP AQ AQ W args v r:=by have z:=y;obtain⟨am,an,S,hV,rfl,ai,aj⟩:=y;have w:=S;rw[Tryz.params3]at w n B;obtain⟨v0,v1,b,c,f,o,rfl,rfl,rfl,Q,R⟩:=trodAll_two w;obtain⟨rfl,rfl⟩:=trodVars_none hV;obtain⟨F,l0,L,rfl⟩:=okWide_slice underlying22<|n 0 22 v0 rfl rfl;obtain⟨a1,l1,c1,rfl⟩:=okWide_slice underlying23<|n 1 23 v1 rfl rfl;obtain⟨n0,s⟩:=Q;obtain⟨n1,u⟩:=R;have ab:Rows.uptoBulkAll [b,c]<=1048576:=Dr m;have k:=CE (Vf (l:=[b,c]) (d:=c) Ba) ab;obtain⟨ae,al⟩:=q0n B;obtain⟨ca,cn,ag,ah,N,V,aa,ac⟩:=pf (v:=G F l0 L) (x:=(b,f)) s ae;cases N;obtain⟨sa,sn,ao,h,P,p,ak,ad,q⟩:=q5m u k;cases P;refine(q43 aa E (λaf m=>AY<|ad af m) V ac p q<|q4T g hS).mono ?_;rintro e r ⟨rfl,i⟩;have A:∀x∈f++o++[],x.block<O (U W):=λx a=>z.lt x a;refine⟨_,Z,[b,c],[],f++o++[],[],f++o,[],z,trodAll_mk1<|shut_bool underlying4 AP,?_,Z,i.frame _,λh=>Bs⟩;exact trodAll_mk2 (Below.trod Tryz.ac B6 (Dr B6) ⟨n0,s⟩ i λx a=>A x kf3)<|Below.trod Tryz.ac B6 (Dr B6) ⟨n1,u⟩ i λx a=>A x kf3
def qvp{os:Os}{H:Type}(enc:AN×Aq->H):∃a,DataW.whole enc As ((WC<|World.holding As os ⟨#[],#[],[]⟩).forCall (λ_ _=>0) ⟨#[],#[G Ao 0 0,G Ao 0 0],[]⟩).memory f3.params.toList Rows.allSpec.vars AQ #[AX Ao 0 0,AX Ao 0 0].toList 8=An ([.nil,.nil],[],a) :=
 ⟨[],B6⟩
def qt2{os:Os}(h:os.Started){H:Type}(enc:AN×Aq->H){F:Stop.Interp}:ReturnsInHanded {} Tryz.checked os 3 .any ((Rows.OpenSpec.upto Rows.allSpec).preRow enc As f3 Rows.allUptoRow.domain AQ Rows.allUptoRow.laid)<|((Rows.OpenSpec.upto Rows.allSpec).at F).post enc As f3 AQ AP AQ AQ:=by
 obtain⟨o,g⟩:=qvp enc;refine returnsInHanded_of_row (C:=Tryz.checked) (s:=Rows.OpenSpec.upto Rows.allSpec) Tryz.a0 h B6 func3
  (witness_row_at (enc:=enc) (C:=Tryz.checked) AQ (WC<|World.holding As os ⟨#[],#[],[]⟩) #[G Ao 0 0,G Ao 0 0] rfl B6 B6 B6
   (OpenSpec.preRow_of_cond 8 g B6 (λk a=>by obtain rfl:=Fl a;kernel_rfl) B6<|pv)) ?_
 intro W j i m n l e d _ a f b c _;exact qoR e d f (a _ Z) b c
def q7c:(Rows.allUptoRow.inPlace==Tryz.pinned.checked.prog.inPlace 3)=AP:=B6
def q6q:(Rows.allUptoRow.unfollowed==Tryz.pinned.checked.prog.unfollowed 3)=AP:=B6
def q6u:(Rows.allUptoRow.recurses==Tryz.pinned.checked.prog.recurses 3)=AP:=B6
def q6c:(Rows.allUptoRow.named==Tryz.pinned.checked.prog.varsNamed 3)=AP:=B6
def qwu:joinedFacts Tryz.pinned.checked.prog 3 f3 (Rows.OpenSpec.upto Rows.allSpec).bare Rows.allUptoRow=AP:=by unfold joinedFacts;rw[q7c,q6q,q6u,q6c];kernel_rfl
def q0m:Rows.AllUptoSaid :=
 OpenClaim.holds_of_cond 3 f3 rfl rfl rfl rfl rfl rfl rfl ⟨rfl,rfl,rfl,rfl,rfl⟩ rfl rfl rfl rfl rfl B6 func3 qwu
  (Dr B6) (by unfold Func.isWrapper;first|(rw[Cp<|by decide +kernel];kernel_rfl)|(rw[Cl<|by decide +kernel];exact⟨Z,Z⟩))
  (λd b c a _ F=>by rw[OpenClaim.pre_eq_preRow];exact qt2 b a)
def quK(f:FuncId)(a:Func)(c:Tryz.pinned.checked.prog.funcNamed Rows.allUptoRow.func=H f)(d:Tryz.pinned.checked.prog.funcs[f]?=H a):AP=Tryz.pinned.checked.prog.looks []/\∀(j:I) t,a.params[j]?=H t->Tryz.pinned.checked.prog.wantsStandIn t=AQ:=by
 obtain rfl:f=3:=Fl ((show prog.funcNamed Rows.allUptoRow.func=H 3 by kernel_rfl).symm.trans c) |>.symm;obtain rfl:a=f3:=(Fl<|func3.symm.trans d).symm;refine⟨B6,λj t b=>?_⟩;rw[Tryz.params3]at b;have e:t∈#[(22:AN),23]:=Array.mem_of_getElem? b;rcases(by simpa using e:t=22\/t=23)with rfl|rfl
 .exact(show prog.wantsStandIn 22=AQ by kernel_rfl)
 exact(show prog.wantsStandIn 23=AQ by kernel_rfl)
def q6w:prog.laidByTextLater (Rows.allUptoRow.laid.take 7) (Rows.allUptoCard.laidKinds.take 7) AP :=
 Program.laidByTextLater_by_one 73 8 97 B6 B6 B6 B6 B6 B6 λ_ _=>B6
def q3P:Rows.allUptoRow.laidByTextAt .later Tryz.pinned Rows.allUptoCard.laidKinds AP:=by
 refine OpenClaim.laidByTextAt_pinned Z Z q6w Z Z Z Z (λ_ h e=>?_) B6
 repeat(rcases h with _|⟨_,h⟩;cases e)
 exact⟨B6,B6⟩;cases h
theorem all_card:Rows.AllUptoCardSaid :=
 Claim7.holds_tied_plain_at .later [] _ _ _ _ q0m (λ_ h=>Bs) B6 (λ_ h=>Bs) q3P rfl ⟨rfl,rfl⟩ B6 rfl quK B6
#print axioms all_card
end
end Go.Proofs.YtaehkdnabiccnaaGreatDoor


