import Derived.Test.YtnlnjkggkbbdhaaGreatDoorTq31
set_option maxRecDepth 100000
set_option maxHeartbeats 8000000
set_option linter.all false
namespace Go.Proofs.YtnlnjkggkbbdhaaGreatDoor
open Go.Proofs.Tryz
open Go.Value renaming int->I,slice->G
open Option renaming some->U,none->Y
open Go.IntKind renaming i64->K
open Go renaming World->O
open Go.Obj renaming cells->E
open Go.Proofs.Tryz renaming prog->X
open Go.Value renaming slice->A7,pointer->A8,string->A9,tuple->Aa,agg->Ab,bool->Ac
open Go.Ending renaming returned->Af
open Go renaming World->Ak,Value->Al,Calls->Am
variable{V W w:O}{A:A3}{d:BX}
section
open Go.RowKit Go.Lib
def vI(k:Nat)(W:O)(bs:A1)(fm d l lim:Int)(i:Nat)(r:Except (Int×Int) (DataW Unit×Nat))(L:fm=1)(C:∀V,Am X 70 #[.agg (BP bs fm d l),I K i,I K 0] V (ER k bs lim V r)):Am X 46 #[.agg (BP bs fm d l),I K i] W (ER k bs lim W r):=by
 have tf:(fm==1)=true:=by simpa using L
 have B:Hid (∀V,Am X 70 #[Ab #[A9 ⟨bs.toArray⟩,I K fm,I K d,I K l],I K i,I K 0] V (ER k bs lim V r)):=C;have HX:=Mb W bs fm d l;have Q:∀A,(((W.alloc (E A 116)).alloc (E BZ 74)).alloc (E (BH (0,0)) 76)).heap.size=W.heap.size+3:=λA=>Az
 clear L C;unfold BP;go_enter func46,ntmps46
 go_wp2_with fail
 refine(B _).mono ?_;rintro ac R P;obtain⟨aa,x,t,v,s,m,o,p,n,w,u,z,F,N,rfl,b,hF⟩:=Ok P;have g:=T (HX.next aa);have f:=T N;have e:=T hF;have S:Hid (∀a q,x=.ok (a,q)->C1 bs lim q/\z=(q:Int)/\F=(0,0)/\CM k R (λj=>W.heap.size+3<=j/\j<R.heap.size) (.agg (BJ t v s (G m o p) (G n w u))) a):=λa q h=>⟨(b a q h).1,(b a q h).2.1,(b a q h).2.2.1,(b a q h).2.2.2.same (λj c=>⟨by have h2:=c.1;have D:=Q #[A9 ⟨bs.toArray⟩,I K fm,I K d,I K l];unfold BZ BJ BV BH at D;simp only[BU,A0]at h2 D;omega,c.2⟩) (λ_ _=>rfl)⟩
 clear P N hF b B Q;simp only[]
 go_wp2_with(first
  |((with_reducible refine zT 4 13 rfl rfl (W.heap.size+1) (BJ t v s (G m o p) (G n w u)) ?_ ?_);exact⟨Z,Z,g.th,thg⟩)
  |((with_reducible refine zF 6 15 rfl rfl (W.heap.size+2) (F) ?_ ?_);exact⟨Z,Z,G6 g Cm _⟩))
 have H:=EP g Cm (BJ t v s (G m o p) (G n w u)) (F);refine EQ results46 H (I K z) Z Z Z Z ⟨H.2.2,x,f,?_⟩
 cases x with
 |error y =>
  obtain rfl:=e.out y rfl;exact⟨_,_,_,_,_,_,_,_,_,_,Z⟩
 |ok ab =>
  obtain⟨a,q⟩:=ab;obtain⟨hq,rfl,rfl,b⟩:=S.out a q rfl;refine⟨hq,_,_,_,_,_,_,_,_,_,Z,b.same (λj c=>⟨Ao c.1,by simpa using c.2⟩) (λj c=>?_)⟩;rw[CQ _ _ _ _ J,CQ _ _ _ _ J]
def vJ(bs:A1)(a b c:Int):(BP [] 0 0 0).size=(BP bs a b c).size:=rfl
def vK(bs:A1)(a b c:Int):(BP bs a b c).all (·.oneCell')=true:=by simp[BP,Value.oneCell']
def Ey(fm:Int)(bs:A1)(l:Int)(p:Nat):Nat:=if fm=1 then DR bs l (bs.length+1-p) p else p
def Q0(fm:Int)(bs:A1)(l:Int)(p:Nat)(hi:C1 bs l p):(GI fm bs l p=.ok ((),Ey fm bs l p)/\C1 bs l (Ey fm bs l p)/\p<=Ey fm bs l p)\/(GI fm bs l p=.error (8,(Ey fm bs l p:Int))/\(Ey fm bs l p:Int)=l/\Ey fm bs l p<bs.length):=by
 unfold GI Ey;by_cases h:fm=1
 ·rw[BA h,BA h];rcases KI (l:=l) (lim:=l) (λ_ _=>Iff.rfl) (bs.length+1-p) p hi with⟨q,a,b,c,d,_⟩|⟨q,a,b,c,d⟩
  ·rw[b];exact .inl ⟨a,c,d⟩
  rw[b];exact .inr ⟨a,c,d⟩
 rw[Bz h,Bz h];exact .inl ⟨Z,hi,BM _⟩
def vL(fm:Int)(bs:A1)(d l:Int)(p:Nat)(e:(p:Int)=l)(c:p<bs.length):EF fm bs d l p=.error (8,(p:Int)):=by
 have a:∀b,D5 b bs l d (d.toNat+1) 0 p=.error (8,(p:Int)):=λb=>by
  rw[D5,C6 c];simp only[];rw[BA e]
 unfold EF;split
 ·exact et e c
 split
 ·exact a _
 exact a _
def vM(C:Nat->A2->Nat)(fm:Int)(bs:A1)(d l:Int)(N:0<=l)(F:∀p y q,EF fm bs d l p=.ok (y,q)->q<=bs.length->∀k,C k y<=400*q){r':Except (Int×Int) (DataW Unit×Nat)}(o:FL bs l (EF fm bs d l (Ey fm bs l 0)) r'):(∀f,r'=.error f->Cj fm bs d l=.error f)/\(∀j q,r'=.ok (j,q)->C1 bs l q->C1 bs l (Ey fm bs l q)/\(Ey fm bs l q<bs.length->Cj fm bs d l=.error (CS bs l (Ey fm bs l q) 9))/\(¬Ey fm bs l q<bs.length->Cj fm bs d l=.ok j/\(bs.length:Int)<=l/\∀k,C k j<=400*bs.length)):=by
 have L:C1 bs l 0:=⟨DK _,N⟩
 have n:Lm bs l l:=λ_ _=>Iff.rfl;rcases Q0 fm bs l 0 L with⟨s,A,_⟩|⟨s,A,D⟩
 ·generalize Ey fm bs l 0=p0 at *;have a:Cj fm bs d l=match EF fm bs d l p0 with
    |.error e=>.error e
    |.ok (d,p1)=>match GI fm bs l p1 with
     |.error e=>.error e
     |.ok (_,p2)=>match Gz ⟨Y,bs,0,0,l,p2,0⟩with
      |.error e=>.error e
      |.ok _=>.ok d:=by
   unfold Cj FI;rw[s];rfl
  refine⟨λf v=>?_,λj q w c=>?_⟩
  ·subst v;rcases o with h|⟨q,_,_,_,x,h⟩
   ·rw[a,h]
   cases h
  subst w;rcases o with h|⟨S,B,t,m,x,g⟩
  ·rw[h]at a;simp only[]at a;have H:=F _ _ _ h c.1;rcases Q0 fm bs l q c with⟨z,b,i⟩|⟨z,b,i⟩
   ·rw[z]at a;simp only[]at a;generalize Ey fm bs l q=p2 at *;refine⟨b,λP=>?_,λV=>?_⟩
    ·rw[a];unfold Gz;have u:=C6 P;simp only[u];by_cases r:(p2:Int)=l
     ·rw[BA r,IC n u r]
     rw[Bz r,J4 n b u r]
    have Q:bs[p2]?=Y:=Dz J;rw[a];unfold Gz;simp only[Q];refine⟨trivial,?_,λk=>?_⟩
    ·have:=b.2;have:=b.1;omega
    have:=H k;have:=c.1;omega
   rw[z]at a;simp only[]at a;generalize Ey fm bs l q=p2 at *;refine⟨⟨J,J⟩,λ_=>?_,λh=>absurd i h⟩;rw[a,IC n (C6 i) b]
  injection g with g;injection g with e1 e2;subst e2;rw[B]at a;simp only[]at a;have e:Ey fm bs l q=q:=by
   rcases Q0 fm bs l q c with⟨_,b,i⟩|⟨_,b,i⟩
   ·have:=b.2;omega
   omega
  rw[e];refine⟨c,λ_=>?_,λh=>absurd m h⟩;rw[a,IC n (C6 m) t]
 have R:=vL fm bs d l _ A D;have a:Cj fm bs d l=.error (8,(Ey fm bs l 0:Int)):=by
  unfold Cj FI;rw[s]
 generalize Ey fm bs l 0=p0 at *;rw[R]at o;refine⟨λf v=>?_,λj q w c=>?_⟩
 ·subst v;rcases o with h|⟨q,_,_,_,x,h⟩
  ·injection h with h;subst h;exact a
  cases h
 subst w;rcases o with h|⟨S,B,t,m,x,g⟩
 ·cases h
 injection g with g;injection g with e1 e2;subst e2;have e:Ey fm bs l q=q:=by
  rcases Q0 fm bs l q c with⟨_,b,i⟩|⟨_,b,i⟩
  ·have:=b.2;omega
  omega
 rw[e];refine⟨c,λ_=>?_,λh=>absurd m h⟩;rw[a,IC n (C6 m) t,show(p0:Int)=q by omega]
structure LB(W:World)(A:A3)(V:World):Prop where
 th:V.heap[W.heap.size]?=some (.cells BZ 74)
 flt:V.heap[W.heap.size+1]?=some (.cells (BH (0,0)) 76)
 box:V.heap[W.heap.size+2]?=some (.cells A 116)
 below:A0 W V
def LB.next{V':O}(h:LB W A V)(hb:A0 V V'):LB W A V' :=
 ⟨(hb.block _ (BC h.th)).trans h.th,(hb.block _ (BC h.flt)).trans h.flt,(hb.block _ (BC h.box)).trans h.box,h.below.trans (hb.mono h.below.size)⟩
def LB.drew(h:LB W A V):LB W A V.drew:=⟨h.th,h.flt,h.box,h.below.drew⟩
def vN(W:O)(A B:A3):LB W A ((((W.alloc (E BZ 74)).alloc (E (BH (0,0)) 76)).alloc (E B 116)).setRow (W.heap.size+2) A):=by
 have c:(W.alloc (E BZ 74)).heap.size=W.heap.size+1:=Az
 have d:((W.alloc (E BZ 74)).alloc (E (BH (0,0)) 76)).heap.size=W.heap.size+2:=Az
 have b:=BI ((W.alloc (E BZ 74)).alloc (E (BH (0,0)) 76)) (E B 116);have a:=BI (W.alloc (E BZ 74)) (E (BH (0,0)) 76);rw[d]at b;rw[c]at a;refine⟨sx J ((BT _ _ _ J).trans ((BT _ _ _ J).trans (BI W _))),sx J ((BT _ _ _ J).trans a),Ca _ _ _ _ _ _ b,CF (((BN).alloc J _).alloc J _) J _⟩
def vO(V:O)(a b:Nat)(x y:A3):((V.setRow a x).setRow b y).heap.size=V.heap.size:=by simp[World.setRow]
def vP(W:O)(B:A3):(((W.alloc (E BZ 74)).alloc (E (BH (0,0)) 76)).alloc (E B 116)).heap[W.heap.size+2]?=U (E B 116):=by
 have h:=BI ((W.alloc (E BZ 74)).alloc (E (BH (0,0)) 76)) (E B 116);rwa[show((W.alloc (E BZ 74)).alloc (E (BH (0,0)) 76)).heap.size=W.heap.size+2 by simp]at h
def LB.fin(h:LB W A V)(T:A3)(x:Int×Int):((V.setRow W.heap.size T).setRow (W.heap.size+1) (BH x)).heap[W.heap.size]?=U (E T 74)/\((V.setRow W.heap.size T).setRow (W.heap.size+1) (BH x)).heap[W.heap.size+1]?=U (E (BH x) 76)/\A0 W ((V.setRow W.heap.size T).setRow (W.heap.size+1) (BH x)) :=
 ⟨sx J (Ca _ _ _ _ _ _ h.th),Ca _ _ _ _ _ _ (sx J h.flt),CF (CF h.below J _) J _⟩
def W6{fn:Func}{p q:Tmp}{A:Act}{g g2:Nat}{k n:Int}{s:ByteArray}{ks vs:Al}{F:Int×Int}{R:Ending->O->Prop}{B:Prop}(h:fn.results=#[.cell p 74,.cell q 76])(a:w.heap[g]?=U (E (BJ k n s ks vs) 74)/\w.heap[g2]?=U (E (BH F) 76)/\B)(c:A.tmps.getD p undef=A8 (U ⟨g,0,Y⟩))(d:A.tmps.getD q undef=A8 (U ⟨g2,0,Y⟩))(b:A.defers=[])(e:R (Af (Aa #[.agg (BJ k n s ks vs),.agg (BH F)])) w):bodyPost X fn R .ret A w :=
 Cc (uU h _ _ g g2 _ _ _ _ _ _ _ _ c a.1 underlying74 rfl (K8 _ _ _ _ _) d a.2.1 underlying76 rfl (J5 _)) b e
def eu(szP:Nat->A2->Nat)(k:Nat)(bs:A1)(l:Int)(W:Ak)(r:Except (Int×Int) (DataW Unit))(e:Ending)(W':Ak):Prop :=
 A0 W W'/\match r with
 |.ok dd=>(∃kd n s a i j b p m,e=Af (Aa #[.agg (BJ kd n s (A7 a i j) (A7 b p m)),.agg (BH (0,0))])/\CM k W' (λj=>W.heap.size<=j/\j<W'.heap.size) (.agg (BJ kd n s (A7 a i j) (A7 b p m))) dd)/\(bs.length:Int)<=l/\∀k,szP k dd<=400*bs.length
 |.error f=>e=Af (Aa #[.agg BZ,.agg (BH f)])
def vQ(am:Nat->A2->Nat)(W:O)(fm d l:Int)(bs:A1)(r:fm=1)(al:0<=l)(hb:bs.length<=281474976710656)(hG:∀aa ae q,EF fm bs d l aa=.ok (ae,q)->q<=bs.length->∀bf,am bf ae<=400*q)(ax:∀en pl,Cj fm bs d l=.error (en,pl)->en≠0)(ar:∀V aa,C1 bs l aa->Am X 46 #[.agg (BP bs fm d l),I K aa] V (ER (d.toNat+1) bs l V (EF fm bs d l aa))):Am X 27 #[I K fm,I K d,I K l,A9 ⟨bs.toArray⟩] W (eu am (d.toNat+1) bs l W (Cj fm bs d l)):=by
 have a0:C1 bs l (Ey fm bs l 0):=by
  rcases Q0 fm bs l 0 ⟨DK _,al⟩with⟨_,h,_⟩|⟨_,h1,h2⟩
  ·exact h
  exact⟨J,J⟩
 have ah:Hid (∀r',FL bs l (EF fm bs d l (Ey fm bs l 0)) r'->_):=λr' h=>vM am fm bs d l al hG (r':=r') h;have ag:Hid (∀en pl,Cj fm bs d l=.error (en,pl)->en≠0):=ax;have cT:=λV=>ar V (Ey fm bs l 0) a0;have cS:∀(V:O) (i:Nat),fm=1->i<=bs.length->Am X 45 #[Ab #[A9 ⟨bs.toArray⟩,I K fm,I K d,I K l],I K i] V λe L=>e=Af (I K (Ey fm bs l i))/\A0 V L:=λV i h1 h2=>by
  have h:=Oa V bs fm d l i hb h2;unfold Ey;rw[BA h1];exact h
 have an:Hid (∀(V:O) (i:Nat),Am X 47 #[Ab #[A9 ⟨bs.toArray⟩,I K fm,I K d,I K l],I K i,I K 9] V λe L=>e=Af (.agg (BH (CS bs l i 9)))/\A0 V L):=λV i=>Oe bs fm d l V i 9;generalize Cj fm bs d l=R at *;obtain⟨p0,ai⟩:∃p0,Hid (Ey fm bs l 0=p0):=⟨_,show _=_ from rfl⟩
 rw[ai.out]at cT ah;have e1:(fm==1)=true:=B4
 have a7:=T r;have aq:∀V,Am X 45 #[Ab #[A9 ⟨bs.toArray⟩,I K fm,I K d,I K l],I K 0] V λe L=>e=Af (I K p0)/\A0 V L:=λV=>by
  have h:=cS V 0 r (DK _);rw[ai.out]at h;exact h
 have ao:Hid (∀V,Am X 46 #[Ab #[A9 ⟨bs.toArray⟩,I K fm,I K d,I K l],I K p0] V (ER (d.toNat+1) bs l V (EF fm bs d l p0))):=cT;have a6:Hid (∀(V:O) (i:Nat),i<=bs.length->Am X 45 #[Ab #[A9 ⟨bs.toArray⟩,I K fm,I K d,I K l],I K i] V λe L=>e=Af (I K (Ey fm bs l i))/\A0 V L):=λV i h=>cS V i a7 h;clear cT a0 ai r cS al ar hG ax;go_enter func27,ntmps27
 go_wp2_with(first
  |((with_reducible refine Co rfl 116 (.tmp 10) (.tmp 18) rfl (W.heap.size+2) (BP bs fm d l) ?hx ?hy 116 (BP [] 0 0 0) ?hg ?hi ?hs ?h1 ?_);(case hx=>exact rfl);(case hy=>exact rfl);(case hg=>exact vP W _);(case hi=>exact PE);(case hs=>exact vJ _ _ _ _);(case h1=>exact vK _ _ _ _);refine F8 ?_;intro V0 E0;have y:=T (E0▸vN W _ _);clear E0;have b:=BB y.box 0;have c:=BB y.box 1;have c2:=BB y.box 2;have g:=BB y.box 3;unfold BP at b c c2 g)
  |(go_at_call 45;refine(aq _).mono ?_;clear aq b c c2 g;rintro e w2 ⟨rfl,au⟩;have Q:=T (y.next au);clear au;have b:=BB Q.box 0;have c:=BB Q.box 1;have c2:=BB Q.box 2;have g:=BB Q.box 3;unfold BP at b c c2 g))
 refine(ao _).mono ?_;clear b c c2 g;rintro e a a4;obtain⟨av,r',A,C,s,u,w,x,v,D,B,bh,F,a2,rfl,hA,hF⟩:=Ok a4;have ab:=T (Q.next av);obtain⟨hE,hO⟩:=ah.out r' a2;have ba:Hid (W.heap.size+3<=a.heap.size):=BC ab.box;have a9:Hid (W.heap.size+3<=w2.heap.size):=BC Q.box;clear a4 a2 ah ao av;simp only[]
 cases r' with
 |error bb =>
  obtain rfl:=hF bb rfl;obtain rfl:=hE F rfl;have bg:(F.1==0)=false:=by simpa using ag.out F.1 F.2 Z
  clear hA hF hE hO ag
  go_wp2_with(first
   |((with_reducible refine zT 12 27 rfl rfl (a.heap.size) (BJ A C s (G u w x) (G v D B)) ?_ ?_);exact⟨Z,Z,(JA a _ _).1,thg⟩)
   |((with_reducible refine zF 13 29 rfl rfl (a.heap.size+1) F ?_ ?_);exact⟨Z,Z,sx J (JA a _ _).2⟩;refine F8 ?_;intro t m;have n:=T (m▸ab.next (Nd _ _ _ _ _));have P:Hid (t.heap[a.heap.size+1]?=U (E (BH F) 76)):=m▸PZ;clear m;have u0:t.cell? ⟨a.heap.size+1,0,Y⟩=U (I K F.1):=BB P 0))
  have hM:=ba.out;refine DA (S:=λak=>ak.heap[a.heap.size+1]?=U (E (BH F) 76)) P M ?_;intro hS;refine BL 0 33 (.agg BZ) Z (λak _=>?y0) hS ?_
  case y0=>(unfold BZ BJ BV;go_simp)
  refine BL 1 34 (.agg (BH F)) Z (λak hZ=>yF 13 hZ Z Z) hS ?_;have az:=sx (cs:=BZ) (show a.heap.size+1≠W.heap.size by omega) hS;refine Jy 2 8 33 W.heap.size BZ M n.drew.th thg az ?_;refine sF 3 9 34 (W.heap.size+1) F M (sx J n.drew.flt) (sx J az) ?_;refine Cv ?_;go_simp;go_wp2;have r:=n.drew.fin BZ F;exact W6 results27 r Z Z Z ⟨r.2.2,Z⟩
 |ok ae =>
  obtain⟨dd,q⟩:=ae;obtain⟨hq,rfl,rfl,ay⟩:=hA dd q rfl;obtain⟨bc,ad,ac⟩:=hO dd q rfl hq;have HA:Hid (CM (d.toNat+1) a (λj=>W.heap.size+3<=j/\j<a.heap.size) (.agg (BJ A C s (G u w x) (G v D B))) dd):=ay.same (λj z=>⟨Ao a9.out,z.2⟩) (λ_ _=>rfl);have be:=hq.1;clear hA hF hE hO ag ay;have p:=λV=>a6.out V q be;obtain⟨N,a8⟩:∃N,Hid (Ey fm bs l q=N):=⟨_,show _=_ from rfl⟩
  rw[a8.out]at p bc ad ac;by_cases a3:N<bs.length
  ·obtain rfl:=ad a3;have bd:(N:Int)<(bs.length:Int):=J
   have cB:=λV=>an.out V N;generalize CS bs l N 9=F at *;clear ad ac HA hq
   go_wp2_with(first
    |((with_reducible refine zT 12 27 rfl rfl (a.heap.size) (BJ A C s (G u w x) (G v D B)) ?_ ?_);exact⟨Z,Z,(JA a _ _).1,thg⟩)
    |((with_reducible refine zF 13 29 rfl rfl (a.heap.size+1) (0,0) ?_ ?_);exact⟨Z,Z,sx J (JA a _ _).2⟩;refine F8 ?_;intro t m;have n:=T (m▸ab.next (Nd _ _ _ _ _));have P:Hid (t.heap[a.heap.size+1]?=U (E (BH (0,0)) 76)):=m▸PZ;have k:Hid (t.heap[a.heap.size]?=U (E (BJ A C s (G u w x) (G v D B)) 74)):=m▸VZ;have f:=T (m▸Nd _ _ _ _ _);clear m;have u0:t.cell? ⟨a.heap.size+1,0,Y⟩=U (I K 0):=BB P 0;have b:=BB n.box 0;have c:=BB n.box 1;have c2:=BB n.box 2;have g:=BB n.box 3;unfold BP at b c c2 g)
    |(go_at_call 45;refine(p _).mono ?_;clear p b c c2 g u0;rintro e w6 ⟨rfl,H⟩;have o:=T (n.next H);have af:=T (f.trans (H.mono f.size));have ap:=T ((H.block _ (BC k)).trans k);clear H;have b:=BB o.box 0;have c:=BB o.box 1;have c2:=BB o.box 2;have g:=BB o.box 3;unfold BP at b c c2 g)
    |(go_at_call 47;refine(cB _).mono ?_;clear cB b c c2 g;rintro e w7 ⟨rfl,aw⟩;have aj:=T (o.next aw);clear aw)
    |((with_reducible refine zT 8 44 rfl rfl W.heap.size BZ ?_ ?_);exact⟨Z,Z,aj.th,thg⟩)
    |((with_reducible refine zF 9 47 rfl rfl (W.heap.size+1) F ?_ ?_);exact⟨Z,Z,sx J aj.flt⟩))
   have r:=aj.fin BZ F;exact W6 results27 r Z Z Z ⟨r.2.2,Z⟩
  obtain⟨rfl,h6,h7⟩:=ac a3;have a5:=T (Qt h6 h7);have bd:¬(N:Int)<(bs.length:Int):=J
  clear ad ac h6 h7 hq an
  go_wp2_with(first
   |((with_reducible refine zT 12 27 rfl rfl (a.heap.size) (BJ A C s (G u w x) (G v D B)) ?_ ?_);exact⟨Z,Z,(JA a _ _).1,thg⟩)
   |((with_reducible refine zF 13 29 rfl rfl (a.heap.size+1) (0,0) ?_ ?_);exact⟨Z,Z,sx J (JA a _ _).2⟩;refine F8 ?_;intro t m;have n:=T (m▸ab.next (Nd _ _ _ _ _));have P:Hid (t.heap[a.heap.size+1]?=U (E (BH (0,0)) 76)):=m▸PZ;have k:Hid (t.heap[a.heap.size]?=U (E (BJ A C s (G u w x) (G v D B)) 74)):=m▸VZ;have f:=T (m▸Nd _ _ _ _ _);clear m;have u0:t.cell? ⟨a.heap.size+1,0,Y⟩=U (I K 0):=BB P 0;have b:=BB n.box 0;have c:=BB n.box 1;have c2:=BB n.box 2;have g:=BB n.box 3;unfold BP at b c c2 g)
   |(go_at_call 45;refine(p _).mono ?_;clear p b c c2 g u0;rintro e w6 ⟨rfl,H⟩;have o:=T (n.next H);have af:=T (f.trans (H.mono f.size));have ap:=T ((H.block _ (BC k)).trans k);clear H;have b:=BB o.box 0;have c:=BB o.box 1;have c2:=BB o.box 2;have g:=BB o.box 3;unfold BP at b c c2 g)
   |((with_reducible refine C8 rfl 74 (.tmp 12) rfl (a.heap.size) ?hx 74 (BJ A C s (G u w x) (G v D B)) (0,0) _ ?hg underlying74 rfl ?hi ?_);(case hx=>exact rfl);(case hg=>exact ap);(case hi=>exact K8 _ _ _ _ _))
   |((with_reducible refine zT 8 48 rfl rfl W.heap.size (BJ A C s (G u w x) (G v D B)) ?_ ?_);exact⟨Z,Z,o.th,thg⟩)
   |((with_reducible refine zF 9 49 rfl rfl (W.heap.size+1) (0,0) ?_ ?_);exact⟨Z,Z,sx J o.flt⟩))
  have r:=o.fin (BJ A C s (G u w x) (G v D B)) (0,0);refine W6 results27 r Z Z Z ⟨r.2.2,⟨_,_,_,_,_,_,_,_,_,Z,?_⟩,a5⟩;refine HA.same (λj z=>⟨J,?_⟩) (λj z=>?_)
  rotate_left
  ·have h1:=af.size;have h2:=z.2;show j<((w6.setRow W.heap.size (BJ A C s (G u w x) (G v D B))).setRow (W.heap.size+1) (BH (0,0))).heap.size;rw[vO];omega
  have h1:=z.1;have h2:=z.2;exact(sx (show j≠W.heap.size+1 by omega) (sx (show j≠W.heap.size by omega) Z)).trans (af.block j h2)
def wa(k:Nat)(W:O)(F:Nat->Prop)(a:A3)(d:A2)(hF:∀j,F j->j<W.heap.size)(h:CM k W F (.agg a) d)(p:(CC k d).length<=149999999):Am X 28 #[I K 2,.agg a] W λe l=>e=Af (Aa #[D6 (CC k d),Ac true])/\A0 W l:=by
 have b:Hid (GR W a (W.alloc (E a 74))):=Q1 _ _;obtain⟨r,n,s,q,t,u,v,w,x,e⟩:=h.shape;injection e with e;have i:∀V,A0 W V->CM k V F (.agg a) d/\∀j,F j->j<V.heap.size:=λV f=>⟨h.same (λ_ h=>h) (λj g=>f.block j (hF j g)),λj g=>CA (hF j g) f.size⟩
 have m:=T (λV f=>We k V F a d (i V f).2 (i V f).1 J);subst e;unfold BJ at *;have z:=BB b.box 0;have A:=BB b.box 1;have B:=BB b.box 2;have C:=BB b.box 3;have D:=BB b.box 4;have c:=m.out _ b.below;unfold I1 D6 at c;unfold D6;generalize CC k d=R at *;go_enter func28,ntmps28
 go_wp2_with(first|(go_at_call 49;refine c.mono ?_;rintro e y ⟨rfl,o⟩))
 refine Cc (KT results28 _ _ _) Z ?_;exact⟨rfl,(b.next o).below⟩
def wb(W:Ak)(d l:Int)(bs:A1)(hd:1<=d/\d<=16)(hl:1<=l/\l<=4096)(ac:∀Q pl,Cj 1 bs d l=.error (Q,pl)->Q≠0)(hR:Am X 27 #[I K 1,I K d,I K l,A9 ⟨bs.toArray⟩] W (eu (λk y=>(CC k y).length) (d.toNat+1) bs l W (Cj 1 bs d l))):Am X 11 #[I K 1,I K 2,I K d,I K l,A9 ⟨bs.toArray⟩] W (ew (∃y,Cj 1 bs d l=.ok y/\(bs.length:Int)<=l) W):=by
 have P:∀V,Am X 24 #[I K 1] V λe c=>e=Af (Ac true)/\V=c:=λV=>(R6 1 V).mono λe c h=>⟨h.1,h.2.symm⟩
 have c2:∀V,Am X 24 #[I K 2] V λe c=>e=Af (Ac true)/\V=c:=λV=>(R6 2 V).mono λe c h=>⟨h.1,h.2.symm⟩
 have h3:¬d<1:=J
 have h4:¬16<d:=J
 have h5:¬l<1:=J
 have h6:¬4096<l:=J
 have C:=T (show l<=4096 by omega);have B:=T ac;generalize d.toNat+1=k at *;generalize Cj 1 bs d l=D at *;have N:=T hR;clear hR hd hl ac;go_enter func11,ntmps11
 go_wp2_with(first
  |(go_at_call 24;refine(P _).mono ?_;clear P;rintro e w1 ⟨rfl,rfl⟩)
  |(go_at_call 24;refine(c2 _).mono ?_;clear c2;rintro e w1 ⟨rfl,rfl⟩))
 refine N.mono ?_;clear N h3 h4 h5 h6;rintro e a ⟨aa,hs⟩;have p:=T aa;clear aa
 cases D with
 |error f =>
  obtain rfl:=hs;have ah:(f.1==0)=false:=by simpa using B.out f.1 f.2 Z
  clear C;simp only[]
  go_wp2_with(first
   |((with_reducible refine zT 13 47 rfl rfl (a.heap.size) BZ ?_ ?_);exact⟨Z,Z,(JA a _ _).1,thg⟩)
   |((with_reducible refine zF 14 48 rfl rfl (a.heap.size+1) f ?_ ?_);exact⟨Z,Z,sx J (JA a _ _).2⟩;refine F8 ?_;intro i b;have m:=T (b▸Nd _ _ _ _ _);have q:Hid (i.heap[a.heap.size+1]?=U (E (BH f) 76)):=b▸PZ;clear b;have u0:i.cell? ⟨a.heap.size+1,0,Y⟩=U (I K f.1):=BB q 0))
  refine DA (S:=λo=>o.heap[a.heap.size+1]?=U (E (BH f) 76)) q M ?_;intro g;refine BE 0 52 (A8 (U ⟨a.heap.size+1,0,Y⟩)) g ?_;refine BL 1 53 (I K f.1) Z (λo F=>?y1) g ?_
  case y1=>(have hz:o.cell? ⟨a.heap.size+1,0,Y⟩=U (I K f.1):=BB F 0;go_simp)
  refine BE 2 54 (A8 (U ⟨a.heap.size+1,1,Y⟩)) g ?_;refine BL 3 55 (I K f.2) Z (λo F=>?y2) g ?_
  case y2=>(have hz:o.cell? ⟨a.heap.size+1,1,Y⟩=U (I K f.2):=BB F 1;go_simp)
  refine BE 4 10 (A9 ⟨#[]⟩) g ?_;refine BE 5 11 (I K f.1) g ?_;refine BE 6 12 (I K f.2) g ?_;refine Cv ?_;go_simp;go_wp2;refine Cc (IL results11 _ _ _) Z ?_;exact⟨_,_,_,Z,λh=>absurd h (B f.1 f.2 Z),p.trans (m.drew.mono p.size)⟩
 |ok u =>
  obtain⟨⟨x,n,s,r,v,w,t,A,z,rfl,R⟩,ad,ae⟩:=hs;have HJ:=T ad;have L:Hid (∀V,A0 a V->Am X 28 #[I K 2,.agg (BJ x n s (G r v w) (G t A z))] V λe c=>e=Af (Aa #[D6 (CC k u),Ac true])/\A0 V c):=λV hV=>wa k V (λj=>W.heap.size<=j/\j<a.heap.size) _ u (λj H=>CA H.2 hV.size) (R.same (λ_ h=>h) (λj H=>hV.block j H.2)) (by have h:=ae k;have:=C.out;dsimp only at h;omega);clear R ad ae B C;unfold D6 at L;generalize CC k u=O at *;simp only[]
  go_wp2_with(first
   |((with_reducible refine zT 13 47 rfl rfl (a.heap.size) (BJ x n s (G r v w) (G t A z)) ?_ ?_);exact⟨Z,Z,(JA a _ _).1,thg⟩)
   |((with_reducible refine zF 14 48 rfl rfl (a.heap.size+1) (0,0) ?_ ?_);exact⟨Z,Z,sx J (JA a _ _).2⟩;refine F8 ?_;intro i b;have m:=T (b▸Nd _ _ _ _ _);have q:Hid (i.heap[a.heap.size+1]?=U (E (BH (0,0)) 76)):=b▸PZ;have ag:Hid (i.heap[a.heap.size]?=U (E (BJ x n s (G r v w) (G t A z)) 74)):=b▸VZ;clear b;have u0:i.cell? ⟨a.heap.size+1,0,Y⟩=U (I K 0):=BB q 0)
   |((with_reducible refine C8 rfl 74 (.tmp 13) rfl (a.heap.size) ?hx 74 (BJ x n s (G r v w) (G t A z)) (0,0) _ ?hg underlying74 rfl ?hi ?_);(case hx=>exact rfl);(case hg=>exact ag);(case hi=>exact K8 _ _ _ _ _))
   |(go_at_call 28;refine(L _ m).mono ?_;clear u0;rintro e w6 ⟨rfl,ab⟩;have af:=T (m.trans (ab.mono m.size));clear ab))
  refine Cc (IL results11 _ _ _) Z ?_;exact⟨_,_,_,Z,λ_=>⟨u,Z,HJ⟩,p.trans (af.mono p.size)⟩
def we{sp:Nat->A5 Unit}{th:Nat->Except (Int×Int) (DataW Unit×Nat)}{bs:A1}{lim:Int}(c:∀p,CK (sp p))(d:∀p,CK (th p)):CK (FI sp th bs lim):=λa b h=>by
 unfold FI at h;split at h
 ·next e he=>injection h with h;subst h;exact c _ a b he
 split at h
 ·next e he=>injection h with h;subst h;exact d _ a b he
 split at h
 ·next e he=>injection h with h;subst h;exact c _ a b he
 split at h
 ·next e he =>
  injection h with h;subst h;unfold Gz at he;split at he
  ·cases he
  split at he
  ·injection he with he;injection he with he;subst he;decide
  injection he with he;injection he with he;subst he;decide
 cases h
def wg(bs:A1)(d l:Int)(a:0<=d):CK (Cj 1 bs d l) :=
 we (λp=>M3 _ _ _ _) (λp=>RL _ _ _ _ (λc p=>Vk _ _) _ _ _ AO J)
def wj(bs:A1)(d l:Int)(e:0<=d)(p:Nat)(y:A2)(q:Nat)(h:EF 1 bs d l p=.ok (y,q))(_hq:q<=bs.length)(k:Nat):(CC k y).length<=400*q:=by
 have h:CI bs l d (λc p=>CR ⟨Y,bs,0,0,l,p,0⟩ c) (d.toNat+1) 0 p=.ok (y,q):=h;by_cases b:p<=bs.length
 ·have a:=Pt bs [] l d (d.toNat+1) 0 J J p b;rw[h]at a;have:=a.2.2.1 k;have:=US k y;omega
 rw[CI,Dz J]at h;cases h
def wk(W:O)(bs:A1)(d l:Int)(h:1<=d/\d<=16)(i:1<=l/\l<=4096)(hb:bs.length<=281474976710656):Am X 6 #[A9 ⟨bs.toArray⟩,I K d,I K l] W λe g=>∃b,e=Af (Ac b)/\(b=true->∃y,Cj 1 bs d l=.ok y/\(bs.length:Int)<=l)/\A0 W g:=by
 have a:0<=d:=J
 have f:∀c k,Cj 1 bs d l=.error (c,k)->c≠0:=wg bs d l a;refine vR _ W bs d l (wb W d l bs h i f (vQ _ W 1 d l bs Z J hb (wj bs d l a) f λV p j=>?_));exact vI (d.toNat+1) V bs 1 d l l p _ Z λV=>W5 ⟨Y,bs,0,d,l,0,0⟩ 1 l (λ_ _=>Iff.rfl) hb (by show l<=_;omega) (by show d<=100000;omega) (d.toNat+1) 0 V p AO (by show d<_;omega) j
def wl(W:O)(a:A4)(bs:A1)(e:Nat)(d l:Int)(h:Er W a bs)(g:JU W)(n:0<=d)(o:d<=100000)(q:bs.length<=200000000):Am X 18 #[I K 1,Ab #[I K d,I K l],G a bs.length e] W (He (d.toNat+1) W (Cj 1 bs d l)):=by
 have s:=g.big;show Am _ _ _ _ (He (d.toNat+1) W (FI (λp=>Cd bs l (bs.length+1-p) p) (λp=>CI bs l d (λc p=>CR ⟨Y,bs,0,0,l,p,0⟩ c) (d.toNat+1) 0 p) bs l));refine Yz (d.toNat+1) W 1 a bs e d l h _ _ (λV k=>X8 V a bs e d l k) (λb V p m f=>KY V b ⟨a,bs,e,d,l,p,0⟩ f) (λb V p m i f=>?_);exact U0 (d.toNat+1) V b ⟨a,bs,e,d,l,p,0⟩ f q (λr j=>(g.below i).u8.but j J (g.below i).big) J o (by simpa using n) AW
def wm(bs:A1)(d l:Int)(c:0<=d){x:A2}(h:Cj 1 bs d l=.ok x)(k:Nat):Ex k x+30<=400*bs.length:=by
 have b:Tm bs [] l False 0 (λd _=>∀k,Ex k d+30<=400*bs.length) (O4 bs.length (Cj 1 bs d l)) (O4 (bs++[]).length (Cj 1 (bs++[]) d l)):=aS bs [] l (λp a=>Ln bs [] l p a) (λp a=>Pt bs [] l d (d.toNat+1) 0 J J p a);rw[h]at b;exact b.2.2.1 k
def Mg(n:Nat):ByteArray:=⟨(List.replicate n 32).toArray⟩
def wn(n:Nat):(Mg n).size=n:=by
 show(List.replicate n (32:UInt8)).toArray.size=n;simp
def wo(n:Nat)(s:A1):((((((⟨#[91,91]⟩++⟨s.toArray⟩:ByteArray)++⟨#[93,44,91]⟩)++Mg n)++⟨s.toArray⟩)++Mg n)++⟨#[93,93]⟩:ByteArray)=⟨(KJ n s).toArray⟩:=by
 apply Mr;simp[KJ,Mg]
def ws(n:Nat):(Mg n++⟨#[32]⟩:ByteArray)=Mg (n+1):=by
 apply Mr;apply WN.1;simp[Mg,Sz]
def eH(W:Ak)(b:A1)(e:Ending)(W':Ak):Prop:=∃v,e=Af (Aa #[v,.int .i64 0,.int .i64 0])/\BG W' W.heap.size v b/\A0 W W'
def wt(k:Nat)(W:O)(fin i d l:Int)(a:A4)(n c:Nat)(g:A2)(L:A1)(D:EG fin i d l=true)(u:∀V,A0 W V->Am X 18 #[I K fin,Ab #[I K d,I K l],G a n c] V (He k V (.ok g)))(v:∀t y V,A0 W V->BQ k V (λj=>j<V.heap.size) (.iface t y) g->Am X 19 #[I K i,.iface t y] V λe q=>∃F,e=Af (Aa #[F,I K 0])/\BG q V.heap.size F L/\A0 V q):Am X 9 #[I K fin,I K i,I K d,I K l,G a n c] W (eH W L):=by
 have f:Hid (NT (Iv W fin d l (G a n c)) W.heap.size fin d l (G a n c)):=lD ..;have b:Hid (A0 W (Iv W fin d l (G a n c))):=lE ..;have m:=YF fin i d l (Iv W fin d l (G a n c));rw[D]at m;have aa:∀(A:Fn) (first z:A3) (w:O),(Instr.makeFunc A first z).run X w=.ok (.func A first z) w:=λ_ _ _ _=>rfl;have s:Am X 16 #[.func (.func 17) #[] #[A8 (U ⟨W.heap.size,0,Y⟩),A8 (U ⟨W.heap.size+1,0,Y⟩),A8 (U ⟨W.heap.size+2,0,Y⟩),A8 (U ⟨W.heap.size+3,0,Y⟩)]] (Iv W fin d l (G a n c)) (L7 k (Iv W fin d l (G a n c)) (.ok g)):=by
  have r:Below (Iv W fin d l (G a n c)).heap.size (Iv W fin d l (G a n c)) (((Iv W fin d l (G a n c)).alloc (E #[I K 0] 31)).alloc (E #[I K 0] 3)):=(BN).alloc Az _;refine lH k _ _ (.ok g) ?_;exact qn k _ _ fin d l a n c (.ok g) (f.below r) (u _ (b.trans (r.mono b.size)))
 have c0:=f.b0.cell;have c1:=f.b1.cell;have c2:=f.b2.cell;have o:=T v;clear f u v;have p:Hid (Iv W fin d l (G a n c)=(((W.alloc (E #[I K fin] 3)).alloc (E #[I K d] 3)).alloc (E #[I K l] 3)).alloc (E #[G a n c] 38)):=rfl;generalize Iv W fin d l (G a n c)=V at *;have hv:=p.out;subst hv;clear p D;go_enter func9,ntmps9
 go_wp2_with(first
  |(go_at_call 15;refine m.mono ?_;clear m;rintro e w2 ⟨rfl,rfl⟩)
  |(go_at_call 16;refine s.mono ?_;clear s;rintro e H ⟨B,S⟩;obtain⟨t,y,rfl,C⟩:=S;have h:Hid (A0 W H):=b.trans (B.mono b.size);have x:=o.out t y H h (C.same (λj hj=>hj.2) (λ_ _=>rfl));clear b B C o)
  |(go_at_call 19;refine x.mono ?_;clear x;rintro e w5 ⟨v5,rfl,N,R⟩;obtain⟨P,Q,a5,n5,k5,rfl⟩:=N))
 go_ret3
 exact⟨_,Z,BG.mono ⟨P,Q,_,_,_,Z⟩ h.size,h.trans (R.mono h.size)⟩
def wu(g:G2 W.heap.size W){a:A4}{bs:A1}(b:Nat)(h:Er W a bs)(i:bs.length<=4096){T:A2}(f:Cj 1 bs 16 4096=.ok T){fm:Int}(d:fm=2\/fm=3):Am X 9 #[I K 1,I K fm,I K 16,I K 4096,G a bs.length b] W (eH W (G1 fm 17 T)):=by
 have j:=wm bs 16 4096 J f 17;refine wt 17 W 1 fm 16 4096 a bs.length b T _ (by rcases d with rfl|rfl<;>rfl) (λV c=>f▸wl V a bs b 16 4096 (h.below c) (g.rd.below c) J J J) (λt y V c e=>lF V fm t y _ (by rcases d with rfl|rfl<;>rfl) ?_);rcases d with rfl|rfl
 ·rw[qL];exact XG 17 V _ _ T (λ_ h=>h) e (Ao (US 17 T))
 rw[qM];exact iP 17 V _ _ T (λ_ h=>h) e (Ao (qH 17 T))
def J3.fm{f g:Int}{N:Nat}{td:A3}(h:J3 w (FN d f) N td V):J3 w (FN d g) N td (V.setCell ⟨w.heap.size,6,Y⟩ (I K g)):=by
 have b:∀j,j≠w.heap.size->(V.setCell ⟨w.heap.size,6,Y⟩ (I K g)).heap[j]?=V.heap[j]?:=λj a=>CP V _ _ _ AO;have:=h.lt;refine⟨h.below.trans ⟨Z,Z,Z,AJ,λj a=>b j J⟩,?_,(b _ J).trans h.told,h.lt⟩;rw[ET _ _ _ _ _ _ h.cfg];rfl
def eI{fm:Int}(h:Ma (FN d fm)){l:A1}(b:(l.length:Int)<=4096){v:A2}(a:Cj fm l 16 4096=.ok (.agg [.agg [v],.agg [v]])):K1 (FN d fm) l=DQ (DJ (EM d.key 1 (CC 15 v))) (3,0,0,2) 0 0:=by
 have e:l.take ((FN d fm).bytes.toNat+1)=l:=II (by show l.length<=(4096:Int).toNat+1;omega);unfold K1;rw[BA (df h),e,tI h a];rfl
def ww(c:BX)(w:O)(H:FF w c)(hk:bB c)(ht:G2 w.heap.size w)(s:A1)(af:Int)(bj:Lw af)(bk:c.pol.size<=281474976710656)(hs:s.length<=1048576):Am prog 3 #[.agg c.arr,A9 ⟨s.toArray⟩,I K af] w λe w'=>e=Af (Ac true)/\A0 w w':=by
 have cP:=Lx c.labels 5 J J hk.1;have hp:=Kh c.labels 5 J;generalize D7 c.labels 5=p at *;have hw:=I0 (1+(p:Int)) J;have r:Hid (Jt w {c with labels:=1+(p:Int)} (w.alloc (E (c.arr.setIfInBounds 0 (I K (1+(p:Int)))) 25))):=O2 w {c with labels:=1+(p:Int)};have cO:=sy {c with labels:=1+(p:Int)} _ (FF.below ⟨H.edges,H.ints,H.en,H.bn,H.eb,H.bb⟩ r.below) ⟨⟨by dsimp only;omega,by dsimp only;omega⟩,hk.2⟩ (ht.below r.below).top VK Ay bk;have HO:Hid (∀d,PJ {c with labels:=1+(p:Int)} VK d->∀fm:Int,fm=1\/fm=2\/fm=3->Ma (FN d fm)):=λd W fm x=>tJ (by dsimp only;omega) W x;unfold VK at cO;have HG:=T ht;have HS:=T c.size;have c0:_=U (Value.int K c.labels):=BB (O2 w c).box 0;have f0:=Dx (w.alloc (E c.arr 25)) w.heap.size 0 _ _ (O2 w c).box;have cK:=Lx af 5 J J bj;have HN:=T (Kh af 5 J);generalize D7 af 5=n at *;clear H hk ht bk bj;go_enter func3,ntmps3
 go_upto_region 11 with(first
  |(go_at_call 4;refine(cP _).mono ?_;clear cP;rintro e w1 ⟨rfl,rfl⟩)
  |(refine C8 Z 25 _ Z w.heap.size Z _ _ _ _ r.box underlying25 Z (El HS) ?_)
  |(go_at_call 5;refine cO.mono ?_;clear cO;rintro e o ⟨d,rfl,W,hB,hI⟩;have HD:=T W;have u:=T (r.below.trans (hB.mono r.below.size));have HI:=T hI;clear W hB hI c0 f0 r)
  |(refine Co Z 25 _ _ Z o.heap.size d.arr Z Z 25 _ (BI o _) (El d.size) Z d.one ?_;rw[FP,BX.arr.eq_1 d]))
 have r:Hid (Jt o (FN d 1) (o.alloc (E #[I K d.labels,G d.ea d.L.length d.ecap,I K d.dflt,A9 ⟨#[46,32,48,32,100,114,111,112,10,91,93,32,48,32,100,114,111,112,10,91,93,47,91,93,32,49,32,116,97,103]⟩,I K 0,I K d.key,I K 1,I K 1,I K 16,I K 4096,G Y 0 0] 25))):=O2 o (FN d 1);generalize o.alloc _=V2 at *
 go_wp2_with fail
 go_loopg[8,9] n (λg yb yi V=>∃i:Nat,yb=.string (Mg i)/\yi=I K i/\Hid (i+g=n)/\V=V2)
 case atStart=>exact⟨0,rfl,rfl,AD,rfl⟩
 case round =>
  obtain⟨i,rfl,rfl,A,rfl⟩:=hrel;have bu:=wn i
  cases gk with
  |succ g =>
   have b2:(i:Int)<(n:Int):=Ao A.out
   have bi:i<5:=Aq A.out HN.out
   go_wp2_with(first
    |(go_at_call 4;refine(cK _).mono ?_;rintro e w1 ⟨rfl,rfl⟩))
   rw[ws];go_roundg g
   case measure=>omega
   case rel=>exact⟨i+1,rfl,AE,Ap A.out,rfl⟩
  |zero =>
   have b2:¬(i:Int)<(n:Int):=Ao A.out
   have bi:i=n:=Ao A.out
   subst bi;have b6:=HN.out
   go_upto_region 16 with(first
    |(go_at_call 4;refine(cK _).mono ?_;clear cK;rintro e w1 ⟨rfl,rfl⟩))
   rw[wo];have a0:=bQ i s;have av:Hid (∀ap,Cj 1 s 14 4096=.ok ap->(((KJ i s).length:Int)<=4096)->Cj 1 (KJ i s) 16 4096=.ok (.agg [.agg [ap],.agg [ap]])):=λap hy y=>sM y hy;have a1:=M5 (KJ i s);rw[a0]at a1;obtain⟨D,hD⟩:∃D,KJ i s=D:=⟨_,rfl⟩
   rw[hD]at av a1 a0 ⊢;clear hD bu
   go_wp2_with fail
   go_at_call 6
   refine(wk _ s 14 4096 J J J).mono ?_;rintro e w3 ⟨b,rfl,h1,ba⟩;have ab:=T (r.step ba);have aq:=T (u.trans (ab.below.mono u.size));have A:=T h1;clear r ba h1
   cases b with
   |false =>
    go_wp2;go_ret;exact⟨Z,aq⟩
   |true =>
    by_cases y:(D.length:Int)<=4096
    ·obtain⟨v,hv,_⟩:=A.out rfl;have am:=av.out v hv y;have hK:=HO.out d HI;have a9:Hid (K1 (FN d 1) D=_):=eI (hK 1 J) y am;have al:Hid (Hx (EM d.key 1 (CC 15 v))/\(EM d.key 1 (CC 15 v)).length=16):=⟨bF _ _,aU _ _ _⟩
     have bq:Hid (∀fm l,fm=2\/fm=3->Cj fm l 16 4096=.ok (.agg [.agg [v],.agg [v]])->(l.length:Int)<=4096->K1 (FN d fm) l=DQ (DJ (EM d.key 1 (CC 15 v))) (3,0,0,2) 0 0):=λfm l x W y=>eI (hK fm J) y W;have HP:Hid (∀(fm:Int) (l:A1) (pc:Nat),fm=1\/fm=2\/fm=3->(∀ao,(l.length:Int)<=4096->Cj fm l 16 4096=.ok ao->∃v,ao=.agg [.agg [v],.agg [v]])->l.length<=maxLen->1<=pc->pc<=4096->∀V,A0 o V->Am prog 7 #[.agg (FN d fm).arr,A9 ⟨l.toArray⟩,I K pc] V λe w'=>e=Af (Aa #[.agg (K1 (FN d fm) l),Ac true])/\A0 V w'):=λfm l pc x hx b1 h1 h2 V R =>
      rT (FN d fm) V (tK (HD.below R) fm) ((HG.below (u.trans (R.mono u.size))).top) l (λh=>⟨rv (Pz h),tX (hK fm x) (tW hx)⟩) b1 pc h1 AC
     have ax:=T (λV R=>HP.out 1 D 4096 J (λao _ h=>⟨v,by rw[am]at h;cases h;rfl⟩) AC J J V R);rw[a9.out]at ax;have a4:=T am;have b0:¬((2*s.length+2*i+7:Nat):Int)>4096:=J
     clear a9 hK A hv am av;generalize EM d.key 1 (CC 15 v)=t at *
     go_upto_region 20 with(first
      |(refine C8 Z 25 _ Z o.heap.size Z _ _ _ _ ab.box underlying25 Z (El (FN d 1).size) ?_)
      |(go_at_call 7;refine(ax _ ab.below).mono ?_;clear ax;rintro e w5 ⟨rfl,bc⟩;have ar:=T (rU ab bc (DQ (DJ t) (3,0,0,2) 0 0));clear bc ab aq)
      |(refine Co Z 33 _ _ Z w5.heap.size (DQ (DJ t) (3,0,0,2) 0 0) Z Z 33 _ (BI w5 _) (O9 _ _ _ _) Z (RQ _ _ _ _) ?_;rw[FP];generalize w5.alloc (E (DQ (DJ t) (3,0,0,2) 0 0) 33)=X at *;generalize w5.heap.size=M at *))
     have x0:_=U (Value.string ⟨(DJ t).toArray⟩):=BB ar.told 0
     go_upto_region 21 with(first
      |(go_at_call 8;refine(tR _ t al.2 al.1).mono ?_;rintro e q ⟨m,ac,rfl,l0,l1,bd⟩;have au:=T (ar.next bd);clear bd ar x0))
     have a6:=T l0;have a7:=T l1;clear l0 l1;have ae:({q with drawn:=q.drawn+1}:O).heap[M]?=U (E (DQ (DJ t) (3,0,0,2) 0 0) 33)/\({q with drawn:=q.drawn+1}:O).cell? ⟨m,0,Y⟩=U (A9 ⟨t.toArray⟩)/\({q with drawn:=q.drawn+1}:O).cell? ⟨m,1,Y⟩=U (A9 ⟨t.toArray⟩):=⟨au.told,a6,a7⟩
     have a2:Hid (J3 o (FN d 1) M (DQ (DJ t) (3,0,0,2) 0 0) {q with drawn:=q.drawn+1}):=au.next (C5 _ _).drew
     refine DA (S:=λj=>j.heap[M]?=U (E (DQ (DJ t) (3,0,0,2) 0 0) 33)/\j.cell? ⟨m,0,Y⟩=U (A9 ⟨t.toArray⟩)/\j.cell? ⟨m,1,Y⟩=U (A9 ⟨t.toArray⟩)) ae Aw ?_;generalize({q with drawn:=q.drawn+1}:O)=V7 at *;intro a;clear ae;refine BE 0 71 (Ac true) a ?_;refine BE 1 72 (Ac false) a ?_;refine BE 2 73 (Ac false) a ?_;refine BE 3 74 (A8 (U ⟨M,5,Y⟩)) a ?_;refine BL 4 75 (I K 0) Z (λj k=>by have ah:_=U (Value.int K 0):=BB k.1 5;go_simp) a ?_;refine BE 5 76 (Ac false) a ?_;refine BE 6 77 (Ac false) a ?_;refine BE 7 78 (Ac false) a ?_;refine BE 8 79 (G (U ⟨m,0,Y⟩) 2 ac) a ?_;refine BE 9 80 (I K 2) a ?_;refine BE 10 81 (Ac false) a ?_;refine BE 11 82 (Ac false) a ?_;refine BE 12 83 (Ac false) a ?_;refine BE 13 84 (G (U ⟨m,0,Y⟩) 2 ac) a ?_;refine BE 14 85 (A8 (U ⟨m,0,Y⟩)) a ?_;refine BL 15 86 (A9 ⟨t.toArray⟩) Z (λj k=>by have ah:=k.2.1;go_simp) a ?_;refine BE 16 87 (G (U ⟨m,0,Y⟩) 2 ac) a ?_;refine BE 17 88 (A8 (U ⟨m,1,Y⟩)) a ?_;refine BL 18 89 (A9 ⟨t.toArray⟩) Z (λj k=>by have ah:=k.2.2;go_simp) a ?_;refine BL 19 90 (Ac false) Z (λj k=>by go_simp) a ?_;refine BE 20 91 (Ac false) a ?_;refine BE 21 92 (Ac false) a ?_;refine BE 22 93 (A8 (U ⟨M,1,Y⟩)) a ?_;refine BL 23 94 (.agg (C4 (3,0,0,2))) Z (λj k=>tY 93 k.1 Z Aw) a ?_;refine BE 24 95 (.agg (C4 (3,0,0,2))) a ?_;refine BE 25 96 (Ac false) a ?_;refine BE 26 97 (Ac false) a ?_;refine Cv ?_;go_simp
     go_upto_region 23 with fail
     have ae:({V7 with drawn:=V7.drawn+1}:O).heap[M]?=U (E (DQ (DJ t) (3,0,0,2) 0 0) 33)/\({V7 with drawn:=V7.drawn+1}:O).cell? ⟨m,0,Y⟩=U (A9 ⟨t.toArray⟩)/\({V7 with drawn:=V7.drawn+1}:O).cell? ⟨m,1,Y⟩=U (A9 ⟨t.toArray⟩):=a;have a3:Hid (J3 o (FN d 1) M (DQ (DJ t) (3,0,0,2) 0 0) {V7 with drawn:=V7.drawn+1}):=a2.next (C5 _ _).drew
     have b4:=al.2;clear a au a6 a7;refine DA (S:=λj=>j.heap[M]?=U (E (DQ (DJ t) (3,0,0,2) 0 0) 33)/\j.cell? ⟨m,0,Y⟩=U (A9 ⟨t.toArray⟩)/\j.cell? ⟨m,1,Y⟩=U (A9 ⟨t.toArray⟩)) ae Aw ?_;generalize({V7 with drawn:=V7.drawn+1}:O)=V8 at *;intro a;clear ae a2;refine BE 0 98 (A8 (U ⟨M,0,Y⟩)) a ?_;refine BL 1 99 (A9 ⟨(DJ t).toArray⟩) Z (λj k=>by have ah:_=U (Value.string ⟨(DJ t).toArray⟩):=BB k.1 0;go_simp) a ?_;refine BE 2 100 (G (U ⟨m,0,Y⟩) 2 ac) a ?_;refine BE 3 101 (A8 (U ⟨m,0,Y⟩)) a ?_;refine BL 4 102 (A9 ⟨t.toArray⟩) Z (λj k=>by have ah:=k.2.1;go_simp) a ?_;refine BL 5 103 (A9 ⟨([91,91,34]++t).toArray⟩) Z (λj k=>by go_simp;exact JB [91,91,34] t) a ?_;refine BL 6 104 (A9 ⟨(([91,91,34]++t)++[34,93,44,91,34]).toArray⟩) Z (λj k=>by go_simp;exact JB ([91,91,34]++t) [34,93,44,91,34]) a ?_;refine BE 7 105 (G (U ⟨m,0,Y⟩) 2 ac) a ?_;refine BE 8 106 (A8 (U ⟨m,1,Y⟩)) a ?_;refine BL 9 107 (A9 ⟨t.toArray⟩) Z (λj k=>by have ah:=k.2.2;go_simp) a ?_;refine BL 10 108 (A9 ⟨((([91,91,34]++t)++[34,93,44,91,34])++t).toArray⟩) Z (λj k=>by go_simp;exact(JB _ _).trans Az) a ?_;refine BL 11 109 (A9 ⟨(DJ t).toArray⟩) Z (λj k=>by go_simp;exact(JB _ _).trans (by simp[DJ])) a ?_;refine BL 12 110 (Ac false) Z (λj k=>by go_simp) a ?_;refine Cv ?_;go_simp
     go_wp2_with fail
     have a5:Hid (Gd 17 (.agg [.agg [v],.agg [v]])):=tG (d:=16) J a4;have bx:D.length<=4096:=J
     clear b4 a al a0 a1 b0
     go_loopg[15] 2 (λg yf V=>∃(f:Nat) (fm:Int),yf=I K f/\Hid (f+g=4/\2<=f)/\Hid (J3 o (FN d fm) M (DQ (DJ t) (3,0,0,2) 0 0) V))
     case atStart=>exact⟨2,1,rfl,⟨rfl,BM _⟩,a3⟩
     case round =>
      obtain⟨f,fm,rfl,B,HC⟩:=hrel;clear a3
      cases gk with
      |zero =>
       have x:¬(f:Int)<=3:=Ao B.1
       go_wp2;go_ret;exact⟨Z,u.trans (HC.below.mono u.size)⟩
      |succ g =>
       have x:(f:Int)<=3:=Ao B.1
       have an:(f:Int)=2\/(f:Int)=3:=Ao B.2
       obtain⟨bs,V9,bw,be,bh,_⟩:=Vn wr D AC;have aa:=T (HC.next be);have cT:=wu ((HG.below (u.trans (aa.below.mono u.size))).top) bs bh bx a4 an;clear be bh
       go_upto_region 31 with(first
        |(go_at_call 9;refine cT.mono ?_;clear cT;rintro e w9 ⟨bv,rfl,hO,bf⟩;have ai:=T (aa.next bf);have a8:=T hO;clear hO bf))
       have ad:=a8.out;obtain⟨b,Q⟩:∃b,Hid (G1 (f:Int) 17 (.agg [.agg [v],.agg [v]])=b):=⟨_,show _=_ from rfl⟩
       rw[Q.out]at ad;have bt:b.length<=maxLen:=(MG ad).choose_spec.choose_spec.2.len;obtain⟨ia,ca,rfl,_⟩:=MG ad;obtain⟨P,C,F,z,bl,bm⟩:∃P C F z,K1 (FN d f) b=DQ P C F z/\((b.length:Int)<=4096->P=DJ t/\C=(3,0,0,2)/\F=0):=by
        by_cases h:(b.length:Int)<=4096
        ·have:=bq.out f b an (by rw[<-Q.out];exact dh an a5 (by rw[Q.out];omega)) h;exact⟨_,_,_,_,this,λ_=>⟨Z,Z,Z⟩⟩
        unfold K1;split
        ·exact⟨_,_,_,_,Z,λe=>absurd e h⟩
        exact⟨_,_,_,_,Z,λe=>absurd e h⟩
       have bo:Hid (o.heap.size<V9.heap.size):=Nat.lt_trans aa.lt (BC aa.told);have ay:=T (λV R=>HP.out f b 3 J (λao h e=>⟨v,by rw[<-Q.out,dh an a5 (by rw[Q.out];omega)]at e;cases e;rfl⟩) bt J J V R);rw[bl]at ay;have br:=T bm;have aw:=T ad;have c6:_=U (Value.int K fm):=BB ai.cfg 6;have f6:=Dx w9 o.heap.size 6 _ _ ai.cfg;clear bl bm ad a8 Q bw aa
       go_upto_region 32 with fail
       have aj:=T (ai.fm (g:=f));have bg:BG (w9.setCell ⟨o.heap.size,6,Y⟩ (I K (f:Int))) V9.heap.size (G ia b.length ca) b:=bp aw AJ (λg e=>CP _ _ _ _ (by have:=(aw.1.lt g e).1;have:=bo.out;simp;omega));clear c6 f6 ai aw;generalize w9.setCell _ _=W9 at *;have b3:=P4 bg;clear bg
       go_upto_region 33 with(first
        |(refine C8 Z 25 _ Z o.heap.size Z _ _ _ _ aj.cfg underlying25 Z (El (FN d f).size) ?_)
        |(go_at_call 7;refine(ay _ aj.below).mono ?_;clear ay;rintro e ag ⟨rfl,az⟩;have ak:=T (aj.next (az.alloc az.size (E (DQ P C F z) 33)));have HY:=T (BI ag (E (DQ P C F z) 33));clear az aj)
        |(refine Co Z 33 _ _ Z ag.heap.size (DQ P C F z) Z Z 33 _ (BI ag _) (O9 _ _ _ _) Z (RQ _ _ _ _) ?_;rw[FP];generalize ag.alloc (E (DQ P C F z) 33)=j at *;generalize ag.heap.size=N at *))
       clear b3;by_cases bz:(b.length:Int)<=4096
       ·obtain⟨rfl,rfl,rfl⟩:=br.out bz;have x0:_=U (Value.string ⟨(DJ t).toArray⟩):=BB ak.told 0;have y0:_=U (Value.string ⟨(DJ t).toArray⟩):=BB HY 0;have y5:_=U (Value.int K 0):=BB HY 5;have f2:(DJ t != DJ t)=false:=Az
        have b7:(C4 (3,0,0,2))[0]?=U (I K 3):=rfl;have b8:(C4 (3,0,0,2))[1]?=U (I K 0):=rfl;have b9:(C4 (3,0,0,2))[2]?=U (I K 0):=rfl;have cb:(C4 (3,0,0,2))[3]?=U (I K 2):=rfl
        go_wp2_with(first
         |(refine Ro 30 (.tmp 152) Z Z N 1 Z (C4 (3,0,0,2)) _ (Vp _ _ _ _ HY) underlying30 Z (G0 _) ?_)
         |(refine Ro 30 (.tmp 154) Z Z M 1 Z (C4 (3,0,0,2)) _ (Vp _ _ _ _ ak.told) underlying30 Z (G0 _) ?_))
        go_roundg g
        case measure=>omega
        case rel=>exact⟨f+1,f,AE,by have:=B.1;have:=B.2;show _/\_;omega,ak⟩
       go_wp2_with fail
       go_roundg g
       case measure=>omega
       case rel=>exact⟨f+1,f,AE,by have:=B.1;have:=B.2;show _/\_;omega,ak⟩
    have b5:((2*s.length+2*i+7:Nat):Int)>4096:=J
    go_wp2;go_ret;exact⟨Z,aq⟩
end
section
open Go.ChangeShapes Go.WideShapes Go.ChangeAt Go.RowKit Go.Lib Go.Deep
def wy{H:Type}{t1:TypeId}{ts:List TypeId}{d0:DataW H}{ds gs:List (DataW H)}{P:Program}(h:(DataW.weightsEach P ((t1::ts)++[]) ((d0::ds)++gs)).all (·<=reachBytes)=true):(d0.weights P t1).all (·<=reachBytes)=true:=by
 simp only[I4,DataW.weightsEach,No,Dw]at h;exact h.1
def wz(H:Type)(enc:TypeId×Al->H)(W:O)(args:A3)(ds f:List (DataW H))(D:List MemPlace)(C:Nat)(d:∀(j:Nat) t v,f3.params[j]?=U t->args[j]?=U v->Value.okWide X W .any C t v)(m:DataW.Whole enc X f3.params.toList Rows.taggedSpec.vars false W args.toList ds f D)(hk:Rows.uptoSmall H (ds++f)=true)(u:(DataW.weightsEach X (f3.params.toList++[]) (ds++f)).all (·<=reachBytes)=true)(V:laidMetH X Rows.taggedUptoRow.laid W)(hS:W.ShapedOpen X):Am X 3 args W λe g=>∃v,e=Af v/\Rows.taggedSpec.post enc X f3 false true false false W args v g:=by
 have n:=m;obtain⟨ae,ak,R,hV,rfl,ai,aj⟩:=m;have a:DataW.TrodAll enc X W 0 (λ_=>true) true f3.params.toList args.toList ds ae:=R;rw[Tryz.params3]at a u d;obtain⟨z,al,i,af,w,q0,L,rfl,rfl,N,a⟩:=trodAll_cons a;obtain⟨A,am,d1,ag,p1,q1,rfl,rfl,rfl,P,a⟩:=trodAll_cons a;obtain⟨B,an,d2,ah,p2,q2,rfl,rfl,rfl,Q,a⟩:=trodAll_cons a;obtain⟨rfl,rfl,rfl⟩:=trodAll_nil a;obtain rfl:args=#[z,A,B]:=Mu L;obtain⟨rfl,rfl⟩:=trodVars_none hV;obtain⟨F,rfl,_⟩:=okWide_struct underlying25 (d 0 25 z rfl rfl);have ad:=wy u;obtain⟨s,rfl,rfl,rfl,hs⟩:=Go.ChangeMaps.open_string underlying9 (d 1 9 A rfl rfl) P;obtain⟨y,rfl,rfl,rfl,r⟩:=open_int underlying3 (d 2 3 B rfl rfl) Q;obtain⟨n0,k⟩:=N;obtain⟨c,aa,S,b,q⟩:=fK (x:=(i,w)) k ad;have p:F=c.arr:=Mu aa;subst p;have ab:Rows.uptoBulkAll [i,.lit (.string s.data.toList),.lit (.int K y)]<=1048576:=CD hk;simp only[Rows.uptoBulkAll,Rows.uptoBulk]at ab;have o:=ww c W S ⟨b _ Az,b _ Az,b _ Az,b _ Az,b _ Az,b _ Az,b _ Az⟩ (sb V hS) s.data.toList y (KW r) q J;have ac:∀s:ByteArray,(⟨s.data.toList.toArray⟩:ByteArray)=s:=λs=>by
  apply Mr;simp
 simp only[ac]at o;refine o.mono ?_;rintro e g ⟨rfl,l⟩;refine⟨_,Z,_,[],_,[],w++([]++[]),[],n,trodAll_mk1 (shut_bool underlying4 true),?_,Z,l.frame _,λh=>AU⟩;exact⟨_,_,Below.trod Tryz.laidOut M (CD M) ⟨n0,k⟩ l (λx hx=>n.lt x (by simp[hx])),⟨_,_,Go.ChangeMaps.shut_string underlying9 hs,trodAll_mk1 (shut_int underlying3 r),Z⟩,Z⟩
def Sn:A3:=#[.agg fL.arr,.string ByteArray.empty,.int .i64 0]
def wA(a:Os):laidMet X Rows.taggedUptoRow.laid ((Tg (World.holding X a ⟨#[],#[],[]⟩)).forCall (λ_ _=>0) ⟨#[],Sn,[]⟩).memory :=
 laidMet_of_run' 8 M M
def wB(a:Os){H:Type}(enc:TypeId×Al->H):∃b,DataW.whole enc X ((Tg (World.holding X a ⟨#[],#[],[]⟩)).forCall (λ_ _=>0) ⟨#[],Sn,[]⟩).memory f3.params.toList Rows.taggedSpec.vars false Sn.toList 8=U ([.agg [.lit (.int K 0),.nil,.lit (.int K 0),.lit (.string []),.lit (.int K 0),.lit (.int K 0),.lit (.int K 0),.lit (.int K 0),.lit (.int K 0),.lit (.int K 0),.nil],.lit (.string []),.lit (.int K 0)],[],b) :=
 ⟨[],M⟩
end
section
open Go.ChangeShapes Go.WideShapes Go.ChangeAt Go.RowKit Go.Lib
def wC(a:Os)(o:a.Started)(H:Type)(enc:TypeId×Al->H)(F:Stop.Interp):ReturnsInHanded {} Tryz.checked a 3 .any ((Rows.OpenSpec.upto Rows.taggedSpec).preRow enc X f3 Rows.taggedUptoRow.domain false Rows.taggedUptoRow.laid) (((Rows.OpenSpec.upto Rows.taggedSpec).at F).post enc X f3 false true false false):=by
 obtain⟨p,n⟩:=wB a enc;refine returnsInHanded_of_row (C:=Tryz.checked) (s:=Rows.OpenSpec.upto Rows.taggedSpec) Tryz.own o M func3
  (witness_row_at (enc:=enc) (C:=Tryz.checked) false (Tg (World.holding X a ⟨#[],#[],[]⟩)) Sn rfl M M M
   (OpenSpec.preRow_of_cond 8 n M (λk b=>by obtain rfl:=EB b;kernel_rfl) M (wA a))) ?_
 intro W d c f g e l j _ b m h i _;exact wz H enc W c f g e d l j (b _ Z) m h i
def wD:(Rows.taggedUptoRow.inPlace==Tryz.pinned.checked.prog.inPlace 3)=true:=M
def wE:(Rows.taggedUptoRow.unfollowed==Tryz.pinned.checked.prog.unfollowed 3)=true:=M
def wF:(Rows.taggedUptoRow.recurses==Tryz.pinned.checked.prog.recurses 3)=true:=M
def wG:(Rows.taggedUptoRow.named==Tryz.pinned.checked.prog.varsNamed 3)=true:=M
def wH:joinedFacts Tryz.pinned.checked.prog 3 f3 (Rows.OpenSpec.upto Rows.taggedSpec).bare Rows.taggedUptoRow=true:=by
 unfold joinedFacts;rw[wD,wE,wF,wG];kernel_rfl
def wI:Rows.TaggedUptoSaid :=
 OpenClaim.holds_of_cond 3 f3 rfl rfl rfl rfl rfl rfl rfl ⟨rfl,rfl,rfl,rfl,rfl⟩ rfl rfl rfl rfl rfl M func3 wH
  (CD M) (by unfold Func.isWrapper;first|(rw[BA (by decide +kernel)];kernel_rfl)|(rw[Bz (by decide +kernel)];exact⟨Z,Z⟩))
  (λb c H a _ F=>by rw[OpenClaim.pre_eq_preRow];exact wC b c H a F)
def wJ(f:FuncId)(a:Func)(c:Tryz.pinned.checked.prog.funcNamed Rows.taggedUptoRow.func=U f)(d:Tryz.pinned.checked.prog.funcs[f]?=U a):true=Tryz.pinned.checked.prog.looks []/\∀(j:Nat) t,a.params[j]?=U t->Tryz.pinned.checked.prog.wantsStandIn t=false:=by
 obtain rfl:f=3:=EB ((show prog.funcNamed Rows.taggedUptoRow.func=U 3 by kernel_rfl).symm.trans c) |>.symm;obtain rfl:a=f3:=(EB (func3.symm.trans d)).symm;refine⟨M,λj t b=>?_⟩;rw[Tryz.params3]at b;have e:t∈#[(25:TypeId),9,3]:=Array.mem_of_getElem? b;rcases(by simpa using e:t=25\/t=9\/t=3)with rfl|rfl|rfl
 ·exact(show prog.wantsStandIn 25=false by kernel_rfl)
 ·exact(show prog.wantsStandIn 9=false by kernel_rfl)
 exact(show prog.wantsStandIn 3=false by kernel_rfl)
theorem tagged_card:Rows.TaggedUptoCardSaid :=
 Claim7.holds_tied_plain_at .later [] _ _ _ _ wI (λ_ h=>AU) M (λ_ h=>AU) taggedUpto_row_tie rfl ⟨rfl,rfl⟩ M rfl wJ M
#print axioms tagged_card
end
end Go.Proofs.YtnlnjkggkbbdhaaGreatDoor
