import Derived.Test.YtnlnjkggkbbdhaaGreatDoorTq23
import Derived.Test.YtnlnjkggkbbdhaaGreatDoorTq26
set_option maxRecDepth 100000
set_option maxHeartbeats 8000000
set_option linter.all false
namespace Go.Proofs.YtnlnjkggkbbdhaaGreatDoor
open Go.Proofs.Tryz
open Go.Value renaming int->I,slice->G
open Option renaming some->U,none->Y
open Go.IntKind renaming i64->K
open Go renaming World->O
open Go.Obj renaming cells->E
open Go.Proofs.Tryz renaming prog->X
open Go.Value renaming int->A6,slice->A7,pointer->A8,tuple->Aa,bool->Ac,iface->Ad
open Go.Ending renaming returned->Af
open Go renaming World->Ak,Value->Al,Calls->Am
variable{P:Program}{fn:Func}{p u u2:Tmp}{fm:Int}{L k:Nat}{d:A2}{B:List Int}{l:A1}{V V' W W':O}{g:Gt}{R:Cl}{v y:Al}{r:Except Int A1}
section
open Go.RowKit Go.Lib
def Pm(r:Except (Int×Int) (DataW Unit))(n:Nat):Int:=match r with
 |.ok _=>0
 |.error (en,pl)=>if pl=n then 0 else en
def MU(W:Ak)(L base:Nat)(g:Gt)(fed:Al)(l:A1)(en:Int)(e:Ending)(W':Ak):Prop :=
 ∃fa fn fc,e=Af (A6 .i64 en)/\BG W' base (A7 fa fn fc) l/\W'.heap[L]?=some (.cells (Ck g (A7 fa fn fc) false) 96)/\(W'.os=W.os/\W'.tape=W.tape/\W'.output=W.output)/\W.heap.size<=W'.heap.size/\∀k,k<W.heap.size->k≠L->some k≠fed.ownBlock->W'.heap[k]?=W.heap[k]?
def ns(k:Nat)(W:O)(L n:Nat)(g:Gt)(R:g.rc.size=40)(o:Al)(F:A1)(S:A4)(N:Nat)(bs l:A1)(hl:l=F++bs.take (g.bytes+1-F.length))(b:W.heap[L]?=U (E (Ck g o false) 96))(a:BG W n o F)(hL:L<n)(hb:Er W S bs)(ae:S=Y->N=0)(ao:bs.length<=N)(an:g.bytes<=4096)(ak:F.length<=g.bytes+1)(r:Except (Int×Int) (DataW Unit))(al:∀f u,r=.error (f,u)->f≠0)(cD:∀v h i,(∀j,j<L->v.heap[j]?=W.heap[j]?)->Er v h l->Am X 18 #[I K g.inF,.agg #[I K g.depth,I K g.bytes],G h l.length i] v (He k v r)):Am X 13 #[A8 (U ⟨L,0,Y⟩),G S bs.length N] W (MU W L n g o l (Pm r l.length)):=by
 have d:=m7 W L n g R o F S N bs b a hL hb ae ao an ak;rw[<-hl]at d;have ac:W.cell? ⟨L,46,Y⟩=U (Ac false):=(BB b 46).trans (Kt R _ _ 2);have HD:=T cD;have af:Hid (∀j,j<L->U j≠o.ownBlock):=λj hj e=>Ao (Fa a.1 e.symm)
 have ar:=BC b;have aa:=T R;have H:Am X 32 #[A8 (U ⟨L,0,Y⟩),G S bs.length N] W λe s=>∃h i,e=Af (Aa #[])/\Hid (MU W L n g o l 0 (Af (I K 0)) s)/\Hid (s.heap[L]?=U (E (Ck g (G h l.length i) false) 96))/\Hid (BG s n (G h l.length i) l)/\Am X 33 #[A8 (U ⟨L,0,Y⟩)] s (L7 k s r):=d.mono (by
  rintro e s ⟨h,fn,i,rfl,P,x,Q,t,y⟩;obtain⟨ap,aq,V,am⟩:=MG P;injection V with V e2 e3;subst V;subst e2;subst e3;refine⟨h,i,Z,⟨h,_,i,Z,P,x,Q,t,y⟩,x,P,Zn k s L g R h l.length i false r x (λv hU=>HD.out v h i (λj hj=>?_) (am.below hU))⟩;exact(hU.block j J).trans (y j J J (af j hj)))
 clear d cD b a hb ae R hl;have fin:∀{D p:O} {h:A4} {i:Nat} {f:Int},MU W L n g o l 0 (Af (I K 0)) D->D.heap[L]?=U (E (Ck g (G h l.length i) false) 96)->BG D n (G h l.length i) l->A0 D p->MU W L n g o l f (Af (I K f)) p:=by
  rintro D p h i f ⟨_,_,_,_,_,_,Q,t,y⟩ x P m;exact⟨h,_,i,Z,NM P m,(m.block L (BC x)).trans x,⟨m.os.trans Q.1,m.tape.trans Q.2.1,m.output.trans Q.2.2⟩,C7 t m.size,λj ab ag ah=>(m.block j (CA ab t)).trans (y j ab ag ah)⟩
 rcases r with⟨f,u⟩|aj
 ·have ad:=al f u Z;have V:(f==0)=false:=by simpa using ad
  have e2:(f != 0)=true:=by simpa using ad
  by_cases c:u=l.length
  ·have B:Hid (Pm (.error (f,u)) l.length=0):=by show(if _ then _ else _)=_;rw[BA c]
   rw[B.out];subst c;go_enter func13,ntmps13
   go_wp2_with(first
    |(go_at_call 32;refine H.mono ?_;clear H ac;rintro e w3 ⟨h,i,rfl,z,q,A,w⟩)
    |(go_at_call 33;refine w.mono ?_;clear w;rintro e p ⟨m,hF⟩;obtain rfl:=hF;have C:Hid (∀f,MU W L n g o l f (Af (I K f)) p):=λf=>fin z q A m;have ai:p.cell? ⟨L,45,Y⟩=U (G h l.length i):=(BB ((m.block L (BC q)).trans q) 45).trans (Kt aa _ _ 1);clear m))
   go_ret;exact C 0
  have B:Hid (Pm (.error (f,u)) l.length=f):=by show(if _ then _ else _)=_;rw[Bz c]
  rw[B.out];have e3:(u==(l.length:Int))=false:=Be
  go_enter func13,ntmps13
  go_wp2_with(first
   |(go_at_call 32;refine H.mono ?_;clear H ac;rintro e w3 ⟨h,i,rfl,z,q,A,w⟩)
   |(go_at_call 33;refine w.mono ?_;rintro e p ⟨m,hF⟩;obtain rfl:=hF;have C:Hid (∀f,MU W L n g o l f (Af (I K f)) p):=λf=>fin z q A m;have ai:p.cell? ⟨L,45,Y⟩=U (G h l.length i):=(BB ((m.block L (BC q)).trans q) 45).trans (Kt aa _ _ 1)))
  go_ret;exact C f
 have B:Hid (Pm (.ok aj) l.length=0):=rfl;rw[B.out];go_enter func13,ntmps13
 go_wp2_with(first
  |(go_at_call 32;refine H.mono ?_;rintro e w3 ⟨h,i,rfl,z,q,A,w⟩)
  |(go_at_call 33;refine w.mono ?_;rintro e p ⟨m,hF⟩;obtain⟨au,av,rfl,_⟩:=hF;have C:Hid (∀f,MU W L n g o l f (Af (I K f)) p):=λf=>fin z q A m))
 go_ret;exact C 0
def Zo{u3:Tmp}{ty:TypeId}(h:fn.results=#[.tmp u,.cell p ty,.tmp u2,.tmp u3])(b:A3)(w:O)(g:Nat)(t:TypeId)(cs:A3)(c:Nat×Nat)(d:TypeDesc)(l:b.getD p undef=A8 (U ⟨g,0,Y⟩))(k:w.heap[g]?=U (E cs t c))(m:P.underlying ty=U d)(j:(match d with|.struct _|.array _ _=>true|_=>false)=true)(hi:(P.info? ty).map (·.size)=U cs.size)(v f i:Al)(n:b.getD u undef=v)(o:b.getD u2 undef=f)(q:b.getD u3 undef=i):(results fn b).run P w=.ok (Aa #[v,.agg cs,f,i]) w:=by
 have e:(results fn b).run P w=((asAddr (b.getD p undef)).run P w).andThen λa r=>((loadVar ty a).run P r).andThen λv s=>.ok (Aa #[b.getD u undef,v,b.getD u2 undef,b.getD u3 undef]) s:=by
  simp only[results,h];simp[Ei,Result.andThen]
 subst n;subst o;subst q;rw[e,l];simp only[asAddr,Fq,EA,I5 w g t ty cs c d k m j hi]
def O0:(prog.info? 30).map (·.size)=U (#[Value.int K 0,I K 0,I K 0,I K 0]).size:=M
def KE(fm:Int)(k:Nat)(d:A2)(B:List Int):Except Int A1 :=
 if fm=1/\Jn k d=true then .error 13 else match NW fm (G1 fm k d) B with
  |none=>.error 14
  |some l=>.ok l
def qI(h:fm=1/\Jn k d=true):KE fm k d B=.error 13:=BA h
def qJ(h:¬(fm=1/\Jn k d=true))(a:NW fm (G1 fm k d) B=Y):KE fm k d B=.error 14:=by unfold KE;rw[Bz h,a]
def aV(h:¬(fm=1/\Jn k d=true))(a:NW fm (G1 fm k d) B=U l):KE fm k d B=.ok l:=by unfold KE;rw[Bz h,a]
structure Dq(X:Nat->Prop)(W V:World):Prop where
 world:V.os=W.os/\V.tape=W.tape/\V.output=W.output
 rows:CJ W V
 block:∀j,j<W.heap.size->X j->V.heap[j]?=W.heap[j]?
def Dq.of_below{X:Nat->Prop}(h:A0 W V):Dq X W V:=⟨⟨h.os,h.tape,h.output⟩,CJ.of_below h,λj a _=>h.block j a⟩
def Dq.trans{X:Nat->Prop}{Z:O}(h:Dq X W V)(g:Dq X V Z):Dq X W Z:=⟨⟨g.world.1.trans h.world.1,g.world.2.1.trans h.world.2.1,g.world.2.2.trans h.world.2.2⟩,h.rows.trans g.rows,λj a b=>(g.block j (CA a h.rows.size) b).trans (h.block j a b)⟩
def Dq.set{X:Nat->Prop}(h:Dq X W V){g:Nat}(f:W.heap.size<=g)(cs:A3):Dq X W (V.setRow g cs):=by
 refine⟨h.world,⟨Au h.rows.size,λj cs t e a b c d=>(CQ _ _ _ _ (Ao (BC a))).trans (h.rows.row j cs t e a b c d)⟩,λj a b=>sx J (h.block j a b)⟩
def Dq.alloc{X:Nat->Prop}(h:Dq X W V)(o:Obj):Dq X W (V.alloc o):=h.trans (Dq.of_below BN)
def Dq.drew{X:Nat->Prop}(h:Dq X W V):Dq X W {V with drawn:=V.drawn+1}:=⟨h.world,⟨h.rows.size,h.rows.row⟩,h.block⟩
def UU{ty:TypeId}(h:fn.results=#[.tmp u,.cell p ty,.tmp u2])(b:A3)(w:O)(g:Nat)(t:TypeId)(cs:A3)(c:Nat×Nat)(d:TypeDesc)(k:b.getD p undef=A8 (U ⟨g,0,Y⟩))(j:w.heap[g]?=U (E cs t c))(l:P.underlying ty=U d)(i:(match d with|.struct _|.array _ _=>true|_=>false)=true)(hi:(P.info? ty).map (·.size)=U cs.size)(v f:Al)(m:b.getD u undef=v)(n:b.getD u2 undef=f):(results fn b).run P w=.ok (Aa #[v,.agg cs,f]) w:=by
 have e:(results fn b).run P w=((asAddr (b.getD p undef)).run P w).andThen λa o=>((loadVar ty a).run P o).andThen λv q=>.ok (Aa #[b.getD u undef,v,b.getD u2 undef]) q:=by
  simp only[results,h];simp[Ei,Result.andThen]
 subst m;subst n;rw[e,k];simp only[asAddr,Fq,EA,I5 w g t ty cs c d j l i hi]
def UV(R:Cl)(r:Except Int A1):Cl:=match r with
 |.ok _=>R
 |.error _=>(0,0,0,0)
def UW(r:Except Int A1):Int:=match r with
 |.ok _=>0
 |.error en=>en
def Lq(V:Ak)(base:Nat)(v:Al)(r:Except Int A1):Prop:=match r with
 |.ok l=>BG V base v l
 |.error _=>v=A7 none 0 0
def RI(X:Nat->Prop)(W:Ak)(R:Cl)(r:Except Int A1)(e:Ending)(V':Ak):Prop :=
 ∃va vn vc,e=Af (Aa #[A7 va vn vc,.agg (C4 (UV R r)),A6 .i64 (UW r)])/\Dq X W V'/\Lq V' W.heap.size (A7 va vn vc) r
def UX(X:Nat->Prop)(N k:Nat)(U:Ak)(R:Cl)(d:A2)(e:Ending)(V':Ak):Prop :=
 ∃t' y',e=Af (Aa #[Ad t' y',.agg (C4 R)])/\Dq X U V'/\BQ k V' (λj=>j<N\/(U.heap.size<=j/\j<V'.heap.size)) (Ad t' y') d
structure M0(X:Nat->Prop)(W:World)(L:Nat)(gr:A3)(N8 k:Nat)(R:Cl)(t:TypeId)(y:Value)(d:A2)(V:World):Prop where
 fr:Dq X W V
 gate:V.heap[L]?=some (.cells gr 96)
 res:V.heap[W.heap.size]?=some (.cells (C4 (0,0,0,0)) 30)
 rep:V.heap[N8]?=some (.cells (C4 R) 30)
 lt:W.heap.size<N8
 thg:BQ k V (λj=>j<V.heap.size) (.iface t y) d
def M0.step{X:Nat->Prop}{gr:A3}{N8:Nat}{t:TypeId}(h:M0 X W L gr N8 k R t y d V)(hb:A0 V V'):M0 X W L gr N8 k R t y d V' :=
 ⟨h.fr.trans (Dq.of_below hb),(hb.block _ (BC h.gate)).trans h.gate,(hb.block _ (BC h.res)).trans h.res,(hb.block _ (BC h.rep)).trans h.rep,h.lt,h.thg.same (λ_ a=>CA a hb.size) (λj a=>hb.block j a)⟩
def qK{X:Nat->Prop}{gr:A3}{t:TypeId}(b:W.heap[L]?=U (E gr 96))(hF:Dq X (W.alloc (E #[I K 0,I K 0,I K 0,I K 0] 30)) V')(f:BQ k V' (λj=>j<W.heap.size\/((W.alloc (E #[I K 0,I K 0,I K 0,I K 0] 30)).heap.size<=j/\j<V'.heap.size)) (Ad t y) d):M0 X W L gr V'.heap.size k R t y d (V'.alloc (E (C4 R) 30)):=by
 have e:W.heap.size<V'.heap.size:=by have h:=hF.rows.size;rw[BU]at h;omega
 have c:=BC b;refine⟨?_,?_,?_,BI V' _,e,?_⟩
 ·exact((Dq.of_below BN).trans hF).alloc _
 ·exact(BT _ _ _ J).trans (hF.rows.row L _ _ _ ((BT W _ _ c).trans b) Ay Ay Ay)
 ·exact(BT _ _ _ J).trans (hF.rows.row W.heap.size _ _ _ (BI W _) Ay Ay Ay)
 refine f.same (λj a=>?_) (λj a=>BT _ _ _ ?_)
 ·rw[BU];rcases a with a|a<;>omega
 rcases a with a|a<;>omega
def qL(k:Nat)(d:A2):G1 2 k d=CC k d:=by unfold G1;rw[Bz Ay,BA rfl]
def qM(k:Nat)(d:A2):G1 3 k d=GD k d:=by unfold G1;rw[Bz Ay,Bz Ay]
structure UY(fm:Int)(k:Nat)(d:A2):Prop where
 ok:∀V t y,BQ k V (λj=>j<V.heap.size) (.iface t y) d->(∀U,A0 V U->P9 U.heap.size U)->¬(fm=1/\Jn k d=true)->Calls prog 19 #[.int .i64 fm,.iface t y] V λe V'=>∃v',e=.returned (.tuple #[v',.int .i64 0])/\BG V' V.heap.size v' (G1 fm k d)/\A0 V V'
 kind:Jn k d=true->∀V t y,BQ k V (λj=>j<V.heap.size) (.iface t y) d->Calls prog 19 #[.int .i64 1,.iface t y] V λe V'=>e=.returned (.tuple #[.slice none 0 0,.int .i64 13])/\A0 V V'
 len:∀V t y,BQ k V (λj=>j<V.heap.size) (.iface t y) d->(G1 fm k d).length<=999999999
def UZ:(#[Value.int K 0,I K 0,I K 0,I K 0]).all (·.oneCell')=true:=Ba
def O5(R:Cl):(C4 R).all (·.oneCell')=true:=by simp[C4,Value.oneCell']
def aW(R S:Cl):(C4 R).size=(C4 S).size:=rfl
def qN(d:g.rc.size=40){fed:Al}{cl:Bool}(b:V.heap[L]?=U (E (Ck g fed cl) 96)):∀(j:Nat) (u:Al),g.rc[j]?=U u->V.cell? ⟨L,4+j,Y⟩=U u:=by
 intro j u a;refine(BB b (4+j)).trans ?_;have c:j<40:=Ao (BC a)
 unfold Ck;rw[Ov Ax,Ng Az];simpa using a
def aX{base N:Nat}{cs cs':A3}(h:BG W base v l)(j:W.heap[N]?=U (E cs 30)):BG (W.setRow N cs') base v l:=by
 refine⟨⟨h.1.1,?_⟩,Au h.2.1,h.2.2⟩;rcases h.1.2 with b|⟨g,c,d,b,f,a,i⟩
 ·exact .inl b
 refine .inr ⟨g,c,d,b,f,(CQ _ _ _ _ (λe=>?_)).trans a,i⟩;subst e;rw[j]at a;injection a with a;injection a with _ a _;exact absurd a Ay
def qO(a:g.rc.size=40):(prog.info? 93).map (·.size)=U g.rc.size:=by rw[a];kernel_rfl
def qP(X:Nat->Prop)(k:Nat)(W:O)(L:Nat)(g:Gt)(a0:g.rc.size=40)(s:Al)(r:Bool)(hg:W.heap[L]?=U (E (Ck g s r) 96))(t:TypeId)(y:Al)(R:Cl)(d:A2)(ba:A4)(z:Nat)(B:List Int)(az:g.bk=G ba B.length z)(av:U4 g.out B)(wp:UY g.out k d)(hI:∀V,Dq X W V->IN V ba B)(hT:∀V,Dq X W V->P9 V.heap.size V)(cR:∀N,A0 W N->Am prog 59 #[.agg g.rc,Ad t y] N (UX X W.heap.size k N R d)):Am prog 34 #[A8 (U ⟨L,0,Y⟩),Ad t y] W (RI X W R (KE g.out k d B)):=by
 have hL:L<W.heap.size:=BC hg;have HG:Hid (W.heap[L]?=U (E (Ck g s r) 96)):=hg;have ac:Hid (g.rc.size=40):=a0;have aw:Am prog 59 #[.agg g.rc,Ad t y] (W.alloc (E #[I K 0,I K 0,I K 0,I K 0] 30)) λe V'=>∃o p,e=Af (Aa #[Ad o p,.agg (C4 R)])/\Hid (M0 X W L (Ck g s r) V'.heap.size k R o p d (V'.alloc (E (C4 R) 30))):=(cR _ BN).mono (by
  rintro e V' ⟨o,p,rfl,h1,h2⟩;exact⟨o,p,Z,qK hg h1 h2⟩)
 have HI:Hid (∀V,Dq X W V->IN V ba B):=hI;have HT:Hid (∀V,Dq X W V->P9 V.heap.size V):=hT;have a1:=T av;have H:=T wp;have an:Hid (g.bk=G ba B.length z):=az;have aq:Hid ((W.alloc (E #[I K 0,I K 0,I K 0,I K 0] 30)).heap[L]?=U (E (Ck g s r) 96)):=(BT W _ _ hL).trans hg;clear cR hI hT av wp az hg a0;go_enter func34,ntmps34
 go_wp2_with(first
  |(refine Ro 93 (.tmp 16) Z Z L 4 Z g.rc _ (qN ac aq) underlying93 Z (qO ac) ?_)
  |fail)
 refine aw.mono ?_;clear aw aq;rintro e w' ⟨o,p,rfl,c⟩;obtain⟨b,ar⟩:∃b,Hid (w'.alloc (E (C4 R) 30)=b):=⟨_,rfl⟩
 obtain⟨a,w⟩:∃a,Hid (w'.heap.size=a):=⟨_,rfl⟩
 rw[ar.out,w.out]at c;have aa:Hid ((w'.alloc (E #[I K 0,I K 0,I K 0,I K 0] 30)).heap[a]?=U (E (C4 (0,0,0,0)) 30)):=by show _=_;rw[<-w.out];exact BI w' _
 have ad:Hid ((w'.alloc (E #[I K 0,I K 0,I K 0,I K 0] 30)).setRow a (C4 R)=b):=by show _=_;rw[<-w.out,<-ar.out];exact FP _ _ _ _
 have c1:b.cell? ⟨L,1,Y⟩=U (I K g.out):=(BB c.gate 1).trans (NX _ _ 1 J);by_cases v:g.out=1/\Jn k d=true
 ·have F:Hid (KE g.out k d B=.error 13):=qI v;have A:=H.kind v.2 b o p c.thg;rw[v.1]at c1;clear v H
  go_wp2_with(first
   |(refine Co Z 30 _ _ Z a (C4 R) (congrArg (λn=>Value.pointer (U ⟨n,0,Y⟩)) w) Z 30 _ aa (G0 R) Z (O5 R) ?_;rw[ad.out];clear aa ad)
   |(go_at_call 19;refine A.mono ?_;clear A c1;rintro e h ⟨rfl,P⟩;have q:Hid (M0 X W L (Ck g s r) a k R o p d h):=c.step P;clear P c)
   |(refine Co Z 30 _ _ Z W.heap.size #[I K 0,I K 0,I K 0,I K 0] Z Z 30 _ q.res O0 Z UZ ?_))
  refine Cc (UU results34 _ _ W.heap.size 30 #[I K 0,I K 0,I K 0,I K 0] (0,0) _ Z (Ca _ _ _ _ _ _ q.res) underlying30 Z O0 _ _ Z Z) Z ?_;rw[F.out];exact⟨Y,0,0,Z,q.fr.set (BM _) _,Z⟩
 have ab:Hid (¬(g.out=1/\Jn k d=true)):=v;have ao:Hid ((G1 g.out k d).length<=999999999):=H.len _ _ _ c.thg;have A:=H.ok b o p c.thg (λN hU=>HT.out N (c.fr.trans (Dq.of_below hU))) v;clear v H HT;obtain⟨D,HY⟩:∃D,Hid (G1 g.out k d=D):=⟨_,rfl⟩
 rw[HY.out]at ao A;obtain⟨C,ah⟩:∃C,Hid (NW g.out D B=C):=⟨_,rfl⟩
 go_wp2_with(first
  |(refine Co Z 30 _ _ Z a (C4 R) (congrArg (λn=>Value.pointer (U ⟨n,0,Y⟩)) w) Z 30 _ aa (G0 R) Z (O5 R) ?_;rw[ad.out];clear aa ad)
  |(go_at_call 19;refine A.mono ?_;clear A;rintro e h ⟨v3,rfl,al,P⟩;obtain⟨a3,n3,k3,rfl⟩:=al.2.2;have am:Hid (A0 b h):=P;have ap:Hid (BG h b.heap.size (G a3 n3 k3) D):=al;clear P al c1))
 have ag:Hid (A0 b ({h with drawn:=h.drawn+1}:O)):=am.drew;have x:Hid (BG ({h with drawn:=h.drawn+1}:O) b.heap.size (G a3 n3 k3) D):=ap.out;have q:Hid (M0 X W L (Ck g s r) a k R o p d ({h with drawn:=h.drawn+1}:O)):=c.step ag;refine DA (S:=λf=>f.cell? ⟨L,1,Y⟩=U (I K g.out)/\f.cell? ⟨L,44,Y⟩=U (G ba B.length z)) (⟨(BB q.gate 1).trans (NX _ _ 1 J),((BB q.gate 44).trans (Kt ac _ _ 0)).trans (congrArg U an)⟩) M ?_;intro m;clear am ap;generalize({h with drawn:=h.drawn+1}:O)=w5 at *;have cF:=a1.out w5 b.heap.size (G a3 n3 k3) D ba z x (HI w5 q.fr) ao;rw[ah.out]at cF;refine BE 0 36 (A8 (U ⟨L,0,Y⟩)) m ?_;refine BE 1 37 (A8 (U ⟨L,0,Y⟩)) m ?_;refine BE 2 38 (A8 (U ⟨L,1,Y⟩)) m ?_;refine BL 3 39 (I K g.out) Z (λf l=>?y3) m ?_
 case y3=>(have z1:=l.1;go_simp)
 refine BE 4 40 (G a3 n3 k3) m ?_;refine BE 5 41 (A8 (U ⟨L,0,Y⟩)) m ?_;refine BE 6 42 (A8 (U ⟨L,0,Y⟩)) m ?_;refine BE 7 43 (A8 (U ⟨L,44,Y⟩)) m ?_;refine BL 8 44 (G ba B.length z) Z (λf l=>?y8) m ?_
 case y8=>(have z1:=l.2;go_simp)
 refine C9 9 (λa6 Q=>?_);go_simp;refine cF.mono ?_;clear cF;rintro e i ⟨⟨v4,rfl,aj,ak⟩,ax⟩;have j:Hid (M0 X W L (Ck g s r) a k R o p d i):=c.step (ag.trans ax);have au:Hid (W.heap.size<=b.heap.size):=c.fr.rows.size;have u:(λf:O=>f.cell? ⟨L,1,Y⟩=U (I K g.out)/\f.cell? ⟨L,44,Y⟩=U (G ba B.length z)) i:=⟨(BB j.gate 1).trans (NX _ _ 1 J),((BB j.gate 44).trans (Kt ac _ _ 0)).trans (congrArg U an)⟩
 simp only[];refine Q.out _ _ u (λ_=>?_);clear Q ax c q ag x m;refine BE 10 35 (Aa #[v4,Ac C.isSome]) u ?_;refine BE 11 46 v4 u ?_;refine BE 12 47 (Ac C.isSome) u ?_;refine BE 13 11 v4 u ?_;refine BE 14 12 (Ac C.isSome) u ?_;refine Cv ?_;go_simp;clear u
 cases C with
 |none =>
  have F:Hid (KE g.out k d B=.error 14):=qJ ab (by rw[HY.out];exact ah);obtain rfl:=aj rfl;clear ab aj ak;simp only[WB]
  go_wp2_with(first
   |(refine Co Z 30 _ _ Z W.heap.size #[I K 0,I K 0,I K 0,I K 0] Z Z 30 _ j.res O0 Z UZ ?_))
  refine Cc (UU results34 _ _ W.heap.size 30 #[I K 0,I K 0,I K 0,I K 0] (0,0) _ Z (Ca _ _ _ _ _ _ j.res) underlying30 Z O0 _ _ Z Z) Z ?_;rw[F.out];exact⟨Y,0,0,Z,j.fr.set (BM _) _,Z⟩
 |some af =>
  have F:Hid (KE g.out k d B=.ok af):=aV ab (by rw[HY.out];exact ah);have x:Hid (BG i b.heap.size v4 af):=ak af Z;obtain⟨a4,n4,k4,rfl⟩:=x.2.2;clear ab aj ak;simp only[WC]
  go_wp2_with fail
  refine DA (S:=λf=>f.heap[a]?=U (E (C4 R) 30)) (j.rep) M ?_;intro ae;have a5:Hid (Dq X W {i with drawn:=i.drawn+1}):=j.fr.drew;have ai:Hid (({i with drawn:=i.drawn+1}:O).heap[W.heap.size]?=U (E (C4 (0,0,0,0)) 30)):=j.res;have a2:Hid (BG {i with drawn:=i.drawn+1} W.heap.size (G a4 n4 k4) af):=(x).mono au;have a7:W.heap.size<a:=j.lt;clear j x au;generalize({i with drawn:=i.drawn+1}:O)=w6 at *;refine BE 0 51 (G a4 n4 k4) ae ?_;refine BL 1 52 (.agg (C4 R)) Z (λf l=>?y1) ae ?_
  case y1=>exact Le 30 (.tmp 8) M a (congrArg (λn=>Value.pointer (U ⟨n,0,Y⟩)) w) _ _ _ _ l underlying30 M (G0 R)
  refine BE 2 4 (G a4 n4 k4) ae ?_;refine C9 3 (λa6 Q=>?_);refine Kw M ?_;refine Hp 30 (.tmp 5) (.tmp 52) Z W.heap.size (C4 R) M M 30 (C4 (0,0,0,0)) ai (G0 R) (aW _ _) (O5 R) ?_;have ay:(λf:O=>f.heap[a]?=U (E (C4 R) 30)) (w6.setRow W.heap.size (C4 R)):=sx J ae;refine Q.out _ _ ay (λ_=>?_);clear Q;refine BE 4 6 (I K 0) ay ?_;refine Cv ?_;go_simp
  go_wp2_with fail
  refine Cc (UU results34 _ _ W.heap.size 30 (C4 R) (0,0) _ Z (Ca _ _ _ _ _ _ ai) underlying30 Z (G0 R) _ _ Z Z) Z ?_;rw[F.out];exact⟨a4,n4,k4,Z,a5.set (BM _) _,aX a2 ai⟩
def Fl:Gt:=⟨0,0,0,0,Cp 0 (λ_ _=>false)++#[A6 .i64 0,A6 .i64 0,A8 none],A7 none 0 0⟩
def Vb:Fl.rc.size=40:=M
def O6(c:g.rc.size=40)(b:Al)(a:Bool):(Ck g b a).size=47:=by unfold Ck;simp[c]
def qQ(ρ:Operand->Al)(o:Oper)(a:o.op=.alloc 96)(w:O):(execOp ρ o).run X w=.ok (.value (A8 (U ⟨w.heap.size,0,Y⟩))) (w.alloc (E (Ck Fl (G Y 0 0) false) 96)):=by
 unfold execOp;rw[a];kernel_rfl
def aY{ops:Array Oper}{rest:List Oper}{o:Oper}{a:Act}{w:O}{Q:Exit->Act->O->Prop}(e:o.guard=Y)(f:o.op=.alloc 96)(d:Option Tmp)(c:o.dst=d)(N:Nat)(b:w.heap.size=N)(h:wpList X ops Q rest (a.put d (A8 (U ⟨N,0,Y⟩))) (w.alloc (E (Ck Fl (G Y 0 0) false) 96))):wpList X ops Q (o::rest) a w:=by
 subst b;exact Q8 e d c _ _ (qQ _ _ f _) h
def qR:prog.built 96 [(6,Ac true)]=U (Ck Fl (G Y 0 0) true):=M
def O7{A:A3}(h:A.size=47):(prog.info? 96).map (·.size)=U A.size:=keX
abbrev Cz:=Except (Int×Int) (Cl×Except Int A1)
def Pv(z:Cz):Cl:=match z with
 |.ok (R,r)=>UV R r
 |.error _=>(0,0,0,0)
def Pw(z:Cz):Int:=match z with
 |.ok (_,r)=>UW r
 |.error (en,_)=>en
def Px(z:Cz):Int:=match z with
 |.ok _=>0
 |.error (_,pl)=>pl
def Py(V:Ak)(base:Nat)(v:Al)(z:Cz):Prop:=match z with
 |.ok (_,r)=>Lq V base v r
 |.error _=>v=A7 none 0 0
def E6(W:Ak)(L:Nat)(g:Gt)(fv:Al):Ak:=((W.alloc (.cells #[A6 .i64 0,A6 .i64 0,A6 .i64 0,A6 .i64 0] 30)).alloc (.cells (Ck g fv false) 96)).setRow L (Ck Fl (A7 none 0 0) true)
structure M1(X:Nat->Prop)(L:Nat)(W V:World):Prop where
 world:V.os=W.os/\V.tape=W.tape/\V.output=W.output
 size:W.heap.size<=V.heap.size
 rows:∀(k:Nat) (cs:A3) (t:TypeId) (fr:Nat×Nat),k≠L->W.heap[k]?=some (.cells cs t fr)->t≠136->t≠188->t≠191->V.heap[k]?=some (.cells cs t fr)
 block:∀j,j<W.heap.size->j≠L->X j->V.heap[j]?=W.heap[j]?
def M1.set{X:Nat->Prop}(h:M1 X L W V){g:Nat}(i:W.heap.size<=g)(cs:A3):M1 X L W (V.setRow g cs) :=
 ⟨h.world,Au h.size,λk cs t f a b c d e=>(CQ _ _ _ _ (Ao (BC b))).trans (h.rows k cs t f a b c d e),λj a b c=>sx J (h.block j a b c)⟩
def qS(X:Nat->Prop)(W:Ak)(L:Nat)(z:Cz)(e:Ending)(V':Ak):Prop :=
 ∃va vn vc,e=Af (Aa #[A7 va vn vc,.agg (C4 (Pv z)),A6 .i64 (Pw z),A6 .i64 (Px z)])/\M1 X L W V'/\V'.heap[L]?=some (.cells (Ck Fl (A7 none 0 0) true) 96)/\Py V' W.heap.size (A7 va vn vc) z
def RJ(W:O)(L:Nat)(g:Gt)(a:Al):(E6 W L g a).heap.size=W.heap.size+2:=by simp[E6]
def qT(W:O)(L:Nat)(g:Gt)(a:Al)(b:L<W.heap.size):(E6 W L g a).heap[W.heap.size]?=U (E (C4 (0,0,0,0)) 30):=sx J ((BT _ _ _ Az).trans (BI W _))
def aZ(W:O)(L:Nat)(g:Gt)(a:Al)(b:L<W.heap.size):(E6 W L g a).heap[W.heap.size+1]?=U (E (Ck g a false) 96):=by
 have h:=BI (W.alloc (E #[I K 0,I K 0,I K 0,I K 0] 30)) (E (Ck g a false) 96);rw[BU]at h;exact sx J h
def qU(W:O)(L:Nat)(g:Gt)(a:Al)(b:W.heap[L]?=U (E (Ck g a false) 96)):(E6 W L g a).heap[L]?=U (E (Ck Fl (G Y 0 0) true) 96):=by
 have c:=BC b;exact Ca _ _ _ _ _ _ ((BT _ _ _ kfg).trans ((BT _ _ _ c).trans b))
def Vc(W:O)(L:Nat)(g:Gt)(a:Al)(j:Nat)(b:j<W.heap.size)(c:j≠L):(E6 W L g a).heap[j]?=W.heap[j]?:=(CQ _ _ _ _ c).trans ((BT _ _ _ kfg).trans (BT _ _ _ b))
def qV(W:O)(L:Nat)(g:Gt)(a:Al):(E6 W L g a).os=W.os/\(E6 W L g a).tape=W.tape/\(E6 W L g a).output=W.output:=⟨rfl,rfl,rfl⟩
def M1.of{X:Nat->Prop}{fv:Al}(h:Dq X (E6 W L g fv) V):M1 X L W V:=by
 have l:=h.rows.size;rw[RJ]at l;refine⟨h.world,J,λk cs t f a b c d e=>?_,λj a b c=>?_⟩
 ·have i:=BC b;exact h.rows.row k cs t f ((Vc W L g fv k i a).trans b) c d e
 exact(h.block j (by rw[RJ];omega) c).trans (Vc W L g fv j a b)
structure b7(X:Nat->Prop)(W W3:World)(L N11:Nat)(R:Cl)(v:Value)(r:Except Int A1)(V:World):Prop where
 fr:Dq X W3 V
 res:V.heap[W.heap.size]?=some (.cells (C4 (0,0,0,0)) 30)
 rep:V.heap[N11]?=some (.cells (C4 R) 30)
 lt:W.heap.size<N11
 gate:V.heap[L]?=some (.cells (Ck Fl (.slice none 0 0) true) 96)
 val:Lq V W.heap.size v r
def Lq.same{b b':Nat}(h:Lq V b v r)(a:∀l,BG V b v l->BG V' b' v l):Lq V' b' v r:=by
 cases r with
 |ok l=>exact a l h
 |error e=>exact h
def qW{X:Nat->Prop}{W3 U:O}(e:W.heap.size<U.heap.size)(b:Dq X W3 U)(hF:Dq X U V')(c:U.heap[W.heap.size]?=some (E (C4 (0,0,0,0)) 30))(a:U.heap[L]?=some (E (Ck Fl (G Y 0 0) true) 96))(d:Lq V' U.heap.size v r):b7 X W W3 L V'.heap.size R v r (V'.alloc (E (C4 R) 30)):=by
 have f:=hF.rows.size;exact⟨(b.trans hF).alloc _,(BT _ _ _ J).trans (hF.rows.row _ _ _ _ c Ay Ay Ay),BI V' _,J,(BT _ _ _ (Ao (BC a))).trans (hF.rows.row _ _ _ _ a Ay Ay Ay),d.same λl h=>NM (h.mono J) BN⟩
end
section
open Go.RowKit
def Dv.same{kt:TypeId}{m n:Nat}{f:Lit->Option Nat}(h:Dv W kt m n f)(g:W'.heap[m]?=W.heap[m]?):Dv W' kt m n f:=by
 obtain⟨D,⟨b,a,c,d⟩,e⟩:=h;exact⟨D,⟨b,a,g.trans c,d⟩,e⟩
def CZ.rebase{W0 W1:O}{A:Nat}{q:Cs}{sts:List ((Nat->Nat)×Int×Int)}{sv:Al}{nf:Lit->Option Nat}{mn:Nat}{mf:Lit->Option Nat}(h:CZ W0 A q sts sv nf mn mf W)(b:W1.heap.size=W0.heap.size)(hb:A0 W1 W')(d:Ib W1 q.ra q.rs)(a:∀j,j=A\/j=q.lm\/j=q.tb\/j=q.nb\/j=q.mb\/sv.ownBlock=U j->W'.heap[j]?=W.heap[j]?):CZ W1 A q sts sv nf mn mf W':=by
 obtain⟨c,i,k⟩:=h.takes;have f:=Pk (W':=W') h.states λg e=>a g (.inr (.inr (.inr (.inr (.inr e)))));exact{h with
  row:=(a A (.inl rfl)).trans h.row
  rules:=d
  below:=hb
  letters:=h.letters.same (a _ (.inr (.inl rfl)))
  takes:=⟨c,(a _ (.inr (.inr (.inl rfl)))).trans i,k⟩
  states:=by rw[b];exact f
  numbers:=h.numbers.same (a _ (.inr (.inr (.inr (.inl rfl)))))
  moves:=h.moves.same (a _ (.inr (.inr (.inr (.inr (.inl rfl))))))
  high:=by rw[b];exact h.high}
end
section
open Go.RowKit Go.Lib
def uU{q:Tmp}{ty ty2:TypeId}(h:fn.results=#[.cell p ty,.cell q ty2])(b:A3)(w:O)(g i:Nat)(t l:TypeId)(cs c:A3)(j k:Nat×Nat)(d f:TypeDesc)(x:b.getD p undef=A8 (U ⟨g,0,Y⟩))(r:w.heap[g]?=U (E cs t j))(z:P.underlying ty=U d)(n:(match d with|.struct _|.array _ _=>true|_=>false)=true)(hi:(P.info? ty).map (·.size)=U cs.size)(y:b.getD q undef=A8 (U ⟨i,0,Y⟩))(s:w.heap[i]?=U (E c l k))(A:P.underlying ty2=U f)(o:(match f with|.struct _|.array _ _=>true|_=>false)=true)(u:(P.info? ty2).map (·.size)=U c.size):(results fn b).run P w=.ok (Aa #[.agg cs,.agg c]) w:=by
 have e:(results fn b).run P w=((asAddr (b.getD p undef)).run P w).andThen λa C=>((loadVar ty a).run P C).andThen λv D=>((asAddr (b.getD q undef)).run P D).andThen λm F=>((loadVar ty2 m).run P F).andThen λB H=>.ok (Aa #[v,B]) H:=by
  simp only[results,h];simp[Ei,Result.andThen]
 rw[e,x,y];simp only[asAddr,Fq,EA,I5 w g t ty cs j d r z n hi,I5 w i l ty2 c k f s A o u]
def Nf{a b:A3}(h:Value.agg a=.agg b):a=b:=by injection h
def We:∀(k:Nat) (W:O) (F:Nat->Prop) (a:A3) (d:A2),(∀j,F j->j<W.heap.size)->CM k W F (.agg a) d->(CC k d).length<=999999999->Am X 49 #[.agg a] W (I1 (CC k d) W)
 |0,_,_,_,_,_,h,_=>h.elim
 |k+1,W,F,a,d,hF,h,hl=>by
  unfold CM at h;split at h
  ·obtain rfl:=Nf h;exact Wd W 0 246 246 Ay Z
  ·rename_i b
   obtain rfl:=Nf h;cases b
   ·exact Wd W 1 244 244 Ay Z
   exact Wd W 2 245 245 Ay Z
  ·obtain⟨h,c,e⟩:=h;obtain rfl:=Nf h;exact vX W _ c e
  ·rename_i l
   obtain rfl:=Nf h;exact(eG W l (by have:(BW 3 l.length++l).length<=999999999:=hl;rw[BK]at this;omega)).1
  ·rename_i l
   obtain rfl:=Nf h;exact(eG W l (by have:(BW 2 l.length++l).length<=999999999:=hl;rw[BK]at this;omega)).2
  ·obtain⟨u,m,h,i,g⟩:=h;obtain rfl:=Nf h;exact vY k W F u m _ (CC k) hF i g hl (λV a d c e f=>We k V F a d c e f)
  ·obtain⟨o,u,m,h,n,i,g⟩:=h;obtain rfl:=Nf h;exact vZ k W F o u m _ (CC k) hF n i g hl (λV a d c e f=>We k V F a d c e f)
  exact h.elim
end
end Go.Proofs.YtnlnjkggkbbdhaaGreatDoor
