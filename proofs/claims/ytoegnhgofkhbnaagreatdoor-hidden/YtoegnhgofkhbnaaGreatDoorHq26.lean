import Derived.Test.YtoegnhgofkhbnaaGreatDoorCards
import Derived.Test.YtoegnhgofkhbnaaGreatDoorTie
import Derived.Test.YtoegnhgofkhbnaaGreatDoorHq24
import Derived.Test.YtoegnhgofkhbnaaGreatDoorHq21
import Derived.Test.YtoegnhgofkhbnaaGreatDoorHq23
import Derived.Test.YtoegnhgofkhbnaaGreatDoorHq25
set_option maxRecDepth 100000
set_option maxHeartbeats 8000000
set_option linter.all false
namespace Go.Proofs.YtoegnhgofkhbnaaGreatDoor
open Go.Proofs.Tryz
open Go.Value renaming int->A7,slice->A8,pointer->A9,string->Aa,tuple->Ab,bool->Ad,iface->Ae
open Go.Obj renaming cells->Af
open Go.Ending renaming returned->Ag
open Go.IntKind renaming i64->Ah
open Option renaming some->Aj,none->Ak
open Go renaming World->Al,Value->Am,Calls->An
open Go.Proofs.Tryz renaming prog->Ao
variable{fm:Int}{A L b k sc:Nat}{d:A3}{B:List Int}{l:A2}{X:Nat->Prop}{U V V' W W0:Al}{g:Gt}{P:Program}{p:Tmp}{R:AP}{bv v y:Am}{r:Except Int A2}{c:AN}{q:Bi}{sts:List ((Nat->Nat)×Int×Int)}{sa:A5}{mf nf:Lit->Option Nat}
section
open Go.ChangeShapes Go.WideShapes Go.ChangeAt Go.RowKit Go.Lib
theorem Tryz.own:ownKnob prog.godebug=Ak:=by kernel_rfl
theorem Tryz.laidOut:laidOutB Ao=true:=by kernel_rfl
def Jh:Nat->A3->List Am
 |0,_=>[]
 |_+1,.lit (.int k z)=>[.int k z]
 |_+1,.lit (.string b)=>[Aa ⟨b.toArray⟩]
 |n+1,.agg ds=>ds.flatMap (Jh n)
 |_+1,_=>[]
def K5(h:Array Obj)(g:Nat)(cs:A4):Array Obj:=h.modify g fun
 |Af _ t frozen=>Af cs t frozen
 |o=>o
def Ri(w0:Al):Al :=
 let h0:=K5 w0.heap 7 (Jh 5 Rows.laid_math_bits_deBruijn32tab).toArray
 let h1:=K5 h0 8 (Jh 5 Rows.laid_math_bits_deBruijn64tab).toArray
 let h2:=K5 h1 6 (Jh 5 Rows.laid_internal_strconv_uint64pow10).toArray
 let h3:=K5 h2 5 (Jh 5 Rows.laid_unicode_utf8_acceptRanges).toArray
 let h4:=K5 h3 1 (Jh 5 Rows.laid_redact_reading_cborSorts).toArray
 let h5:=K5 h4 2 (Jh 5 Rows.laid_redact_reading_packHeads).toArray
 let h6:=K5 h5 0 (Jh 5 Rows.laid_redact_policy_signs).toArray
 let h7:=K5 h6 4 (Jh 5 Rows.laid_unicode_utf8_first).toArray
 {w0 with heap:=h7}
end
section
open Go.RowKit Go.Lib
def In(fm:Int)(k:Nat)(d:A3)(B:List Int):Except Int A2 :=
 if fm=1/\Dw k d=true then .error 13 else match IQ fm (FU fm k d) B with
  |none=>.error 14
  |some l=>.ok l
theorem nL(h:fm=1/\Dw k d=true):In fm k d B=.error 13:=As h
theorem nM(h:¬(fm=1/\Dw k d=true))(a:IQ fm (FU fm k d) B=Ak):In fm k d B=.error 14:=by unfold In;rw[Aq h,a]
theorem nN(h:¬(fm=1/\Dw k d=true))(a:IQ fm (FU fm k d) B=Aj l):In fm k d B=.ok l:=by unfold In;rw[Aq h,a]
structure Cg(X:Nat->Prop)(W V:World):Prop where
 world:V.os=W.os/\V.tape=W.tape/\V.output=W.output
 rows:Bp W V
 block:∀j,j<W.heap.size->X j->V.heap[j]?=W.heap[j]?
theorem Cg.of_below(h:A1 W V):Cg X W V:=⟨⟨h.os,h.tape,h.output⟩,Bp.of_below h,λj a _=>h.block j a⟩
theorem Cg.trans{Z:Al}(h:Cg X W V)(g:Cg X V Z):Cg X W Z:=⟨⟨g.world.1.trans h.world.1,g.world.2.1.trans h.world.2.1,g.world.2.2.trans h.world.2.2⟩,h.rows.trans g.rows,λj a b=>(g.block j (Br a h.rows.size) b).trans (h.block j a b)⟩
theorem Cg.set(h:Cg X W V){g:Nat}(f:W.heap.size<=g)(cs:A4):Cg X W (V.setRow g cs):=by
 refine⟨h.world,⟨by have:=h.rows.size;simpa using this,λj cs t e a b c d=>(BO _ _ _ _ (by have:=At a;omega)).trans (h.rows.row j cs t e a b c d)⟩,λj a b=>sx (by omega) (h.block j a b)⟩
theorem Cg.alloc(h:Cg X W V)(o:Obj):Cg X W (V.alloc o):=h.trans (Cg.of_below AH)
theorem Cg.drew(h:Cg X W V):Cg X W {V with drawn:=V.drawn+1}:=⟨h.world,⟨h.rows.size,h.rows.row⟩,h.block⟩
theorem SX{fn:Func}{u u2:Tmp}{ty:TypeId}(h:fn.results=#[.tmp u,.cell p ty,.tmp u2])(b:A4)(w:Al)(g:Nat)(t:TypeId)(cs:A4)(c:Nat×Nat)(d:TypeDesc)(k:b.getD p undef=A9 (Aj ⟨g,0,Ak⟩))(j:w.heap[g]?=Aj (Af cs t c))(l:P.underlying ty=Aj d)(i:(match d with|.struct _|.array _ _=>true|_=>false)=true)(hi:(P.info? ty).map (·.size)=Aj cs.size)(v f:Am)(m:b.getD u undef=v)(n:b.getD u2 undef=f):(results fn b).run P w=.ok (Ab #[v,.agg cs,f]) w:=by
 have e:(results fn b).run P w=((asAddr (b.getD p undef)).run P w).andThen λa o=>((loadVar ty a).run P o).andThen λv q=>.ok (Ab #[b.getD u undef,v,b.getD u2 undef]) q:=by
  simp only[results,h];simp[D8,Result.andThen]
 subst m;subst n;rw[e,k];simp only[asAddr,E4,Dl,FZ w g t ty cs c d j l i hi]
def SY(R:AP)(r:Except Int A2):AP:=match r with
 |.ok _=>R
 |.error _=>(0,0,0,0)
def SZ(r:Except Int A2):Int:=match r with
 |.ok _=>0
 |.error en=>en
def JJ(V:Al)(base:Nat)(v:Am)(r:Except Int A2):Prop:=match r with
 |.ok l=>Av V base v l
 |.error _=>v=A8 Ak 0 0
def PY(X:Nat->Prop)(W:Al)(R:AP)(r:Except Int A2)(e:Ending)(V':Al):Prop :=
 ∃va vn vc,e=Ag (Ab #[A8 va vn vc,.agg (AZ (SY R r)),A7 Ah (SZ r)])/\Cg X W V'/\JJ V' W.heap.size (A8 va vn vc) r
def PZ(X:Nat->Prop)(N k:Nat)(U:Al)(R:AP)(d:A3)(e:Ending)(V':Al):Prop :=
 ∃t' y',e=Ag (Ab #[Ae t' y',.agg (AZ R)])/\Cg X U V'/\AJ k V' (λj=>j<N\/(U.heap.size<=j/\j<V'.heap.size)) (Ae t' y') d
structure Ko(X:Nat->Prop)(W:World)(L:Nat)(gr:A4)(N8 k:Nat)(R:AP)(t:TypeId)(y:Value)(d:A3)(V:World):Prop where
 fr:Cg X W V
 gate:V.heap[L]?=some (.cells gr 86)
 res:V.heap[W.heap.size]?=some (.cells (AZ (0,0,0,0)) 31)
 rep:V.heap[N8]?=some (.cells (AZ R) 31)
 lt:W.heap.size<N8
 thg:AJ k V (λj=>j<V.heap.size) (.iface t y) d
theorem Ko.step{gr:A4}{N8:Nat}{t:TypeId}(h:Ko X W L gr N8 k R t y d V)(a:A1 V V'):Ko X W L gr N8 k R t y d V' :=
 ⟨h.fr.trans (Cg.of_below a),(a.block _ (At h.gate)).trans h.gate,(a.block _ (At h.res)).trans h.res,(a.block _ (At h.rep)).trans h.rep,h.lt,h.thg.same (λ_ b=>Br b a.size) (λj b=>a.block j b)⟩
theorem nO{gr:A4}{t:TypeId}(b:W.heap[L]?=Aj (Af gr 86))(hF:Cg X (W.alloc (Af #[A7 Ah 0,A7 Ah 0,A7 Ah 0,A7 Ah 0] 31)) V')(f:AJ k V' (λj=>j<W.heap.size\/((W.alloc (Af #[A7 Ah 0,A7 Ah 0,A7 Ah 0,A7 Ah 0] 31)).heap.size<=j/\j<V'.heap.size)) (Ae t y) d):Ko X W L gr V'.heap.size k R t y d (V'.alloc (Af (AZ R) 31)):=by
 have e:W.heap.size<V'.heap.size:=by have h:=hF.rows.size;rw[AM]at h;omega
 have c:=At b;refine⟨?_,?_,?_,Ay V' _,e,?_⟩
 ·exact((Cg.of_below AH).trans hF).alloc _
 ·exact(AL _ _ _ (by omega)).trans (hF.rows.row L _ _ _ ((AL W _ _ c).trans b) (by decide) (by decide) (by decide))
 ·exact(AL _ _ _ (by omega)).trans (hF.rows.row W.heap.size _ _ _ (Ay W _) (by decide) (by decide) (by decide))
 refine f.same (λj a=>?_) (λj a=>AL _ _ _ ?_)
 ·rw[AM];rcases a with a|a<;>omega
 rcases a with a|a<;>omega
theorem nP(k:Nat)(d:A3):FU 1 k d=Cq k d:=As rfl
theorem nQ(k:Nat)(d:A3):FU 2 k d=BD k d:=by unfold FU;rw[Aq (by decide),As rfl]
theorem nR(k:Nat)(d:A3):FU 3 k d=Fg k d:=by unfold FU;rw[Aq (by decide),Aq (by decide)]
theorem nS(fm:Int)(k:Nat)(V:Al)(t:TypeId)(y:Am)(d:A3)(i:fm=1\/fm=2\/fm=3)(b:AJ k V (λj=>j<V.heap.size) (Ae t y) d)(l:BL k d<=999999999)(g:Hu V.heap.size V):An Ao 84 #[A7 Ah fm,Ae t y] V λe c=>∃f,e=Ag f/\Av c V.heap.size f (FU fm k d)/\A1 V c:=by
 have a:=AW (Yn fm b) l;rcases i with rfl|rfl|rfl
 ·rw[nP]at a ⊢;exact ni k V _ _ d (λ_ h=>h) g b a
 ·rw[nQ]at a ⊢;exact VH k V _ _ d (λ_ h=>h) b a
 rw[nR]at a ⊢;exact dP k V _ _ d (λ_ h=>h) b a
theorem nT(fm:Int)(k:Nat)(V:Al)(t:TypeId)(y:Am)(d:A3)(i:fm=1\/fm=2\/fm=3)(f:AJ k V (λj=>j<V.heap.size) (Ae t y) d)(m:BL k d<=999999999)(h:∀U,A1 V U->Hu U.heap.size U)(l:¬(fm=1/\Dw k d=true)):An Ao 53 #[A7 Ah fm,Ae t y] V λe c=>∃g,e=Ag (Ab #[g,A7 Ah 0])/\Av c V.heap.size g (FU fm k d)/\A1 V c :=
 mU k V fm t y d _ f l (λU a=>nS fm k U t y d i (f.same (λ_ b=>Br b a.size) (λj b=>a.block j b)) m (h U a))
structure T5(fm:Int)(k:Nat)(d:A3):Prop where
 ok:∀V t y,AJ k V (λj=>j<V.heap.size) (.iface t y) d->(∀U,A1 V U->Hu U.heap.size U)->¬(fm=1/\Dw k d=true)->Calls prog 53 #[.int .i64 fm,.iface t y] V λe V'=>∃v',e=.returned (.tuple #[v',.int .i64 0])/\Av V' V.heap.size v' (FU fm k d)/\A1 V V'
 kind:Dw k d=true->∀V t y,AJ k V (λj=>j<V.heap.size) (.iface t y) d->Calls prog 53 #[.int .i64 1,.iface t y] V λe V'=>e=.returned (.tuple #[.slice none 0 0,.int .i64 13])/\A1 V V'
 len:∀V t y,AJ k V (λj=>j<V.heap.size) (.iface t y) d->(FU fm k d).length<=999999999
theorem nU(e:fm=1\/fm=2\/fm=3)(b:BL k d<=999999999):T5 fm k d :=
 ⟨λV t y a c g=>nT fm k V t y d e a b c g,λf V t y a=>mV k V t y d a f,λ_ _ _ a=>AW (Yn fm a) b⟩
theorem T6:(#[Value.int Ah 0,A7 Ah 0,A7 Ah 0,A7 Ah 0]).all (·.oneCell')=true:=by simp[Value.oneCell']
theorem Mq(R:AP):(AZ R).all (·.oneCell')=true:=by simp[AZ,Value.oneCell']
theorem Yo(R S:AP):(AZ R).size=(AZ S).size:=rfl
theorem nV(d:g.rc.size=40){fed:Am}{cl:Bool}(b:V.heap[L]?=Aj (Af (Be g fed cl) 86)):∀(j:Nat) (u:Am),g.rc[j]?=Aj u->V.cell? ⟨L,4+j,Ak⟩=Aj u:=by
 intro j u a;refine(Ar b (4+j)).trans ?_;have c:j<40:=by have:=At a;omega
 unfold Be;rw[MN (by simp;omega),Ls (by simp)];simpa using a
theorem Yp{base N:Nat}{cs cs':A4}(h:Av W base v l)(j:W.heap[N]?=Aj (Af cs 31)):Av (W.setRow N cs') base v l:=by
 refine⟨⟨h.1.1,?_⟩,by have:=h.2.1;simpa using this,h.2.2⟩;rcases h.1.2 with b|⟨g,c,d,b,f,a,i⟩
 ·exact .inl b
 refine .inr ⟨g,c,d,b,f,(BO _ _ _ _ (λe=>?_)).trans a,i⟩;subst e;rw[j]at a;injection a with a;injection a with _ a _;exact absurd a (by decide)
theorem nW(a:g.rc.size=40):(prog.info? 83).map (·.size)=Aj g.rc.size:=by rw[a];kernel_rfl
theorem nX(X:Nat->Prop)(k:Nat)(W:Al)(L:Nat)(g:Gt)(aw:g.rc.size=40)(u:Am)(s:Bool)(M:W.heap[L]?=Aj (Af (Be g u s) 86))(ag:TypeId)(y:Am)(R:AP)(d:A3)(ba:A5)(A:Nat)(B:List Int)(av:g.bk=A8 ba B.length A)(ar:B.length<=8)(aq:∀i (a2:i<B.length),B[i]<=65536)(wp:T5 g.out k d)(hI:∀V,Cg X W V->GL V ba B)(hT:∀V,Cg X W V->Hu V.heap.size V)(cR:∀U,A1 W U->An Ao 52 #[.agg g.rc,Ae ag y] U (PZ X W.heap.size k U R d)):An Ao 29 #[A9 (Aj ⟨L,0,Ak⟩),Ae ag y] W (PY X W R (In g.out k d B)):=by
 have hL:L<W.heap.size:=At M;have HG:Hid (W.heap[L]?=Aj (Af (Be g u s) 86)):=M;have Q:Hid (g.rc.size=40):=aw;have ao:An Ao 52 #[.agg g.rc,Ae ag y] (W.alloc (Af #[A7 Ah 0,A7 Ah 0,A7 Ah 0,A7 Ah 0] 31)) λe V'=>∃p q,e=Ag (Ab #[Ae p q,.agg (AZ R)])/\Hid (Ko X W L (Be g u s) V'.heap.size k R p q d (V'.alloc (Af (AZ R) 31))):=(cR _ AH).mono (by
  rintro e V' ⟨p,q,rfl,h1,h2⟩;exact⟨p,q,rfl,nO M h1 h2⟩)
 have HI:Hid (∀V,Cg X W V->GL V ba B):=hI;have HT:Hid (∀V,Cg X W V->Hu V.heap.size V):=hT;have ax:Hid (∀i (a2:i<B.length),B[i]<=65536):=aq;have ay:Hid (B.length<=8):=ar;have G:=Ap wp;have ai:Hid (g.bk=A8 ba B.length A):=av;have al:Hid ((W.alloc (Af #[A7 Ah 0,A7 Ah 0,A7 Ah 0,A7 Ah 0] 31)).heap[L]?=Aj (Af (Be g u s) 86)):=(AL W _ _ hL).trans M;clear cR hI hT aq ar wp av M aw;go_enter func29,ntmps29
 go_wp2_with(first
  |(refine Px 83 (.tmp 16) rfl rfl L 4 rfl g.rc _ (nV Q al) underlying83 rfl (nW Q) ?_)
  |fail)
 refine ao.mono ?_;clear ao al;rintro e N ⟨p,q,rfl,c⟩;obtain⟨b,am⟩:∃b,Hid (N.alloc (Af (AZ R) 31)=b):=⟨_,rfl⟩
 obtain⟨a,x⟩:∃a,Hid (N.heap.size=a):=⟨_,rfl⟩
 rw[am.out,x.out]at c;have O:Hid ((N.alloc (Af #[A7 Ah 0,A7 Ah 0,A7 Ah 0,A7 Ah 0] 31)).heap[a]?=Aj (Af (AZ (0,0,0,0)) 31)):=by show _=_;rw[<-x.out];exact Ay N _
 have T:Hid ((N.alloc (Af #[A7 Ah 0,A7 Ah 0,A7 Ah 0,A7 Ah 0] 31)).setRow a (AZ R)=b):=by show _=_;rw[<-x.out,<-am.out];exact F6 _ _ _ _
 have c1:b.cell? ⟨L,1,Ak⟩=Aj (A7 Ah g.out):=(Ar c.gate 1).trans (Mh _ _ 1 (by omega));by_cases w:g.out=1/\Dw k d=true
 ·have F:Hid (In g.out k d B=.error 13):=nL w;have C:=G.kind w.2 b p q c.thg;rw[w.1]at c1;clear w G
  go_wp2_with(first
   |(refine Bg rfl 31 _ _ rfl a (AZ R) (congrArg (λn=>Value.pointer (Aj ⟨n,0,Ak⟩)) x) rfl 31 _ O (EY R) rfl (Mq R) ?_;rw[T.out];clear O T)
   |(go_at_call 53;refine C.mono ?_;clear C c1;rintro e f ⟨rfl,H⟩;have r:Hid (Ko X W L (Be g u s) a k R p q d f):=c.step H;clear H c)
   |(refine Bg rfl 31 _ _ rfl W.heap.size #[A7 Ah 0,A7 Ah 0,A7 Ah 0,A7 Ah 0] rfl rfl 31 _ r.res Mj rfl T6 ?_))
  refine Bd (SX results29 _ _ W.heap.size 31 #[A7 Ah 0,A7 Ah 0,A7 Ah 0,A7 Ah 0] (0,0) _ rfl (B4 _ _ _ _ _ _ r.res) underlying31 rfl Mj _ _ rfl rfl) rfl ?_;rw[F.out];exact⟨Ak,0,0,rfl,r.fr.set (AB _) _,rfl⟩
 have P:Hid (¬(g.out=1/\Dw k d=true)):=w;have aj:Hid ((FU g.out k d).length<=999999999):=G.len _ _ _ c.thg;have C:=G.ok b p q c.thg (λU hU=>HT.out U (c.fr.trans (Cg.of_below hU))) w;clear w G HT;obtain⟨E,HY⟩:∃E,Hid (FU g.out k d=E):=⟨_,rfl⟩
 rw[HY.out]at aj C;obtain⟨D,ab⟩:∃D,Hid (IQ g.out E B=D):=⟨_,rfl⟩
 go_wp2_with(first
  |(refine Bg rfl 31 _ _ rfl a (AZ R) (congrArg (λn=>Value.pointer (Aj ⟨n,0,Ak⟩)) x) rfl 31 _ O (EY R) rfl (Mq R) ?_;rw[T.out];clear O T)
  |(go_at_call 53;refine C.mono ?_;clear C;rintro e f ⟨v3,rfl,af,H⟩;obtain⟨Y,n3,t,rfl⟩:=af.2.2;have ah:Hid (A1 b f):=H;have ak:Hid (Av f b.heap.size (A8 Y n3 t) E):=af;clear H af c1))
 have aa:Hid (A1 b ({f with drawn:=f.drawn+1}:Al)):=ah.drew;have z:Hid (Av ({f with drawn:=f.drawn+1}:Al) b.heap.size (A8 Y n3 t) E):=ak.out;have r:Hid (Ko X W L (Be g u s) a k R p q d ({f with drawn:=f.drawn+1}:Al)):=c.step aa;refine Cp (S:=λZ=>Z.cell? ⟨L,1,Ak⟩=Aj (A7 Ah g.out)/\Z.cell? ⟨L,44,Ak⟩=Aj (A8 ba B.length A)) (⟨(Ar r.gate 1).trans (Mh _ _ 1 (by omega)),((Ar r.gate 44).trans (IR Q _ _ 0)).trans (congrArg Aj ai)⟩) (by kernel_rfl) ?_;intro o;clear ah ak;generalize({f with drawn:=f.drawn+1}:Al)=w5 at *;have cF:=iw w5 b.heap.size g.out (A8 Y n3 t) E ba A B z (HI w5 r.fr) ay ax aj;rw[ab.out]at cF;refine Au 0 36 (A9 (Aj ⟨L,0,Ak⟩)) o ?_;refine Au 1 37 (A9 (Aj ⟨L,0,Ak⟩)) o ?_;refine Au 2 38 (A9 (Aj ⟨L,1,Ak⟩)) o ?_;refine AD 3 39 (A7 Ah g.out) rfl (λZ J=>?y3) o ?_
 case y3=>(have z1:=J.1;go_simp)
 refine Au 4 40 (A8 Y n3 t) o ?_;refine Au 5 41 (A9 (Aj ⟨L,0,Ak⟩)) o ?_;refine Au 6 42 (A9 (Aj ⟨L,0,Ak⟩)) o ?_;refine Au 7 43 (A9 (Aj ⟨L,44,Ak⟩)) o ?_;refine AD 8 44 (A8 ba B.length A) rfl (λZ J=>?y8) o ?_
 case y8=>(have z1:=J.2;go_simp)
 refine Bc 9 (λa1 I=>?_);go_simp;refine cF.mono ?_;clear cF;rintro e j ⟨⟨v4,rfl,ad,ae⟩,ap⟩;have m:Hid (Ko X W L (Be g u s) a k R p q d j):=c.step (aa.trans ap);have an:Hid (W.heap.size<=b.heap.size):=c.fr.rows.size;have v:(λZ:Al=>Z.cell? ⟨L,1,Ak⟩=Aj (A7 Ah g.out)/\Z.cell? ⟨L,44,Ak⟩=Aj (A8 ba B.length A)) j:=⟨(Ar m.gate 1).trans (Mh _ _ 1 (by omega)),((Ar m.gate 44).trans (IR Q _ _ 0)).trans (congrArg Aj ai)⟩
 simp only[];refine I.out _ _ v (λ_=>?_);clear I ap c r aa z o;refine Au 10 35 (Ab #[v4,Ad D.isSome]) v ?_;refine Au 11 46 v4 v ?_;refine Au 12 47 (Ad D.isSome) v ?_;refine Au 13 11 v4 v ?_;refine Au 14 12 (Ad D.isSome) v ?_;refine Bw ?_;go_simp;clear v
 cases D with
 |none =>
  have F:Hid (In g.out k d B=.error 14):=nM P (by rw[HY.out];exact ab);obtain rfl:=ad rfl;clear P ad ae;simp only[QH]
  go_wp2_with(first
   |(refine Bg rfl 31 _ _ rfl W.heap.size #[A7 Ah 0,A7 Ah 0,A7 Ah 0,A7 Ah 0] rfl rfl 31 _ m.res Mj rfl T6 ?_))
  refine Bd (SX results29 _ _ W.heap.size 31 #[A7 Ah 0,A7 Ah 0,A7 Ah 0,A7 Ah 0] (0,0) _ rfl (B4 _ _ _ _ _ _ m.res) underlying31 rfl Mj _ _ rfl rfl) rfl ?_;rw[F.out];exact⟨Ak,0,0,rfl,m.fr.set (AB _) _,rfl⟩
 |some l =>
  have F:Hid (In g.out k d B=.ok l):=nN P (by rw[HY.out];exact ab);have z:Hid (Av j b.heap.size v4 l):=ae l rfl;obtain⟨h,n4,k4,rfl⟩:=z.2.2;clear P ad ae;simp only[Us]
  go_wp2_with fail
  refine Cp (S:=λZ=>Z.heap[a]?=Aj (Af (AZ R) 31)) (m.rep) (by kernel_rfl) ?_;intro K;have a0:Hid (Cg X W {j with drawn:=j.drawn+1}):=m.fr.drew;have ac:Hid (({j with drawn:=j.drawn+1}:Al).heap[W.heap.size]?=Aj (Af (AZ (0,0,0,0)) 31)):=m.res;have az:Hid (Av {j with drawn:=j.drawn+1} W.heap.size (A8 h n4 k4) l):=(z).mono an;have a5:W.heap.size<a:=m.lt;clear m z an;generalize({j with drawn:=j.drawn+1}:Al)=w6 at *;refine Au 0 51 (A8 h n4 k4) K ?_;refine AD 1 52 (.agg (AZ R)) rfl (λZ J=>?y1) K ?_
  case y1=>exact JA 31 (.tmp 8) (by kernel_rfl) a (congrArg (λn=>Value.pointer (Aj ⟨n,0,Ak⟩)) x) _ _ _ _ J underlying31 (by kernel_rfl) (EY R)
  refine Au 2 4 (A8 h n4 k4) K ?_;refine Bc 3 (λa1 I=>?_);refine IU (by kernel_rfl) ?_;refine IB 31 (.tmp 5) (.tmp 52) rfl W.heap.size (AZ R) (by kernel_rfl) (by kernel_rfl) 31 (AZ (0,0,0,0)) ac (EY R) (Yo _ _) (Mq R) ?_;have au:(λZ:Al=>Z.heap[a]?=Aj (Af (AZ R) 31)) (w6.setRow W.heap.size (AZ R)):=sx (by omega) K;refine I.out _ _ au (λ_=>?_);clear I;refine Au 4 6 (A7 Ah 0) au ?_;refine Bw ?_;go_simp
  go_wp2_with fail
  refine Bd (SX results29 _ _ W.heap.size 31 (AZ R) (0,0) _ rfl (B4 _ _ _ _ _ _ ac) underlying31 rfl (EY R) _ _ rfl rfl) rfl ?_;rw[F.out];exact⟨h,n4,k4,rfl,a0.set (AB _) _,Yp az ac⟩
def DX:Gt:=⟨0,0,0,0,Bh 0 (λ_ _=>false)++#[A7 Ah 0,A7 Ah 0,A9 Ak],A8 Ak 0 0⟩
theorem T7:DX.rc.size=40:=by kernel_rfl
theorem Mr(c:g.rc.size=40)(b:Am)(a:Bool):(Be g b a).size=47:=by unfold Be;simp[c]
theorem nY(ρ:Operand->Am)(o:Oper)(a:o.op=.alloc 86)(w:Al):(execOp ρ o).run Ao w=.ok (.value (A9 (Aj ⟨w.heap.size,0,Ak⟩))) (w.alloc (Af (Be DX (A8 Ak 0 0) false) 86)):=by
 unfold execOp;rw[a];kernel_rfl
theorem Yq{ops:Array Oper}{rest:List Oper}{o:Oper}{a:Act}{w:Al}{Q:Exit->Act->Al->Prop}(e:o.guard=Ak)(f:o.op=.alloc 86)(d:Option Tmp)(c:o.dst=d)(N:Nat)(b:w.heap.size=N)(h:wpList Ao ops Q rest (a.put d (A9 (Aj ⟨N,0,Ak⟩))) (w.alloc (Af (Be DX (A8 Ak 0 0) false) 86))):wpList Ao ops Q (o::rest) a w:=by
 subst b;exact Ov e d c _ _ (nY _ _ f _) h
theorem nZ:prog.built 86 [(6,Ad true)]=Aj (Be DX (A8 Ak 0 0) true):=by kernel_rfl
theorem Ms{A:A4}(h:A.size=47):(prog.info? 86).map (·.size)=Aj A.size:=by rw[h];kernel_rfl
abbrev Cz:=Except (Int×Int) (AP×Except Int A2)
def C3(z:Cz):AP:=match z with
 |.ok (R,r)=>SY R r
 |.error _=>(0,0,0,0)
def Co(z:Cz):Int:=match z with
 |.ok (_,r)=>SZ r
 |.error (en,_)=>en
def D5(z:Cz):Int:=match z with
 |.ok _=>0
 |.error (_,pl)=>pl
def NW(V:Al)(base:Nat)(v:Am)(z:Cz):Prop:=match z with
 |.ok (_,r)=>JJ V base v r
 |.error _=>v=A8 Ak 0 0
def CQ(W:Al)(L:Nat)(g:Gt)(fv:Am):Al:=((W.alloc (Af #[A7 Ah 0,A7 Ah 0,A7 Ah 0,A7 Ah 0] 31)).alloc (Af (Be g fv false) 86)).setRow L (Be DX (A8 Ak 0 0) true)
structure Kp(X:Nat->Prop)(L:Nat)(W V:World):Prop where
 world:V.os=W.os/\V.tape=W.tape/\V.output=W.output
 size:W.heap.size<=V.heap.size
 rows:∀(k:Nat) (cs:A4) (t:TypeId) (fr:Nat×Nat),k≠L->W.heap[k]?=some (.cells cs t fr)->t≠123->t≠164->t≠172->V.heap[k]?=some (.cells cs t fr)
 block:∀j,j<W.heap.size->j≠L->X j->V.heap[j]?=W.heap[j]?
theorem Kp.set(h:Kp X L W V){g:Nat}(i:W.heap.size<=g)(cs:A4):Kp X L W (V.setRow g cs) :=
 ⟨h.world,by have:=h.size;simpa using this,λk cs t f a b c d e=>(BO _ _ _ _ (by have:=At b;omega)).trans (h.rows k cs t f a b c d e),λj a b c=>sx (by omega) (h.block j a b c)⟩
def o0(X:Nat->Prop)(W:Al)(L:Nat)(z:Cz)(e:Ending)(V':Al):Prop :=
 ∃va vn vc,e=Ag (Ab #[A8 va vn vc,.agg (AZ (C3 z)),A7 Ah (Co z),A7 Ah (D5 z)])/\Kp X L W V'/\V'.heap[L]?=Aj (Af (Be DX (A8 Ak 0 0) true) 86)/\NW V' W.heap.size (A8 va vn vc) z
theorem Q0(W:Al)(L:Nat)(g:Gt)(a:Am):(CQ W L g a).heap.size=W.heap.size+2:=by simp[CQ]
theorem o8(W:Al)(L:Nat)(g:Gt)(a:Am)(b:L<W.heap.size):(CQ W L g a).heap[W.heap.size]?=Aj (Af (AZ (0,0,0,0)) 31):=sx (by omega) ((AL _ _ _ (by simp)).trans (Ay W _))
theorem Yr(W:Al)(L:Nat)(g:Gt)(a:Am)(b:L<W.heap.size):(CQ W L g a).heap[W.heap.size+1]?=Aj (Af (Be g a false) 86):=by
 have h:=Ay (W.alloc (Af #[A7 Ah 0,A7 Ah 0,A7 Ah 0,A7 Ah 0] 31)) (Af (Be g a false) 86);rw[AM]at h;exact sx (by omega) h
theorem o9(W:Al)(L:Nat)(g:Gt)(a:Am)(b:W.heap[L]?=Aj (Af (Be g a false) 86)):(CQ W L g a).heap[L]?=Aj (Af (Be DX (A8 Ak 0 0) true) 86):=by
 have c:=At b;exact B4 _ _ _ _ _ _ ((AL _ _ _ (by rw[AM];omega)).trans ((AL _ _ _ c).trans b))
theorem T8(W:Al)(L:Nat)(g:Gt)(a:Am)(j:Nat)(b:j<W.heap.size)(c:j≠L):(CQ W L g a).heap[j]?=W.heap[j]?:=(BO _ _ _ _ c).trans ((AL _ _ _ (by rw[AM];omega)).trans (AL _ _ _ b))
theorem oa(W:Al)(L:Nat)(g:Gt)(a:Am):(CQ W L g a).os=W.os/\(CQ W L g a).tape=W.tape/\(CQ W L g a).output=W.output:=⟨rfl,rfl,rfl⟩
theorem Kp.of{fv:Am}(h:Cg X (CQ W L g fv) V):Kp X L W V:=by
 have l:=h.rows.size;rw[Q0]at l;refine⟨h.world,by omega,λk cs t f a b c d e=>?_,λj a b c=>?_⟩
 ·have i:=At b;exact h.rows.row k cs t f ((T8 W L g fv k i a).trans b) c d e
 exact(h.block j (by rw[Q0];omega) c).trans (T8 W L g fv j a b)
structure Ys(X:Nat->Prop)(W W3:World)(L N11:Nat)(R:AP)(v:Value)(r:Except Int A2)(V:World):Prop where
 fr:Cg X W3 V
 res:V.heap[W.heap.size]?=some (.cells (AZ (0,0,0,0)) 31)
 rep:V.heap[N11]?=some (.cells (AZ R) 31)
 lt:W.heap.size<N11
 gate:V.heap[L]?=some (.cells (Be DX (.slice none 0 0) true) 86)
 val:JJ V W.heap.size v r
theorem JJ.same{b':Nat}(h:JJ V b v r)(a:∀l,Av V b v l->Av V' b' v l):JJ V' b' v r:=by
 cases r with
 |ok l=>exact a l h
 |error e=>exact h
theorem od{W3:Al}(e:W.heap.size<U.heap.size)(b:Cg X W3 U)(hF:Cg X U V')(c:U.heap[W.heap.size]?=Aj (Af (AZ (0,0,0,0)) 31))(a:U.heap[L]?=Aj (Af (Be DX (A8 Ak 0 0) true) 86))(d:JJ V' U.heap.size v r):Ys X W W3 L V'.heap.size R v r (V'.alloc (Af (AZ R) 31)):=by
 have f:=hF.rows.size;exact⟨(b.trans hF).alloc _,(AL _ _ _ (by omega)).trans (hF.rows.row _ _ _ _ c (by decide) (by decide) (by decide)),Ay V' _,by omega,(AL _ _ _ (by have:=At a;omega)).trans (hF.rows.row _ _ _ _ a (by decide) (by decide) (by decide)),d.same λl h=>KT (h.mono (by omega)) AH⟩
structure Ip(c:AN):Prop where
 lab:1<=c.labels/\c.labels<=6
 dfl:0<=c.dflt/\c.dflt<(c.labels.toNat:Int)
 clr:0<=c.clr/\c.clr<(c.labels.toNat:Int)
 inn:c.inn=1\/c.inn=2\/c.inn=3
 out:c.out=1\/c.out=2\/c.out=3
 dep:1<=c.depth/\c.depth<=16
 byt:1<=c.bytes/\c.bytes<=4096
 b8:c.B.length<=8
 b6:∀i (h:i<c.B.length),c.B[i]<=65536
 pol:Di c.labels.toNat c.pol.data.toList=0
theorem Yw{f:Int}(h:D0 f=true):f=1\/f=2\/f=3:=by
 unfold D0 at h;simp only[KI,Je]at h;omega
theorem J0(h:Bl c=0):Ip c:=by
 have k:=Yt h;rw[<-(SB c).1]at h;unfold EB at h;split at h
 ·next hh=>exact absurd h hh
 next hh =>
 have g:Db c.labels c.L c.dflt c.clr=0:=Qw hh;split at h
 ·cases h
 next a =>
 split at h
 ·cases h
 next d =>
 have a:D3 c.inn c.out c.depth c.bytes=true:=by simpa using a
 have d:Fb c.B=true:=by simpa using d
 unfold Db at g;split at g
 ·next hn =>
  simp only[Ch]at hn;obtain⟨⟨b,e⟩,f⟩:=hn;unfold CU at b;rw[Ch]at b;have b:=By b.1;have e:=By e;have f:=By f;unfold D3 at a;simp only[Ch,Jc]at a;unfold Fb at d;rw[Ch]at d;refine⟨⟨b.1,b.2.1⟩,e,f,Yw a.1.1.1.1.1,Yw a.1.1.1.1.2,⟨a.1.1.1.2,a.1.1.2⟩,⟨a.1.2,a.2⟩,By d.1,λi j=>?_,k⟩;have:=By (D7.1 d.2 i (BT.2 j));rw[KC,AY j]at this;exact this.2
 cases g
theorem ol{n:Nat}(h:Di n l=0):∀x∈(BR l).map BZ,∃m:Nat,x.2.1=(m:Int)/\m<n:=by
 have g:BY n l<0:=by
  unfold Di at h;split at h
  ·cases h
  omega
 intro x k;obtain⟨r,f,rfl⟩:=KJ.1 k;unfold BY at g;unfold BR at f;split at g
 ·omega
 split at g
 ·next h0 =>
  rw[As h0]at f;cases f
 next h0 =>
 rw[Aq h0]at f;obtain⟨i,_⟩:=SK (B8 10 l) 0 g (by omega);obtain⟨y,o,rfl⟩:=KJ.1 f;have e:=i y o;unfold BA at e;show∃m:Nat,(Cf y).2.1=(m:Int)/\m<n;unfold Cf
 match hs:B8 32 y,e with
 |[a,b,c],e =>
  unfold Ki at e;simp only[Ch]at e;have e:=e.2.1
  match b,e with
  |[d],e =>
   unfold EO at e;rw[Ch]at e;have j:=By e.1;have p:=By e.2;refine⟨d.toNat-48,?_,by omega⟩;show(if 48<=d.toNat/\d.toNat<=57 then(d.toNat:Int)-48 else 0)=_;rw[As j];omega
structure EE(b:Nat)(W:World):Prop where
 rd:Jr W
 st:Hu b W
 db:W.cell? ⟨8,15,none⟩=some (.int .u8 4)
 gl:Gq W
 big:9<=b/\b<=W.heap.size
theorem Ha(a:∀q,q<9->V.heap[q]?=W.heap[q]?){q off:Nat}(b:q<9)(h:W.cell? ⟨q,off,Ak⟩=Aj v):V.cell? ⟨q,off,Ak⟩=Aj v:=(GF (w:=W) (a q b)).trans h
theorem U8.low(a:∀q,q<9->V.heap[q]?=W.heap[q]?)(h:U8 W):U8 V :=
 ⟨λc d=>Ha a (by decide) (h.1 c d),λi b=>⟨Ha a (by decide) (h.2 i b).1,Ha a (by decide) (h.2 i b).2⟩⟩
theorem EE.below(h:EE b W)(d:Below b W V):EE b V:=by
 have a:∀q,q<9->V.heap[q]?=W.heap[q]?:=λq i=>d.block q (by have:=h.big.1;omega);have j:=d.size;refine⟨⟨h.rd.u8.low a,⟨λu c=>Ha a (by decide) (h.rd.hd.cb u c),λu c=>⟨Ha a (by decide) (h.rd.hd.pk u c).1,Ha a (by decide) (h.rd.hd.pk u c).2.1,Ha a (by decide) (h.rd.hd.pk u c).2.2⟩⟩,?_⟩,h.st.on d,Ha a (by decide) h.db,?_,h.big.1,?_⟩
 ·have:=h.rd.big;omega
 ·obtain⟨t,e,f⟩:=h.gl.signs;obtain⟨m,g⟩:=h.gl.mlen;exact⟨⟨t,e,(a _ (by decide)).trans f⟩,U8.low a h.gl.tabs,m,Ha a (by decide) g⟩
 have:=h.big.2;omega
theorem EE.up(h:EE b W)(a:Below b W V):Hu V.heap.size V:=λd c=>h.st d (a.trans (c.mono (by have:=h.big.2;have:=a.size;omega)))
def Cj(c:AN):Rv:=⟨F0 c,c.dflt,BK c.labels.toNat c.L,c.clr.toNat,c.key⟩
def kC(c:AN):Nat:=c.depth.toNat+1
def J1(c:AN)(A:Nat):A4:=Bh c.labels.toNat (BK c.labels.toNat c.L)++#[A7 Ah c.clr,A7 Ah c.key,A9 (Aj ⟨A,0,Ak⟩)]
def EF(c:AN)(A:Nat)(bv:Am):Gt:=⟨c.inn,c.out,c.depth,c.bytes.toNat,J1 c A,bv⟩
theorem Ta(c:AN)(A:Nat):(J1 c A).size=40:=by unfold J1;rw[QM,Bj];rfl
theorem om(ck:Ip c)(A:Nat)(a:Am):Mt c A a=Be (EF c A a) (A8 Ak 0 0) false:=by
 have h:((c.bytes.toNat:Nat):Int)=c.bytes:=JX (by have:=ck.byt;omega);unfold Mt Be EF J1;dsimp only;rw[h]
def Xc(A:Nat)(q:Bi)(own0:Option Nat)(j:Nat):Prop:=j≠A/\j≠q.nb/\j≠q.mb/\Aj j≠own0
theorem oo(ck:Ip c)(h:Io c W0 L A q sts sa sc nf mf bv V)(g:EE b W0)(f:W0.heap.size<=U.heap.size)(i:Option Nat):EX ⟨Cj c,W0,A,q,U.heap.size+2,Bh c.labels.toNat (BK c.labels.toNat c.L),c.labels.toNat,U,i⟩:=by
 obtain⟨a,d,e⟩:=SL ck.pol;refine⟨h.cp.ers,h.cp.edf,h.cp.elf,h.cp.eL,h.cp.ly,a,d,e,Fv _ _,?_,?_,?_,AW f (JZ _ _),JZ _ _,g.db⟩
 ·show c.labels.toNat<=6;have:=ck.lab;omega
 ·show c.clr.toNat<c.labels.toNat;have:=ck.clr;omega
 refine Yv ⟨c.dflt.toNat,?_,?_⟩ (F0 c) (ol ck.pol)
 ·show c.dflt=_;have:=ck.dfl;omega
 show c.dflt.toNat<c.labels.toNat;have:=ck.dfl;omega
theorem oq(ck:Ip c)(w:∀r:Rc,EX r->r.v=Cj c->SM r (kC c) [])(h:Io c W0 L A q sts sa sc nf mf bv V)(C:EE b W0)(k:A1 V U){t:TypeId}(s:AJ (kC c) V (λj=>j<V.heap.size) (Ae t y) d)(J:BL (kC c) d<=2000000):An Ao 52 #[.agg (J1 c A),Ae t y] U (PZ (Xc A q (Value.slice sa sts.length sc).ownBlock) V.heap.size (kC c) U (B2 (Cj c) (kC c) [] d (0,0,0,0)).2 ((B2 (Cj c) (kC c) [] d (0,0,0,0)).1.getD .nil)):=by
 have f:BQ W0 A q sts (A8 sa sts.length sc) nf 0 mf U:=h.cp.au.next k
 have z:W0.heap.size<=U.heap.size:=f.below.size;have ok:=oo (U:=U) ck h C z (Value.slice sa sts.length sc).ownBlock;have u:=(SL ck.pol).1;have B:FF ⟨Cj c,W0,A,q,U.heap.size+2,Bh c.labels.toNat (BK c.labels.toNat c.L),c.labels.toNat,U,(Value.slice sa sts.length sc).ownBlock⟩ sts 0 []:=by
  obtain⟨x,Y,l,i,m⟩:=h.cp.first
  exact⟨x,l,XQ (lW h.cp.ly i) u m⟩
 have I:=SU (kC c) d;have H:=ST (kC c) d;have n:=mT ⟨Cj c,W0,A,q,U.heap.size+2,Bh c.labels.toNat (BK c.labels.toNat c.L),c.labels.toNat,U,(Value.slice sa sts.length sc).ownBlock⟩ ok rfl U rfl rfl (kC c) (w _ ok rfl) (λj=>j<V.heap.size) (Ae t y) d 0 sts sa sc nf 0 mf f h.cp.mv (AB _) h.cp.few rfl B (λj g=>Br g k.size) (s.same (λ_ g=>g) (λj g=>k.block j g)) (by omega) (by omega);have o:ED ⟨Cj c,W0,A,q,U.heap.size+2,Bh c.labels.toNat (BK c.labels.toNat c.L),c.labels.toNat,U,(Value.slice sa sts.length sc).ownBlock⟩=J1 c A:=by
  have p:((c.clr.toNat:Nat):Int)=c.clr:=JX ck.clr.1;unfold ED J1 Cj;dsimp only;rw[p]
 rw[o]at n;refine n.mono ?_;rintro e G ⟨E,F,rfl,l,i,m,D⟩;refine⟨E,F,rfl,⟨⟨i.os.trans f.below.os.symm,i.tape.trans f.below.tape.symm,i.output.trans f.below.output.symm⟩,l,λj a b=>m j a b.1 b.2.1 b.2.2.1 b.2.2.2⟩,D⟩
theorem ot(ck:Ip c)(h:Io c W0 L A q sts sa sc nf mf bv V)(i:EE b W0)(a:A1 V U){t:TypeId}(e:AJ (kC c) V (λj=>j<V.heap.size) (Ae t y) d)(g:BL (kC c) d<=2000000):An Ao 52 #[.agg (J1 c A),Ae t y] U (PZ (Xc A q (Value.slice sa sts.length sc).ownBlock) V.heap.size (kC c) U (B2 (Cj c) (kC c) [] d (0,0,0,0)).2 ((B2 (Cj c) (kC c) [] d (0,0,0,0)).1.getD .nil)):=oq ck (λr ok _ V F x d f R N sts=>Y7 r ok (kC c) V F x d [] f R N sts) h i a e g
theorem ou{F:Nat->Prop}{ba:A5}{bc:Nat}(h:C7 W 3 1 F (A8 ba B.length bc) B.length (B.map (Value.int Ah))):GL W ba B:=by
 refine⟨λi p=>?_⟩;rcases h.2 with⟨_,l⟩|⟨g,k,c,e,_,a,m,n,o,d⟩
 ·omega
 injection e with e1 _ _;refine⟨g,0,e1,(At a),λj f=>?_⟩;rw[Df];refine(Ar a j).trans ?_;have b:(c.toList.take (B.length*1))[j]?=(B.map (Value.int Ah))[j]?:=by rw[d]
 rw[Iv (by omega),GH,AY f]at b;simpa using b
def Fo(c:AN)(l:A2):Cz:=match BB c.inn l c.depth c.bytes with
 |.error e=>.error e
 |.ok d=>.ok ((B2 (Cj c) (kC c) [] d (0,0,0,0)).2,In c.out (kC c) ((B2 (Cj c) (kC c) [] d (0,0,0,0)).1.getD .nil) c.B)
theorem ow(X:Nat->Prop)(k:Nat)(W:Al)(L:Nat)(g:Gt)(B:g.rc.size=40)(a:A5)(c b:Nat)(ay:(Be g (A8 a c b) false).all (·.oneCell')=true)(N:W.heap[L]?=Aj (Af (Be g (A8 a c b) false) 86))(r:Except (Int×Int) (DataW Unit))(aj:∀A pl,r=.error (A,pl)->A≠0)(ab:Cz)(cD:∀U,Below (CQ W L g (A8 a c b)).heap.size (CQ W L g (A8 a c b)) U->An Ao 51 #[A7 Ah g.inF,.agg #[A7 Ah g.depth,A7 Ah g.bytes],A8 a c b] U (IP k U r))(hz:∀e,r=.error e->ab=.error e)(I:∀d,r=.ok d->∃R m,ab=.ok (R,m)/\∀V t y,Below (CQ W L g (A8 a c b)).heap.size (CQ W L g (A8 a c b)) V->AJ k V (λj=>(CQ W L g (A8 a c b)).heap.size<=j/\j<V.heap.size) (Ae t y) d->∀U,A1 V U->An Ao 29 #[A9 (Aj ⟨W.heap.size+1,0,Ak⟩),Ae t y] U (PY X U R m)):An Ao 14 #[A9 (Aj ⟨L,0,Ak⟩)] W (o0 X W L ab):=by
 have hL:=At N;have aq:(W.alloc (Af #[A7 Ah 0,A7 Ah 0,A7 Ah 0,A7 Ah 0] 31)).cell? ⟨L,46,Ak⟩=Aj (Ad false):=(Ar ((AL _ _ _ hL).trans N) 46).trans (IR B _ _ 2);have w:Hid ((W.alloc (Af #[A7 Ah 0,A7 Ah 0,A7 Ah 0,A7 Ah 0] 31)).heap[L]?=Aj (Af (Be g (A8 a c b) false) 86)):=(AL _ _ _ hL).trans N;have C:Hid (((W.alloc (Af #[A7 Ah 0,A7 Ah 0,A7 Ah 0,A7 Ah 0] 31)).alloc (Af (Be g (A8 a c b) false) 86)).heap[L]?=Aj (Af (Be g (A8 a c b) false) 86)):=(AL _ _ _ (by rw[AM];omega)).trans w;have aa:Hid (((W.alloc (Af #[A7 Ah 0,A7 Ah 0,A7 Ah 0,A7 Ah 0] 31)).alloc (Af (Be DX (A8 Ak 0 0) false) 86)).heap[W.heap.size+1]?=Aj (Af (Be DX (A8 Ak 0 0) false) 86)):=by
  have h:=Ay (W.alloc (Af #[A7 Ah 0,A7 Ah 0,A7 Ah 0,A7 Ah 0] 31)) (Af (Be DX (A8 Ak 0 0) false) 86);rw[AM]at h;exact h
 have H:Hid (((W.alloc (Af #[A7 Ah 0,A7 Ah 0,A7 Ah 0,A7 Ah 0] 31)).alloc (Af (Be DX (A8 Ak 0 0) false) 86)).setRow (W.heap.size+1) (Be g (A8 a c b) false)=(W.alloc (Af #[A7 Ah 0,A7 Ah 0,A7 Ah 0,A7 Ah 0] 31)).alloc (Af (Be g (A8 a c b) false) 86)):=by
  have h:=F6 (W.alloc (Af #[A7 Ah 0,A7 Ah 0,A7 Ah 0,A7 Ah 0] 31)) (Be DX (A8 Ak 0 0) false) (Be g (A8 a c b) false) 86;rw[AM]at h;exact h
 have F:Hid ((Be g (A8 a c b) false).size=47):=Mr B _ _;have ah:Hid ((Be DX (A8 Ak 0 0) true).size=47):=Mr T7 _ _;have G:Hid ((Be DX (A8 Ak 0 0) false).size=(Be g (A8 a c b) false).size):=by show _=_;rw[Mr B,Mr T7]
 have x:Hid ((Be g (A8 a c b) false).size=(Be DX (A8 Ak 0 0) true).size):=by show _=_;rw[Mr B,Mr T7]
 have ae:Hid ((Be g (A8 a c b) false).all (·.oneCell')=true):=ay;have af:Hid ((Be DX (A8 Ak 0 0) true).all (·.oneCell')=true):=by show _=_;kernel_rfl
 have v:Hid (CQ W L g (A8 a c b)=((W.alloc (Af #[A7 Ah 0,A7 Ah 0,A7 Ah 0,A7 Ah 0] 31)).alloc (Af (Be g (A8 a c b) false) 86)).setRow L (Be DX (A8 Ak 0 0) true)):=rfl;have u:Hid ((CQ W L g (A8 a c b)).heap[W.heap.size]?=Aj (Af (AZ (0,0,0,0)) 31)):=o8 W L g _ hL;have o:Hid ((CQ W L g (A8 a c b)).heap[L]?=Aj (Af (Be DX (A8 Ak 0 0) true) 86)):=o9 W L g _ N;have am:Hid ((CQ W L g (A8 a c b)).heap.size=W.heap.size+2):=Q0 W L g _;have J:=Xe k (CQ W L g (A8 a c b)) (W.heap.size+1) g B a c b false r (Yr W L g _ hL) cD;have HP:Hid (∀d,r=.ok d->∃R m,ab=.ok (R,m)/\∀V t y,Below (CQ W L g (A8 a c b)).heap.size (CQ W L g (A8 a c b)) V->AJ k V (λj=>(CQ W L g (A8 a c b)).heap.size<=j/\j<V.heap.size) (Ae t y) d->∀U,A1 V U->An Ao 29 #[A9 (Aj ⟨W.heap.size+1,0,Ak⟩),Ae t y] U (PY X U R m)):=I;clear N B cD I ay;have ac:Hid (prog.built 86 [(6,Ad true)]=Aj (Be DX (A8 Ak 0 0) true)):=nZ;obtain⟨p,ap⟩:∃p,Hid (CQ W L g (A8 a c b)=p):=⟨_,rfl⟩
 have ad:Hid (∀V,Cg X (CQ W L g (A8 a c b)) V->Kp X L W V):=λV h=>Kp.of h;rw[ap.out]at v u o am J HP ad;clear ap;have au:L≠W.heap.size:=by omega
 obtain⟨Y,a0⟩:∃Y,Hid (Be g (A8 a c b) false=Y):=⟨_,rfl⟩
 obtain⟨q,D⟩:∃q,Hid (Be DX (A8 Ak 0 0) true=q):=⟨_,rfl⟩
 rw[a0.out]at w C H F G x ae v;rw[D.out]at v o ah x af ac;rcases r with⟨A,pl⟩|d
 ·obtain rfl:=hz _ rfl;have ax:=aj A pl rfl;have e1:(A==0)=false:=by simpa using ax
  have e2:(A != 0)=true:=by simpa using ax
  clear hz aj HP;go_enter func14,ntmps14
  go_wp2_with(first
   |(refine B3 rfl 86 _ rfl L rfl _ _ _ _ w underlying86 rfl (Ms F) ?_)
   |(refine Yq rfl rfl _ rfl (W.heap.size+1) ?hN ?_;case hN=>(simp only[AM,A1];done))
   |(refine Bg rfl 86 _ _ rfl (W.heap.size+1) Y rfl rfl 86 _ aa (Ms F) G ae ?_;rw[H.out];clear aa H)
   |(refine EK rfl 86 _ rfl _ rfl _ [(6,Ad true)] ?hl ac ?_;case hl=>simp[go_sem])
   |(refine Bg rfl 86 _ _ rfl L q rfl rfl 86 _ C (Ms ah) x af ?_;rw[<-v.out];clear aq w C G x v)
   |(go_at_call 28;refine J.mono ?_;clear J;rintro e n ⟨l,hF⟩;obtain rfl:=hF;have K:Hid (Cg X p n):=Cg.of_below l;have E:Hid (n.heap[W.heap.size]?=Aj (Af (AZ (0,0,0,0)) 31)):=(l.block _ (At u)).trans u;have z:Hid (n.heap[L]?=Aj (Af q 86)):=(l.block _ (At o)).trans o;clear l u o)
   |(refine Bg rfl 31 _ _ rfl W.heap.size #[A7 Ah 0,A7 Ah 0,A7 Ah 0,A7 Ah 0] rfl rfl 31 _ E Mj rfl T6 ?_))
  refine Bd (Xf results14 _ _ W.heap.size 31 #[A7 Ah 0,A7 Ah 0,A7 Ah 0,A7 Ah 0] (0,0) _ rfl (B4 _ _ _ _ _ _ E) underlying31 rfl Mj _ _ _ rfl rfl rfl) rfl ?_;exact⟨Ak,0,0,rfl,(ad _ K).set (AB _) _,by rw[D.out];exact(BO _ _ _ _ au).trans z,rfl⟩
 obtain⟨R,m,rfl,av⟩:=HP.out d rfl;have al:Hid (∀V t y,A1 p V->AJ k V (λj=>p.heap.size<=j/\j<V.heap.size) (Ae t y) d->∀U,A1 V U->An Ao 29 #[A9 (Aj ⟨W.heap.size+1,0,Ak⟩),Ae t y] U (PY X U R m)):=av;clear hz aj HP av;obtain⟨f,an⟩:∃f,Hid (SY R m=f):=⟨_,rfl⟩
 obtain⟨T,ak⟩:∃T,Hid (SZ m=T):=⟨_,rfl⟩
 go_enter func14,ntmps14
 go_wp2_with(first
  |(refine B3 rfl 86 _ rfl L rfl _ _ _ _ w underlying86 rfl (Ms F) ?_)
  |(refine Yq rfl rfl _ rfl (W.heap.size+1) ?hN ?_;case hN=>(simp only[AM,A1];done))
  |(refine Bg rfl 86 _ _ rfl (W.heap.size+1) Y rfl rfl 86 _ aa (Ms F) G ae ?_;rw[H.out];clear aa H)
  |(refine EK rfl 86 _ rfl _ rfl _ [(6,Ad true)] ?hl ac ?_;case hl=>simp[go_sem])
  |(refine Bg rfl 86 _ _ rfl L q rfl rfl 86 _ C (Ms ah) x af ?_;rw[<-v.out];clear aq w C G x v)
  |(go_at_call 28;refine J.mono ?_;clear J;rintro e n ⟨l,hF⟩;obtain⟨t,y,rfl,hT⟩:=hF;have I:=al.out n t y l hT n Bb;have K:Hid (Cg X p n):=Cg.of_below l;have E:Hid (n.heap[W.heap.size]?=Aj (Af (AZ (0,0,0,0)) 31)):=(l.block _ (At u)).trans u;have z:Hid (n.heap[L]?=Aj (Af q 86)):=(l.block _ (At o)).trans o;have ao:Hid (W.heap.size<n.heap.size):=by{have h:=l.size;have h2:=am.out;show _<_;omega};clear l u o al hT)
  |(go_at_call 29;refine I.mono ?_;clear I;rintro e i ⟨O,Q,P,rfl,ar,aw⟩;have s:Hid (Ys X W p L i.heap.size f (A8 O Q P) m (i.alloc (Af (AZ f) 31))):=od ao K ar E (by rw[D.out];exact z) aw;clear ar aw K E z ao;rw[an.out,ak.out])
  |(refine Bg rfl 31 _ _ rfl i.heap.size (AZ f) rfl rfl 31 _ (Ay i _) (EY f) rfl (Mq f) ?_;rw[F6]))
 have M:(λZ:Al=>Z.heap[i.heap.size]?=Aj (Af (AZ f) 31)) { (i.alloc (Af (AZ f) 31))with drawn:=(i.alloc (Af (AZ f) 31)).drawn+1}:=s.rep;refine Dr (S:=λZ=>Z.heap[i.heap.size]?=Aj (Af (AZ f) 31)) (by kernel_rfl) ?_;have a1:Hid (Cg X p { (i.alloc (Af (AZ f) 31))with drawn:=(i.alloc (Af (AZ f) 31)).drawn+1}):=s.fr.drew;have ag:Hid (({ (i.alloc (Af (AZ f) 31))with drawn:=(i.alloc (Af (AZ f) 31)).drawn+1}:Al).heap[W.heap.size]?=Aj (Af (AZ (0,0,0,0)) 31)):=s.res;have az:Hid (({ (i.alloc (Af (AZ f) 31))with drawn:=(i.alloc (Af (AZ f) 31)).drawn+1}:Al).heap[L]?=Aj (Af q 86)):=by show _=_;rw[<-D.out];exact s.gate
 have a2:Hid (JJ { (i.alloc (Af (AZ f) 31))with drawn:=(i.alloc (Af (AZ f) 31)).drawn+1} W.heap.size (A8 O Q P) m):=s.val.same λ_ h=>h;have a6:W.heap.size<i.heap.size:=s.lt;clear s;generalize({ (i.alloc (Af (AZ f) 31))with drawn:=(i.alloc (Af (AZ f) 31)).drawn+1}:Al)=w6 at *;generalize i.heap.size=N8 at *;refine Au 0 39 (A8 O Q P) M ?_;refine AD 1 40 (.agg (AZ f)) rfl (λZ hZ=>?y1) M ?_
 case y1=>exact JA 31 (.tmp 11) (by kernel_rfl) N8 (by kernel_rfl) _ _ _ _ hZ underlying31 (by kernel_rfl) (EY f)
 refine Au 2 41 (A7 Ah T) M ?_;refine Au 3 2 (A8 O Q P) M ?_;refine Bc 4 (λa5 hK=>?_);refine IU (by kernel_rfl) ?_;refine IB 31 (.tmp 3) (.tmp 40) rfl W.heap.size (AZ f) (by kernel_rfl) (by kernel_rfl) 31 (AZ (0,0,0,0)) ag (EY f) (Yo _ _) (Mq f) ?_;have ai:(λZ:Al=>Z.heap[N8]?=Aj (Af (AZ f) 31)) (w6.setRow W.heap.size (AZ f)):=sx (by omega) M;refine hK.out _ _ ai (λ_=>?_);clear hK;refine Au 5 4 (A7 Ah T) ai ?_;refine Au 6 5 (A7 Ah 0) ai ?_;refine Bw ?_;go_simp
 go_wp2_with fail
 refine Bd (Xf results14 _ _ W.heap.size 31 (AZ f) (0,0) _ rfl (B4 _ _ _ _ _ _ ag) underlying31 rfl (EY f) _ _ _ rfl rfl rfl) rfl ?_;have a4:=an.out;have a3:=ak.out;subst a4;subst a3;exact⟨O,Q,P,rfl,(ad _ a1).set (AB _) _,by rw[D.out];exact(BO _ _ _ _ au).trans az,a2.same λ_ h=>Yp h ag⟩
theorem qQ{fn:Func}{q:Tmp}{ty ty2:TypeId}(h:fn.results=#[.cell p ty,.cell q ty2])(b:A4)(w:Al)(g i:Nat)(t l:TypeId)(cs c:A4)(j k:Nat×Nat)(d f:TypeDesc)(x:b.getD p undef=A9 (Aj ⟨g,0,Ak⟩))(r:w.heap[g]?=Aj (Af cs t j))(z:P.underlying ty=Aj d)(n:(match d with|.struct _|.array _ _=>true|_=>false)=true)(hi:(P.info? ty).map (·.size)=Aj cs.size)(y:b.getD q undef=A9 (Aj ⟨i,0,Ak⟩))(s:w.heap[i]?=Aj (Af c l k))(A:P.underlying ty2=Aj f)(o:(match f with|.struct _|.array _ _=>true|_=>false)=true)(u:(P.info? ty2).map (·.size)=Aj c.size):(results fn b).run P w=.ok (Ab #[.agg cs,.agg c]) w:=by
 have e:(results fn b).run P w=((asAddr (b.getD p undef)).run P w).andThen λa C=>((loadVar ty a).run P C).andThen λv D=>((asAddr (b.getD q undef)).run P D).andThen λm E=>((loadVar ty2 m).run P E).andThen λB F=>.ok (Ab #[v,B]) F:=by
  simp only[results,h];simp[D8,Result.andThen]
 rw[e,x,y];simp only[asAddr,E4,Dl,FZ w g t ty cs j d r z n hi,FZ w i l ty2 c k f s A o u]
theorem U0(W:Al)(a v:Int)(b:UInt8)(e:(a=0/\v=246)\/(a=1/\v=244)\/(a=2/\v=245))(c:(b.toNat:Int)=v):An Ao 39 #[.agg (Ax a 0 ⟨#[]⟩ AK AK)] W (FX [b] W):=by
 have d:=ZP (W.alloc (Af (Ax a 0 ⟨#[]⟩ AK AK) 62)) v b c.symm;rw[show(W.alloc (Af (Ax a 0 ⟨#[]⟩ AK AK) 62)).heap.size=W.heap.size+1 by simp]at d;unfold Ax AK at *;rcases e with⟨rfl,rfl⟩|⟨rfl,rfl⟩|⟨rfl,rfl⟩
 all_goals
  go_enter func39,ntmps39;go_wp2;go_ret;exact⟨rfl,(AH).alloc (by simp) _⟩
theorem rT(W:Al)(z:Int)(i : -9223372036854775808<=z)(j:z<=9223372036854775807):An Ao 39 #[.agg (Ax 3 z ⟨#[]⟩ AK AK)] W (FX (GR z) W):=by
 obtain⟨R,a⟩:∃R,Hid (GR z=R):=⟨_,show _=_ from rfl⟩
 have d:Hid (Ft W (Ax 3 z ⟨#[]⟩ AK AK) (W.alloc (Af (Ax 3 z ⟨#[]⟩ AK AK) 62))):=Ok _ _;by_cases f:z<0
 ·have c:∀V,An Ao 63 #[A7 Ah 1,A7 Ah (-1-z)] V (FX R V):=λV=>by
   have h:=MK V 1 (-1-z).toNat (by decide) (by omega);rw[show(((-1-z).toNat:Nat):Int) = -1-z by omega]at h;rw[<-a.out];unfold GR;rw[As f];exact h
  rw[a.out];unfold Ax AK at *;go_enter func39,ntmps39
  go_wp2_with(first|(go_at_call 63;refine(c _).mono ?_;rintro e g ⟨rfl,b⟩))
  go_ret;exact⟨rfl,(d.next b).below⟩
 have c:∀V,An Ao 63 #[A7 Ah 0,A7 Ah z] V (FX R V):=λV=>by
  have h:=MK V 0 z.toNat (by decide) (by omega);rw[show((z.toNat:Nat):Int)=z by omega]at h;rw[<-a.out];unfold GR;rw[Aq f];exact h
 rw[a.out];unfold Ax AK at *;go_enter func39,ntmps39
 go_wp2_with(first|(go_at_call 63;refine(c _).mono ?_;rintro e g ⟨rfl,b⟩))
 go_ret;exact⟨rfl,(d.next b).below⟩
theorem ZR(W:Al)(l:A2)(o:l.length<=999999999):An Ao 39 #[.agg (Ax 4 0 ⟨l.toArray⟩ AK AK)] W (FX (AO 3 l.length++l) W)/\An Ao 39 #[.agg (Ax 5 0 ⟨l.toArray⟩ AK AK)] W (FX (AO 2 l.length++l) W):=by
 have f:∀k,Hid (Ft W (Ax k 0 ⟨l.toArray⟩ AK AK) (W.alloc (Af (Ax k 0 ⟨l.toArray⟩ AK AK) 62))):=λk=>Ok _ _;have c:=λV s (m:s<=7)=>MK V s l.length m (by omega);have g:∀s,¬((AO s l.length).length+l.length>9223372036854775807):=λs=>by
  have:(AO s l.length).length<=9:=by
   unfold AO
   repeat' split
   all_goals simp[Qp]
  omega
 constructor
 ·replace f:=f 4
  replace c:=λV=>c V 3 (by decide)
  replace g:=g 3
  unfold Ax AK at *;go_enter func39,ntmps39
  go_wp2_with fail
  generalize W.alloc (Af #[A7 Ah 4,A7 Ah 0,Aa ⟨l.toArray⟩,A8 Ak 0 0,A8 Ak 0 0] 62)=V0 at *;refine Cp (S:=Ft W #[A7 Ah 4,A7 Ah 0,Aa ⟨l.toArray⟩,A8 Ak 0 0,A8 Ak 0 0]) f.drew (by kernel_rfl) ?_;intro a;refine Au 0 35 (A9 (Aj ⟨W.heap.size,2,Ak⟩)) a ?_;refine AD 1 36 (Aa ⟨l.toArray⟩) rfl (λZ b=>?y1) a ?_
  case y1=>(have j:=Ar b.box 2;go_simp)
  refine AD 2 37 (A7 Ah l.length) rfl (λZ b=>?y2) a ?_
  case y2=>go_simp
  refine Au 4 39 (A9 (Aj ⟨W.heap.size,2,Ak⟩)) a ?_;refine AD 5 40 (Aa ⟨l.toArray⟩) rfl (λZ b=>?y3) a ?_
  case y3=>(have j:=Ar b.box 2;go_simp)
  refine Bc 3 (λK i=>?_);go_simp;refine(c _).mono ?_;rintro e n ⟨rfl,h⟩;have d:=a.next h
  refine i.out _ _ d (λ_=>?_);refine AD 6 41 (BU (AO 3 l.length++l)) rfl (λZ b=>?y4) d ?_
  case y4=>(unfold BU;go_simp;exact KB _ _)
  refine Au 7 2 (BU (AO 3 l.length++l)) d ?_;refine Bw ?_;go_wp2;go_ret;exact⟨rfl,d.below⟩
 replace f:=f 5
 replace c:=λV=>c V 2 (by decide)
 replace g:=g 2
 unfold Ax AK at *;go_enter func39,ntmps39
 go_wp2_with fail
 generalize W.alloc (Af #[A7 Ah 5,A7 Ah 0,Aa ⟨l.toArray⟩,A8 Ak 0 0,A8 Ak 0 0] 62)=V0 at *;refine Cp (S:=Ft W #[A7 Ah 5,A7 Ah 0,Aa ⟨l.toArray⟩,A8 Ak 0 0,A8 Ak 0 0]) f.drew (by kernel_rfl) ?_;intro a;refine Au 0 44 (A9 (Aj ⟨W.heap.size,2,Ak⟩)) a ?_;refine AD 1 45 (Aa ⟨l.toArray⟩) rfl (λZ b=>?y1) a ?_
 case y1=>(have j:=Ar b.box 2;go_simp)
 refine AD 2 46 (A7 Ah l.length) rfl (λZ b=>?y2) a ?_
 case y2=>go_simp
 refine Au 4 48 (A9 (Aj ⟨W.heap.size,2,Ak⟩)) a ?_;refine AD 5 49 (Aa ⟨l.toArray⟩) rfl (λZ b=>?y3) a ?_
 case y3=>(have j:=Ar b.box 2;go_simp)
 refine Bc 3 (λK i=>?_);go_simp;refine(c _).mono ?_;rintro e n ⟨rfl,h⟩;have d:=a.next h
 refine i.out _ _ d (λ_=>?_);refine AD 6 50 (BU (AO 2 l.length++l)) rfl (λZ b=>?y4) d ?_
 case y4=>(unfold BU;go_simp;exact KB _ _)
 refine Au 7 2 (BU (AO 2 l.length++l)) d ?_;refine Bw ?_;go_wp2;go_ret;exact⟨rfl,d.below⟩
theorem rU(k:Nat)(W:Al)(F:Nat->Prop)(u:Am)(xs:List Am)(ds:List (DataW Unit))(f:A3->A2)(hF:∀j,F j->j<W.heap.size)(hr:C7 W 62 5 F u ds.length xs)(A:∀(i:Nat) (d:A3),ds[i]?=Aj d->∃a,FH xs i a/\BG k W F (.agg a) d)(N:(AO 4 ds.length++ds.flatMap f).length<=999999999)(ih:∀(V:Al) (a:A4) (d:A3),(∀j,F j->j<V.heap.size)->BG k V F (.agg a) d->(f d).length<=999999999->An Ao 39 #[.agg a] V (FX (f d) V)):An Ao 39 #[.agg (Ax 6 0 ⟨#[]⟩ AK u)] W (FX (AO 4 ds.length++ds.flatMap f) W):=by
 obtain⟨O,a,D,rfl,P⟩:=ZQ hr;have l:Hid (Ft W (Ax 6 0 ⟨#[]⟩ AK (A8 a ds.length D)) (W.alloc (Af (Ax 6 0 ⟨#[]⟩ AK (A8 a ds.length D)) 62))):=Ok _ _;have c:=λV=>MK V 4 ds.length (by decide) O;obtain⟨n,L⟩:∃n,ds.length=n:=⟨_,rfl⟩
 obtain⟨b,I⟩:∃b,Hid (AO 4 ds.length=b):=⟨_,show _=_ from rfl⟩
 have Q:Hid (∀i,i<n->∃d g v z s t w x y B C,ds[i]?=Aj d/\a=Aj ⟨g,0,Ak⟩/\(∀V,A1 W V->(V.cell? ⟨g,i*5,Ak⟩=Aj (A7 Ah v)/\V.cell? ⟨g,i*5+1,Ak⟩=Aj (A7 Ah z)/\V.cell? ⟨g,i*5+2,Ak⟩=Aj (.string s)/\V.cell? ⟨g,i*5+3,Ak⟩=Aj (A8 t w x)/\V.cell? ⟨g,i*5+4,Ak⟩=Aj (A8 y B C))/\An Ao 39 #[.agg #[A7 Ah v,A7 Ah z,.string s,A8 t w x,A8 y B C]] V (FX (f d) V))):=λi hi=>by
  obtain⟨d,m⟩:∃d,ds[i]?=Aj d:=⟨_,AY (by omega)⟩
  obtain⟨ad,hs,K⟩:=A i d m;obtain⟨v,z,s,t,w,x,y,B,C,e⟩:=K.shape;injection e with e;subst e;obtain⟨g,U,r,q⟩:=P i _ (by omega) hs;have aa:(f d).length<=999999999:=by
   have E:=Qq f ds i d m;have X:=Qr f ds (i+1);rw[E,AC]at X;rw[AC]at N;omega
  refine⟨d,g,v,z,s,t,w,x,y,B,C,m,U,λV G=>⟨?_,ih V _ d (λj H=>Br (hF j H) G.size) (K.same (λ_ h=>h) (λj H=>G.block j (hF j H))) aa⟩⟩;have p:=G.block g (hF g r);exact⟨q V p 0 (by decide),q V p 1 (by decide),q V p 2 (by decide),q V p 3 (by decide),q V p 4 (by decide)⟩
 have R:Hid (∀i,(b++(ds.take i).flatMap f).length<=999999999):=λi=>by
  have:=Qr f ds i;rw[<-I.out];rw[AC]at N ⊢;omega
 have T:Hid (ds.flatMap f=(ds.take n).flatMap f):=by show _=_;rw[<-L,K0]
 rw[T.out];rw[I.out]at c ⊢;rw[L]at c l O ⊢;have S:Hid (∀i d,ds[i]?=Aj d->b++(ds.take (i+1)).flatMap f=(b++(ds.take i).flatMap f)++f d):=λi d m=>by rw[Qq f ds i d m,CE]
 unfold Ax AK at *;go_enter func39,ntmps39
 go_wp2_with(first|(go_at_call 63;refine(c _).mono ?_;rintro e w2 ⟨rfl,Y⟩;unfold BU))
 go_loopg[3,4] n (λg zs zi wr=>∃(i:Nat) (o:A2),zs=Aa ⟨o.toArray⟩/\zi=A7 Ah i/\Hid (i+g=n)/\Hid (o=b++(ds.take i).flatMap f)/\Hid (Ft W #[A7 Ah 6,A7 Ah 0,Aa ⟨#[]⟩,A8 Ak 0 0,A8 a n D] wr))
 case atStart=>exact⟨0,b,rfl,rfl,by show _=_;omega,by show _=_;simp,l.next Y⟩
 case round =>
  obtain⟨i,o,rfl,rfl,r,M,l⟩:=hrel;have c4:=Ar l.box 4
  cases gk with
  |zero =>
   obtain rfl:i=n:=r.out;have ac:¬(i:Int)<(i:Int):=by omega
   go_wp2;go_ret;rw[<-M.out];exact⟨rfl,l.below⟩
  |succ g =>
   have ab:i<n:=by have:=r.out;omega
   have ac:(i:Int)<(n:Int):=by omega
   obtain⟨d,gb,v,z,s,t,w,x,y,B,C,m,rfl,hk⟩:=Q.out i ab;obtain⟨⟨k0,k1,k2,k3,k4⟩,ck⟩:=hk _ l.below;have J:Hid (b++(ds.take (i+1)).flatMap f=o++f d):=by show _=_;rw[S.out i d m,<-M.out]
   have ae:¬(o.length+(f d).length>9223372036854775807):=by
    have E:=R.out (i+1);rw[J.out,AC]at E;omega
   go_wp2_with(first|(go_at_call 39;refine ck.mono ?_;rintro e w3 ⟨rfl,Z⟩;unfold BU))
   go_roundg g
   case measure=>omega
   case rel=>exact⟨i+1,o++f d,by rw[<-KB],by go_num,by show _=_;have:=r.out;omega,J.symm,l.next Z⟩
end
end Go.Proofs.YtoegnhgofkhbnaaGreatDoor
