import Derived.Test.YtihfjkjbfaneeaaGreatDoorGq07
set_option maxRecDepth 100000
set_option maxHeartbeats 8000000
set_option linter.all false
namespace Go.Proofs.YtihfjkjbfaneeaaGreatDoor
open Go.Proofs.Tryz
open _root_ renaming Nat->I,Int->J
open Go.Value renaming int->C,slice->T
open _root_.List renaming length->O
open Go.World renaming heap->U
open _root_.Array renaming size->K
open Go.IntKind renaming i64->Y
open Go.RowKit renaming Hid->D
open Go renaming World->X
open Option renaming some->H
open Go.Obj renaming cells->M
open Go.Value renaming int->Ab,slice->Ac,string->Ae,tuple->Af,agg->Ag,bool->Ah,iface->Ai,ownBlock->Ax
open Go.Ending renaming returned->Ak
open Option renaming some->An,none->Ao
open Go renaming DataW->AM,TypeId->AN,undef->AO,World->Ap,Value->Aq,Calls->Ar
open Go.Proofs.Tryz renaming prog->As
open _root_.List renaming replicate->AV,length->At,toArray->Aw
open _root_.Array renaming size->Au,setIfInBounds->Ay
open Go.World renaming setCell->AB,cell?->AC,setRow->AD,heap->Av,alloc->Az
open Go.RowKit.Hid renaming out->AE
open Or renaming inl->AF,inr->AG
open _root_ renaming Nat->AH,Int->AI,List->AJ,Bool->AK,Except->AS,ByteArray->AT,UInt8->AU
open _root_.Bool renaming true->AP,false->AQ
open _root_.Decidable renaming decide->AR
open _root_.UInt8 renaming ofNat->AW
variable{P:Program}{V V' W W' w w':X}{a pa:A4}{B N b base bytes cap fuel g g2 i k lo m n p so x y:I}{c:Rc}{d depth fm l lim pl q z:J}{o:AK}{acc bs cur s t ys:A1}{e ty:AN}{cv v v' v2:Aq}{xs:AJ Aq}{ops:Array Oper}{rest:AJ Oper}{Q:Exit->Act->X->Prop}{F:I->Prop}{r:AS (J×J) (I×I×I×I)}{fn:Func}{A cs tmps:A3}{md:Region.Mode}{S:X->Prop}{R:Cu}{f:I->AK}{rd rd':I->AS (J×J) (AM Unit×I)}{ss:AJ A1}{es:AJ (Lit×AM Unit)}{sts:AJ ((I->I)×J×J)}{ps:AJ (A1×AK)}{rs:AJ (AJ A1×J×J)}
section
open Go.RowKit
structure Pg(w:World)(a:A4)(n:Nat)(h:Nat->In):Prop where
 at_:∀k,k<n->∃b off,a=some ⟨b,off,none⟩/\b<w.heap.size/\∀k j,k<n->j<7->w.cell? ⟨b,off+k*7+j,none⟩=(h k).arr[j]?
 a1:∀k,k<n -> -9223372036854775808<=(h k).a/\(h k).a<=9223372036854775807
theorem Pg.below{g:I->In}(h:Pg w a n g)(hb:A0 w w'):Pg w' a n g :=
 ⟨λk c=>by obtain⟨b,off,f,d,e⟩:=h.at_ k c;exact⟨b,off,f,CK d hb.size,λk j c i=>(hb.cell (p:=⟨b,_,Ao⟩) d).trans (e k j c i)⟩,h.a1⟩
end
section
open Go.RowKit Go.Lib
def Jm(w w':Ap)(c:Aq):Prop:=Au (Av w)<=Au (Av w')/\∀(g:AH) (cur:A3) (t:AN) (fr:AH×AH),w.heap[g]?=An (.cells cur t fr)->∃cur',w'.heap[g]?=An (.cells cur' t fr)/\cur'.size=cur.size/\∀j:AH,cur'[j]?=cur[j]?\/(j<cur.size/\cur'[j]?=An c)
theorem Sq{c:Aq}(d:K (U w)<=K (U w'))(h:∀j,j<K (U w)->w'.heap[j]?=w.heap[j]?):Jm w w' c :=
 ⟨d,λg b _ _ a=>⟨b,(h g (Cc a)).trans a,rfl,λ_=>AF rfl⟩⟩
theorem Jm.trans{a b d:X}{c:Aq}(e:Jm a b c)(f:Jm b d c):Jm a d c:=by refine⟨Cy e.1 f.1,λg i t fr k=>?_⟩;obtain⟨h,j,l,m⟩:=e.2 g i t fr k;obtain⟨c2,f1,n,o⟩:=f.2 g h t fr j;grind
theorem QA{o:Obj}{c:Aq}:Jm w (Az w o) c:=Sq Ba (λj a=>Cx _ _ _ a)
theorem ou{t:AN}{i:TypeInfo}{z:Aq}(r:P.underlying t=H (.slice e))(hi:P.info? e=H i)(y:i.zero=H z)(x:i.size=1)(B:i.bytes=bytes)(s:w.ownsRow base e 1 v n xs){a:Addr}{c:I}(q:∀j u,(AV m cv)[j]?=H u->AC w (a.add j)=H u)(h1:cv.oneCell'=AP)(R:0<m)(ab:n+m<=maxLen)(F:(n+m)*bytes<=140737488355328)(b:(Builtin.append_ #[t,t] ty #[v,T (H a) m c]).run P w=.ok v' w'):Jm w w' cv:=by
 subst B;have ag:n+m<=9223372036854775807:=By;have p:O (AV m cv)=m*i.size:=by rw[x];simp
 rcases s.2 with⟨rfl,rfl⟩|⟨g,f,k,rfl,ac,l,af,ae,L,ah⟩
 .have d:=run_append_nil (P:=P) w t ty e i z r hi y a m c _ p q R E B9;rw[d]at b;injection b with e1 e2;rw[<-e2];exact Sq Ba (λj o=>Cx w.drew _ j o)
 by_cases V:n+m<=f
 .have N:n*i.size+O (AV m cv)<=k.size:=B9;have d:=run_append_room (P:=P) w t ty e i r hi g n f k l a m c _ p q (λu hu=>B9) V N;rw[d]at b;injection b with e1 e2;rw[<-e2,x];refine⟨Ba,λA W t' aa h=>?_⟩;by_cases Q:A=g
  .subst Q;rw[l]at h;injection h with h;injection h with h3 h4 h5;subst h3;subst h4;subst h5;have ad:O k.toList=f:=keA;refine⟨_,CM _ _ _ _ _ _ l,?_,λj=>?_⟩<;>grind
  grind [setRow_other]
 have S:=s.cells (g:=g) Z;have d:=run_append_grow (P:=P) w t ty e i z r hi y ⟨g,0,Ao⟩ n f xs B9 S a m c _ p q E E (growslice_fits E F);rw[d]at b;injection b with e1 e2;rw[<-e2];exact Sq Ba (λj o=>Cx w.drew _ j o)
theorem VC{o:Oper}{a:Act}(ab:o.guard=Ao){s x:Operand}{t:AN}(ho:o.op=.call {callee:=.builtin .append,args:=#[s,x],argTypes:=#[t,t]}){i:TypeInfo}{z:Aq}(y:P.underlying t=H (.slice e))(hi:P.info? e=H i)(A:i.zero=H z)(r:i.size=1)(g:i.bytes=bytes)(ac:z.cells.size=1)(hs:a.eval s=v)(p:w.ownsRow base e 1 v n (AV n cv)){ad:Addr}(c:I)(hx:a.eval x=T (H ad) m c)(l:∀j u,(AV m cv)[j]?=H u->AC w (ad.add j)=H u)(R:cv.oneCell'=AP)(L:0<m)(f:n+m<=maxLen)(k:(n+m)*bytes<=140737488355328)(aa:base<=K (U w))(h:∀b d,d.ownsRow base e 1 b (n+m) (AV (n+m) cv)->Jm w d cv->w.grownBy d (Ax v)->(Ax b=Ax v\/Ax b=H (K (U w)))->wpList P ops Q rest (a.put o.dst b) d):wpList P ops Q (o::rest) a w:=by refine Lg ab λae hK=>?_;have F:O (AV m cv)=m*1:=Ba;have N:∀u∈AV m cv,u.oneCell'=AP:=λu hu=>B9;obtain⟨b,d,q,B,S,_⟩:=Qk (P:=P) w base t o.type e i z 1 bytes y hi A r g ac B8 v n _ p ad m c _ F l N f k aa;have V:=VB y hi A r g p F l N L f k q;have W:=ou y hi A r g p l R L f k q;rw[Yv]at B;unfold Oper.wp execOp;simp only[ho,resolve,invoke,builtin,Ig,Ga,FT,NW,GO,Lh,hs,hx,q];exact hK _ _ (h b d B W S V)
def Hr(V:Ap)(v c:Aq)(lo:AH):Prop:=∃a n cap,v=Ac a n cap/\(n=0\/∃g cur,a=Aa g/\lo<=g/\V.heap[g]?=An (.cells cur 5 (0,0))/\n<=cur.size/\∀j,j<n->cur[j]?=An c)
theorem Hr.marks{c:Aq}(h:Hr V v c lo)(f:Jm V V' c):Hr V' v c lo:=by
 obtain⟨a,n,b,rfl,h⟩:=h;refine⟨a,n,b,Z,?_⟩;rcases h with h|⟨g,d,m,o,e,p,q⟩
 .exact AF h
 obtain⟨i,j,k,l⟩:=f.2 g d _ _ e;grind
theorem Hr.own{c:Aq}(h:V.ownsRow lo 5 1 v n (AV n c)):Hr V v c lo:=by
 rcases h.2 with⟨rfl,rfl⟩|⟨g,b,a,rfl,d,f,i,k,l,m⟩
 .exact⟨Ao,0,0,Z,AF Z⟩
 refine⟨_,n,b,Z,AG ⟨g,a,Z,d,f,E,λj o=>?_⟩⟩;have e:(a.toList.take (n*1))[j]?=H c:=B9;grind
theorem Pq{c:Aq}(h:V.ownsRow lo 5 1 v n (AV n c))(m:Jm V V' c):V'.ownsRow lo 5 1 v n (AV n c):=by
 refine⟨h.1,?_⟩;rcases h.2 with a|⟨g,b,d,e,j,a,k,l,q,r⟩
 .exact AF a
 obtain⟨f,i,o,p⟩:=m.2 g d _ _ a;refine AG ⟨g,b,f,e,j,i,k,l,E,?_⟩;apply UD;grind
def E7(n:AH):AH:=200+n/4%50
theorem VD(b:n<=9223372036854775807):Ar As 16 #[C Y n] W λe a=>e=Ak (C .u8 (E7 n))/\a=W:=by
 go_enter func16,ntmps16;go_wp2;go_ret;refine⟨?_,Z⟩;have e:(200+(n:J)/4%50)=((E7 n:I):J):=by unfold E7;omega
 rw[<-e];rfl
theorem Tryz.infoBs:(prog.info? 50).map (λi=>(i.zero,i.size,i.bytes))=H (H (T Ao 0 0),1,24):=B6
structure Sr(B b0:Nat)(cs gv lv:Value)(N:Nat)(xs:List Value)(V:World):Prop where
 wd:V.heap[B]?=some (.cells #[cs,gv,lv] 31)
 row:V.ownsRow b0 50 1 lv N xs
 ne:∀g,lv.ownBlock=some g->g≠B
structure Ds(W V:World)(X:Nat->Prop):Prop where
 os:V.os=W.os
 tape:V.tape=W.tape
 output:V.output=W.output
 size:W.heap.size<=V.heap.size
 block:∀j,j<W.heap.size->¬X j->V.heap[j]?=W.heap[j]?
theorem Ds.refl(W:Ap)(X:I->Prop):Ds W W X:=⟨rfl,rfl,rfl,Co _,λ_ _ _=>rfl⟩
theorem Ds.next{W V V':Ap}{X:I->Prop}(h:Ds W V X)(a:Ds V V' X):Ds W V' X:=⟨a.os.trans h.os,a.tape.trans h.tape,a.output.trans h.output,Cy h.size a.size,λj b c=>(a.block j (CK b h.size) c).trans (h.block j b c)⟩
theorem M9{W V:Ap}{X Y:I->Prop}(h:Ds W V X)(c:∀g,X g->Y g):Ds W V Y:=⟨h.os,h.tape,h.output,h.size,λj a b=>h.block j a (λh=>b (c j h))⟩
theorem Ls{W V:Ap}{X:I->Prop}(h:A0 W V):Ds W V X:=⟨h.os,h.tape,h.output,h.size,λj a _=>h.block j a⟩
theorem QB{W V:Ap}{X:I->Prop}{o:Obj}{r:Option I}(h:(Az W o).grownBy V r)(b:∀g,r=H g->g<K (U W)->X g):Ds W V X :=
 ⟨h.os,h.tape,h.output,by have:=h.size;simp at this;omega,λj a c=>(h.block j B7 (λe=>c (b j e.symm a))).trans (Cx _ _ _ a)⟩
theorem Ss{W:Ap}{X:I->Prop}(hx:X g):Ds W (AB W ⟨g,k,Ao⟩ v) X:=⟨rfl,rfl,rfl,Bd,λj _ a=>CY W _ _ _ B9⟩
theorem cm{P:Program}{fn:Func}{p q:Tmp}{ty ty2:AN}(h:fn.results=#[.cell p ty,.cell q ty2]){tmps:A3}{w:X}{g g2:I}{t t2:AN}{cs cs2:A3}{fr fr2:I×I}{d d2:TypeDesc}(l:tmps.getD p AO=A8 g)(i:w.heap[g]?=H (M cs t fr))(n:P.underlying ty=H d)(c:(match d with|.struct _|.array _ _=>AP|_=>AQ)=AP)(hi:(P.info? ty).map (·.size)=H cs.size)(m:tmps.getD q AO=A8 g2)(j:w.heap[g2]?=H (M cs2 t2 fr2))(o:P.underlying ty2=H d2)(f:(match d2 with|.struct _|.array _ _=>AP|_=>AQ)=AP)(k:(P.info? ty2).map (·.size)=H cs2.size):(results fn tmps).run P w=.ok (Af #[.agg cs,.agg cs2]) w:=by have e:(results fn tmps).run P w=((asAddr (tmps.getD p AO)).run P w).andThen λa s=>((loadVar ty a).run P s).andThen λv u=>((asAddr (tmps.getD q AO)).run P u).andThen λb x=>((loadVar ty2 b).run P x).andThen λr y=>.ok (Af #[v,r]) y:=Bk;rw[e,l,m];simp only[asAddr,Ga,FT,Jd w g t ty cs fr d i n c hi,Jd w g2 t2 ty2 cs2 fr2 d2 j o f k]
def CZ(k n q:AI)(o:AK):A3:=#[Ab .i64 k,Ab .i64 n,Ab .i64 q,Ah o]
theorem r9:(prog.info? 237).map (·.size)=H 4:=B6
theorem SV{k n:J}:(prog.info? 237).map (·.size)=H (CZ k n q o).size:=r9
theorem rf{k n:J}:(CZ 0 0 0 AQ).size=(CZ k n q o).size:=rfl
theorem co{k n:J}:(CZ k n q o).all (·.oneCell')=AP:=by simp[CZ,Value.oneCell']
theorem rg{o:Oper}{a:Act}(d:o.guard=Ao)(e:o.op=.store 237 (.tmp x) (.tmp y)){k n:J}{b:AK}(hx:a.eval (.tmp x)=A8 g)(hy:a.eval (.tmp y)=.agg (CZ k n q b))(c:A7 w g (CZ 0 0 0 AQ) 237)(h:wpList As ops Q rest (a.put o.dst AO) (AD w g (CZ k n q b))):wpList As ops Q (o::rest) a w :=
 Db d _ _ _ e g _ hx hy _ _ c (SV) (rf) (co) h
theorem rh{p q:Tmp}{k n:J}{b:AK}{F:J×J}(h:fn.results=#[.cell p 237,.cell q 103])(a:A7 w g (CZ k n z b) 237)(c:A7 w g2 (Cd F) 103)(d:tmps.getD p AO=A8 g)(e:tmps.getD q AO=A8 g2):(results fn tmps).run As w=.ok (Af #[.agg (CZ k n z b),.agg (Cd F)]) w :=
 cm h d a underlying237 rfl (SV) e c underlying103 rfl (Ke)
theorem sH{listed:Array AK}{a:Act}(i x y:I){k n:J}{b:AK}(e:(Region.ready md ops listed,ops[i]?.map λo=>(Region.wanted o (yielded ops a.tmps),o.op,o.dst),a.eval (.tmp x),a.eval (.tmp y))=([i],H (AP,.store 237 (.tmp x) (.tmp y),Ao),A8 g,.agg (CZ k n q b)))(d:A7 w g (CZ 0 0 0 AQ) 237)(c:S (AD w g (CZ k n q b)))(h:wpAnyH As md ops Q S fuel (Ay listed i AP) a (AD w g (CZ k n q b))):wpAnyH As md ops Q S (fuel+1) listed a w:=by grind [QM,SV,co]
theorem Jt{p q:Tmp}{A:Act}{k n:J}{b:AK}{F:J×J}{R:Ending->X->Prop}{B:Prop}(h:fn.results=#[.cell p 237,.cell q 103])(a:A7 w g (CZ k n z b) 237/\A7 w g2 (Cd F) 103/\B)(d:A.tmps.getD p AO=A8 g)(e:A.tmps.getD q AO=A8 g2)(c:A.defers=[])(f:R (Ak (Af #[.agg (CZ k n z b),.agg (Cd F)])) w):bodyPost As fn R .ret A w:=CL (rh h a.1 a.2.1 d e) c f
theorem ri{k n:J}{t:AN}{fr:I×I}(h:V.heap[g]?=H (M (CZ k n q o) t fr)):A6 V g 0 (C Y k)/\A6 V g 1 (C Y n)/\A6 V g 2 (C Y q)/\A6 V g 3 (Ah o):=⟨Cb h 0,Cb h 1,Cb h 2,Cb h 3⟩
structure J3(W:World)(A:A3)(V:World):Prop where
 box:V.heap[W.heap.size]?=some (.cells A 115)
 hd:V.heap[W.heap.size+1]?=some (.cells (CZ 0 0 0 false) 237)
 flt:V.heap[W.heap.size+2]?=some (.cells (Cd (0,0)) 103)
 below:A0 W V
theorem J3.next(h:J3 W A V)(hb:A0 V V'):J3 W A V' :=
 ⟨(hb.block _ (Cc h.box)).trans h.box,(hb.block _ (Cc h.hd)).trans h.hd,(hb.block _ (Cc h.flt)).trans h.flt,h.below.trans (hb.mono h.below.size)⟩
theorem J3.drew(h:J3 W A V):J3 W A V.drew:=⟨h.box,h.hd,h.flt,h.below.drew⟩
theorem J3.size(h:J3 W A V):K (U W)+3<=K (U V):=Cc h.flt
theorem rj:J3 W A (Az (Az (Az W (M A 115)) (M (CZ 0 0 0 AQ) 237)) (M (Cd (0,0)) 103)) :=
 ⟨((Cx _ _ _ B7).trans (Cx _ _ _ Ba)).trans (Cj _),(Cx _ _ _ Ba).trans (B2 (Cj (Az W (M A 115)) (o:=(M (CZ 0 0 0 AQ) 237)))),B2 (Cj (Az (Az W (M A 115)) (M (CZ 0 0 0 AQ) 237)) (o:=(M (Cd (0,0)) 103))),((Cl).alloc Ba _).alloc B7 _⟩
theorem zH{o:Oper}{a:Act}(x:I)(d:o.guard=Ao)(e:o.op=.store 237 (.tmp x) (.tmp y))(g:I)(k n q:J)(b:AK)(c:a.eval (.tmp x)=A8 g/\a.eval (.tmp y)=.agg (CZ k n q b)/\A7 w g (CZ 0 0 0 AQ) 237)(h:wpList As ops Q rest (a.put o.dst AO) (AD w g (CZ k n q b))):wpList As ops Q (o::rest) a w:=rg d e c.1 c.2.1 c.2.2 h
theorem J3.ck{f:FuncId}{args:A3}{r:Ending}{Q:Ending->X->Prop}(h:J3 W (Cp bs fm d l) V)(c:Ar P f args V λe a=>e=r/\A0 V a)(k:∀w,D (J3 W (Cp bs fm d l) w)->AC w ⟨K (U W),0,Ao⟩=(#[Ae ⟨Aw bs⟩,C Y fm,C Y d,C Y l]:A3)[0]?->AC w ⟨K (U W),1,Ao⟩=(#[Ae ⟨Aw bs⟩,C Y fm,C Y d,C Y l]:A3)[1]?->AC w ⟨K (U W),2,Ao⟩=(#[Ae ⟨Aw bs⟩,C Y fm,C Y d,C Y l]:A3)[2]?->AC w ⟨K (U W),3,Ao⟩=(#[Ae ⟨Aw bs⟩,C Y fm,C Y d,C Y l]:A3)[3]?->Q r w):Ar P f args V Q:=DW c h.next (λ_ h=>h.box) k
theorem Km(W:X)(bs:A1)(fm d l:J):D (J3 W (Cp bs fm d l) (Az (Az (Az W (M #[Ae ⟨Aw bs⟩,C Y fm,C Y d,C Y l] 115)) (M #[C Y 0,C Y 0,C Y 0,Ah AQ] 237)) (M #[C Y 0,C Y 0] 103))):=rj
theorem J3.fin(h:J3 W A V)(y:A3)(x:J×J):(AD (AD V (K (U W)+1) y) (K (U W)+2) (Cd x)).heap[K (U W)+1]?=H (M y 237)/\(AD (AD V (K (U W)+1) y) (K (U W)+2) (Cd x)).heap[K (U W)+2]?=H (M (Cd x) 103)/\A0 W (AD (AD V (K (U W)+1) y) (K (U W)+2) (Cd x)):=by
 refine⟨?_,?_,Dj (Dj h.below E) E⟩
 .rw[Dg _ _ _ _ E];exact CM _ _ _ _ _ _ h.hd
 exact CM _ _ _ _ _ _ (sx E h.flt)
def SW(R:A5 AH)(nv:AI)(ov:AK)(F:AI×AI):Prop :=
 0<=nv/\nv<=9223372036854775807/\(∀x q,R=.ok (x,q)->F=(0,0)/\nv=min (x:AI) 9223372036854775807/\ov=AR (9223372036854775807<x))/\(∀f,R=.error f->F=f)
theorem cr(R:A5 I):∃b c F,Mg R=Af #[C Y b,Ah c,.agg (Cd F)]/\SW R b c F:=by
 obtain f|y:=R
 .exact⟨0,AQ,f,Z,E,E,(λx q e=>kec),(λa e=>by injection e)⟩
 obtain⟨x,q⟩:=y;unfold Mg;simp only[];by_cases h:9223372036854775807<x
 .rw[Cn h];refine⟨_,_,_,Z,E,E,(λg d e=>?_),(λa e=>kec)⟩;grind
 rw[Ci h];refine⟨_,_,_,Z,E,E,(λg d e=>?_),(λa e=>kec)⟩;grind
def IP(so:AH):AI:=if so=2 then 1 else if so=3 then 2 else if so=4\/so=5\/so=6 then 3 else if so=7 then 5 else if so=8 then 4 else if so=9 then 6 else if so=10 then 7 else 0
def nR(so w x:AH):AI:=if so=5 then Gf x w else if so=6 then -1-min (x:AI) 9223372036854775807 else min (x:AI) 9223372036854775807
def I2(so x:AH):AK:=if so=5 then AQ else AR (9223372036854775807<x)
def Ea(fm:AI)(bs:A1)(lim:AI)(i:AH):AS (AI×AI) (AH×AH×AH×AH):=match bs[i]? with
 |none=>.error (9,(i:AI))
 |some c=>if(i:AI)=lim then .error (8,(i:AI))else if(DI fm c.toNat).1=0 then .error (9,(i:AI))else match CR bs lim (DI fm c.toNat).2.1 (i+1) (DI fm c.toNat).2.2 with
  |.error f=>.error f
  |.ok (x,q)=>.ok ((DI fm c.toNat).1,(DI fm c.toNat).2.1,x,q)
def Ee(r:AS (AI×AI) (AH×AH×AH×AH))(e:Ending):Prop :=
 ∃a n q o F,e=Ak (Af #[.agg (CZ a n q o),.agg (Cd F)])/\(∀so w x p,r=.ok (so,w,x,p)->a=IP so/\n=nR so w x/\q=(p:AI)/\o=I2 so x/\F=(0,0))/\(∀f,r=.error f->F=f)
theorem Nj{f:J×J}(h:r=.error f){a n:J}:Ee r (Ak (Af #[.agg (CZ a n q o),.agg (Cd f)])) :=
 ⟨a,n,q,o,f,rfl,(λc w x p e=>by rw[h]at e;cases e),(λb e=>B9)⟩
theorem Mh{w:I}{a n:J}(h:r=.ok (so,w,x,p))(c:a=IP so)(d:n=nR so w x)(g:q=(p:J))(f:o=I2 so x):Ee r (Ak (Af #[.agg (CZ a n q o),.agg (Cd (0,0))])) :=
 ⟨a,n,q,o,(0,0),rfl,(λj k l i e=>B9),(λb e=>by rw[h]at e;cases e)⟩
theorem cu{c:AU}(t:bs[i]?=H c)(v:¬(i:J)=lim)(hi:Ct bs lim (i+1))(u:DI fm c.toNat=(so,k,0))(s:¬so=0){nv n:J}{ov:AK}{F:J×J}{a:J}(b:SW (CR bs lim k (i+1) 0) nv ov F)(j:a=IP so)(r:q=(i:J)+1+k)(l:∀x:I,nv=min (x:J) 9223372036854775807->n=nR so k x)(m:∀x:I,ov=AR (9223372036854775807<x)->o=I2 so x):Ee (Ea fm bs lim i) (Ak (Af #[.agg (CZ a n q o),.agg (Cd F)])):=by
 have e:Ea fm bs lim i=match CR bs lim k (i+1) 0 with
  |.error f=>.error f
  |.ok (x,q)=>.ok (so,k,x,q):=by
  grind [Ea]
 rcases hr:CR bs lim k (i+1) 0 with f|y
 .rw[hr]at e;have:=b.2.2.2 f hr;grind [Nj]
 obtain⟨x,p⟩:=y;rw[hr]at e;obtain⟨d,g,h⟩:=b.2.2.1 x p hr;subst d;refine Mh e j (l x g) ?_ (m x h);have:=(PA k _ 0 x p hi hr).1;rw[r,this];omega
theorem PB{c:AU}(b:bs[i]?=H c)(e:¬(i:J)=lim)(d:DI fm c.toNat=(so,0,x))(a:¬so=0):Ea fm bs lim i=.ok (so,0,x,i+1):=by unfold Ea;rw[b];simp only[];rw[Ci e,d,Ci a];rfl
theorem Wr{c:AU}(a:bs[i]?=H c)(d:¬(i:J)=lim)(b:(DI fm c.toNat).1=0):Ea fm bs lim i=.error (9,(i:J)):=by grind [Ea]
def rk(R:A5 AH)(kd:AI)(fn:AI->AI)(q:AI)(e:Ending):Prop:=∃nv ov F,e=Ak (Af #[.agg (CZ kd (fn nv) q ov),.agg (Cd F)])/\SW R nv ov F
def L3(n:AH):AI:=if n=0 then 3 else if n=1 then 3 else if n=2 then 5 else if n=3 then 4 else if n=4 then 6 else 7
theorem cw(w:X)(a:n<6):(Az w (M #[C Y 3,C Y 3,C Y 5,C Y 4,C Y 6,C Y 7] 3)).cell? ⟨K (U w),n,Ao⟩=H (C Y (L3 n)):=by
 rw[Cb (Cj _) n]
 match n,a with
 |0,_=>rfl
 |1,_=>rfl
 |2,_=>rfl
 |3,_=>rfl
 |4,_=>rfl
 |5,_=>rfl
theorem rl{kd:J}(L:k<=8)(hl:Lm bs l lim)(hi:Ct bs lim (i+1))(hb:O bs<=200000000):Ar As 192 #[.agg (Cp bs fm d l),C Y i,C Y kd,C Y k] W λe A=>rk (CR bs lim k (i+1) 0) kd (λc=>c) ((i:J)+1+k) e/\A0 W A:=by
 have p:=λV=>SU V (bs:=bs) fm d (l:=l) (i:=(i+1)) k L hl hi E;unfold Cp at p;obtain⟨c,f,F,B,r⟩:=cr (CR bs lim k (i+1) 0);rw[B]at p;have v:=p;unfold Cp at v;have Q:=r.1;have R:=r.2.1;have x:=G r;have z:=Km W bs fm d l;have P:=hi.1;unfold Cp;go_enter func192,ntmps192
 go_wp2_with(first
  |(go_at_call 191;refine ck (v _) z.next ?_;intro s u)
  |((with_reducible refine zF 12 21 rfl rfl (K (U s)) F ?_ ?_);exact⟨Z,Z,Cj s⟩;refine Gx ?_;intro N t;have o:=G (t▸u.next (Kl));have y:=G (t▸CM _ _ _ _ _ _ (Cj _));have m:=G u.size;generalize K (U s)=M at *))
 refine Dl (S:=λh=>A7 h M (Cd F) 103) (y) B6 ?_;intro a;refine Cf 8 30 (.agg (Cd F)) Z (λh j=>yF 12 j Z Z) a ?_;refine Ca 0 22 (C Y kd) a ?_;refine Ca 1 23 (C Y c) a ?_;refine Ca 2 24 (C Y i) a ?_;refine Cf 3 25 (C Y ((i:J)+1)) Z (λh j=>?y3) a ?_
 case y3=>(go_simp;exact Hu E)
 refine Ca 4 26 (C Y k) a ?_;refine Cf 5 27 (C Y ((i:J)+1+k)) Z (λh j=>?y5) a ?_
 case y5=>(go_simp;exact Hu E)
 refine Ca 6 28 (Ah f) a ?_;refine Cf 7 29 (.agg (CZ kd c ((i:J)+1+k) f)) Z (λh j=>?y7) a ?_
 case y7=>(unfold CZ;go_simp)
 refine sH 9 8 29 (g:=(K (U W)+1)) (k:=kd) (n:=c) (q:=((i:J)+1+k)) (b:=f) B6 (o.drew.hd) ((Dg _ (K (U W)+1) M (CZ kd c ((i:J)+1+k) f) (AY (AE m))).trans a) ?_;refine sF 10 9 30 (g:=(K (U W)+2)) (F:=F) B6 (sx E o.drew.flt) (sx (AY (AE m)) ((Dg _ (K (U W)+1) M (CZ kd c ((i:J)+1+k) f) (AY (AE m))).trans a)) ?_;refine CG ?_;go_simp;go_wp2;have w:=o.drew.fin (CZ kd c ((i:J)+1+k) f) (F);refine Jt results192 w Z Z Z ⟨?_,w.2.2⟩;exact⟨c,f,F,Z,x⟩
theorem cx{R:AS (J×J) (I×I×I×I)}{x:J×J}(y:CU bs l i 9=x)(z:Ee R (Ak (Af #[.agg (CZ 0 0 0 AQ),.agg (Cd x)])))(k:CH bs l i=AQ\/(CH bs l i=AP/\∃c,bs[i]?=H c/\((c.toNat/32=7/\(c.toNat%32<20\/22<c.toNat%32))\/c.toNat/32=6\/(c.toNat/32<6/\27<c.toNat%32)))):Ar As 166 #[.agg (Cp bs fm d l),C Y i] W λe t=>Ee R e/\A0 W t:=by
 have r:=N2 fm d y;have q:=Km W bs fm d l;have p:=G z;unfold Cp;rcases k with j|⟨j,c,s,k⟩
 rotate_left
 .have ac:=Ej s;have ab:=Dh s;have aa:=c.toNat_lt;obtain⟨n,F⟩:=Dx (c.toNat/32);obtain⟨m,B⟩:=Dx (c.toNat%32);rw[F,B]at k;have hq:(c.toNat:J)/32=(n:J):=E;have hr:(c.toNat:J)%32=(m:J):=E;have A:(((n:J)==7)=AP/\AR ((m:J)<20)=AP)\/(((n:J)==7)=AP/\AR ((m:J)<20)=AQ/\AR (22<(m:J))=AP)\/(((n:J)==7)=AQ/\((n:J)==6)=AP)\/(((n:J)==7)=AQ/\((n:J)==6)=AQ/\AR (27<(m:J))=AP):=B7;have h:=Gi fm d j;rcases A with⟨o,S⟩|⟨o,S,Q⟩|⟨o,P⟩|⟨o,P,Q⟩
  all_goals
   go_enter func166,ntmps166
   go_wp2_with(first
    |(go_at_call 116;refine q.ck (h _) ?_;intro f b u v c2 w;have L:K (U W)<K (U f):=kez;have N:K (U W)<K (U f)+1:=E)
    |(go_at_call 84;refine(r _).mono ?_;rintro e V ⟨rfl,g⟩;have a:=G ((by first|exact b.next g|exact(b.next (Cl)).next g)))
    |((with_reducible refine zH 4 rfl rfl (K (U W)+1) 0 0 0 AQ ?_ ?_);exact⟨Z,Z,a.hd⟩)
    |((with_reducible refine zF 5 _ rfl rfl (K (U W)+2) x ?_ ?_);exact⟨Z,Z,sx E a.flt⟩))
   refine Jt results166 (a.fin _ _) Z Z Z ⟨p,(a.fin _ _).2.2⟩
 have h:=Gi fm d j;go_enter func166,ntmps166
 go_wp2_with(first
  |(go_at_call 116;refine q.ck (h _) ?_;intro f b u v c2 w;have L:K (U W)<K (U f):=kez;have N:K (U W)<K (U f)+1:=E)
  |(go_at_call 84;refine(r _).mono ?_;rintro e V ⟨rfl,g⟩;have a:=G (b.next g))
  |((with_reducible refine zH 4 rfl rfl (K (U W)+1) 0 0 0 AQ ?_ ?_);exact⟨Z,Z,a.hd⟩)
  |((with_reducible refine zF 5 _ rfl rfl (K (U W)+2) x ?_ ?_);exact⟨Z,Z,sx E a.flt⟩))
 refine Jt results166 (a.fin _ _) Z Z Z ⟨p,(a.fin _ _).2.2⟩
theorem QW{R:AS (J×J) (I×I×I×I)}{c:AU}(h:bs[i]?=H c)(b:CH bs l i=AP)(hb:O bs<=200000000){K N:J}(r:Ee R (Ak (Af #[.agg (CZ K N ((i:J)+1) AQ),.agg (Cd (0,0))])))(f:∃n m:I,c.toNat/32=n/\c.toNat%32=m/\((n=7/\m=20/\K=1/\N=0)\/(n=7/\m=21/\K=2/\N=0)\/(n=7/\m=22/\K=0/\N=0)\/(n<6/\m<24/\n=1/\K=L3 n/\N = -1-(m:J))\/(n<6/\m<24/\¬n=1/\K=L3 n/\N=m))):Ar As 166 #[.agg (Cp bs fm d l),C Y i] W λe q=>Ee R e/\A0 W q:=by
 have A:=Ej h;have z:=Dh h;have y:=c.toNat_lt;have g:=Gi fm d b;have p:=Km W bs fm d l;have o:=G r;obtain⟨n,m,Q,B,f⟩:=f;have L:(c.toNat:J)/32=(n:J):=E;have P:(c.toNat:J)%32=(m:J):=E;unfold Cp;rcases f with⟨rfl,rfl,rfl,rfl⟩|⟨rfl,rfl,rfl,rfl⟩|⟨rfl,rfl,rfl,rfl⟩|⟨j,s,b,rfl,rfl⟩|⟨j,s,b,rfl,rfl⟩
 rotate_right 2
 all_goals
  try
   have S:=λw=>cw w j;have t7:((n:J)==7)=AQ:=B7;have t6:((n:J)==6)=AQ:=B7;have tg:AR (27<(m:J))=AQ:=B7;have tl:AR ((m:J)<24)=AP:=B7;have F:(n:J)<6:=E
   first
    |have t:((n:J)==1)=AP:=B7
    |have t:((n:J)==1)=AQ:=B7
   clear b
  go_enter func166,ntmps166
  go_wp2_with(first
   |(go_at_call 116;refine p.ck (g _) ?_;clear g;intro k a u v c2 x;have V:Au (U W)<Au (U k):=ket;have n2:Au (U W)<Au (U k)+1:=E)
   |((with_reducible refine zH 4 rfl rfl (Au (U W)+1) 1 0 ((i:J)+1) AQ ?_ ?_);exact⟨rfl,rfl,(a.next (Cl)).hd⟩)
   |((with_reducible refine zH 4 rfl rfl (Au (U W)+1) 2 0 ((i:J)+1) AQ ?_ ?_);exact⟨rfl,rfl,(a.next (Cl)).hd⟩)
   |((with_reducible refine zH 4 rfl rfl (Au (U W)+1) 0 0 ((i:J)+1) AQ ?_ ?_);exact⟨rfl,rfl,(a.next (Cl)).hd⟩)
   |((with_reducible refine zH 4 rfl rfl (Au (U W)+1) (L3 n) (-1-(m:J)) ((i:J)+1) AQ ?_ ?_);exact⟨rfl,rfl,(a.next (Cl)).hd⟩)
   |((with_reducible refine zH 4 rfl rfl (Au (U W)+1) (L3 n) m ((i:J)+1) AQ ?_ ?_);exact⟨rfl,rfl,(a.next (Cl)).hd⟩)
   |((with_reducible refine zF 5 _ rfl rfl (Au (U W)+2) (0,0) ?_ ?_);exact⟨rfl,rfl,sx E (a.next (Cl)).flt⟩))
  refine Jt results166 ((a.next (Cl)).fin _ _) rfl rfl rfl ⟨o,((a.next (Cl)).fin _ _).2.2⟩
theorem ro(W:X){R:AS (J×J) (I×I×I×I)}{c:AU}(L:bs[i]?=H c)(h1:CH bs l i=AP)(k:I)(g:J->J)(hs:c.toNat/32=n)(hn:n<6)(hm:c.toNat%32=m)(hl:Lm bs l lim)(hi:Ct bs lim (i+1))(hb:O bs<=200000000)(hg:(n=1/\g=λx=>-1-x)\/(¬n=1/\g=λx=>x))(hk:(m=24/\k=1)\/(m=25/\k=2)\/(m=26/\k=4)\/(m=27/\k=8))(a:∀b f F,SW (CR bs lim k (i+1) 0) b f F->Ee R (Ak (Af #[.agg (CZ (L3 n) (g b) ((i:J)+1+k) f),.agg (Cd F)]))):Ar As 166 #[.agg (Cp bs fm d l),C Y i] W λe W'=>Ee R e/\A0 W W':=by
 have ag:=Ej L;have ae:=Dh L;have ad:=c.toNat_lt;have hq:(c.toNat:J)/32=(n:J):=E;have hr:(c.toNat:J)%32=(m:J):=E;have t7:((n:J)==7)=AQ:=B7;have t6:((n:J)==6)=AQ:=B7;have kt:=λw=>cw w hn;have ai:(n:J)<6:=E;have h:=Gi fm d h1;have A:=λV=>SU V fm d k E hl hi E;unfold Cp at *;obtain⟨b,f,F,ac,r⟩:=cr (CR bs lim k (i+1) 0);rw[ac]at A;have aj:=r.1;have ak:=r.2.1;have af:=hi.1;have v:=G (a b f F r);obtain⟨N,o⟩:=Dx (g b);rw[o]at v;have hw:(((n:J)==1)=AP/\N = -1-b)\/(((n:J)==1)=AQ/\N=b):=by
  rcases hg with⟨aa,rfl⟩|⟨aa,rfl⟩
  .exact AF ⟨B7,o.symm⟩
  exact AG ⟨B7,o.symm⟩
 have HX:=Km W bs fm d l;rcases hk with⟨rfl,rfl⟩|⟨rfl,rfl⟩|⟨rfl,rfl⟩|⟨rfl,rfl⟩
 let kk:J:=1;rotate_left
 let kk:J:=2;rotate_left
 let kk:J:=4;rotate_left
 let kk:J:=8;rotate_left
 all_goals
  have ah:0<=kk/\kk<=8:=Dk Z;rcases hw with⟨t1,rfl⟩|⟨t1,o⟩
 all_goals
  go_enter func166,ntmps166
  go_wp2_with(first
   |(go_at_call 116;refine HX.ck (h _) ?_;intro P y c0 c1 c2 c3;have n1:K (U W)<K (U P):=(AY y.size);have n2:K (U W)<K (U P)+1:=E)
   |(go_at_call 191;refine(A _).mono ?_;rintro e s ⟨rfl,ab⟩;have z:=G (((y.next (Cl)).next (Cl)).next ab))
   |((with_reducible refine zF 13 95 rfl rfl (K (U s)) F ?_ ?_);exact⟨Z,Z,Cj s⟩;refine Gx ?_;intro V4 t;have p:=G (t▸z.next (Kl));have Q:=G (t▸CM _ _ _ _ _ _ (Cj _));have u:=G z.size;generalize K (U s)=M at *))
  first
   |subst o
   |generalize -1-b=N at *
  refine Dl (S:=λj=>A7 j M (Cd F) 103) (Q) B6 ?_;intro a;refine Cf 8 108 (.agg (Cd F)) Z (λj q=>yF 13 q Z Z) a ?_;refine Ca 0 100 (C Y (L3 n)) a ?_;refine Ca 1 101 (C Y N) a ?_;refine Ca 2 102 (C Y i) a ?_;refine Cf 3 103 (C Y ((i:J)+1)) Z (λj q=>?y3) a ?_
  case y3=>(go_simp;exact Hu E)
  refine Ca 4 104 (C Y kk) a ?_;refine Cf 5 105 (C Y ((i:J)+1+kk)) Z (λj q=>?y5) a ?_
  case y5=>(go_simp;exact Hu E)
  refine Ca 6 106 (Ah f) a ?_;refine Cf 7 107 (.agg (CZ (L3 n) N ((i:J)+1+kk) f)) Z (λj q=>?y7) a ?_
  case y7=>(unfold CZ;go_simp)
  have B:=(Dg _ (K (U W)+1) M (CZ (L3 n) N ((i:J)+1+kk) f) (AY (AE u))).trans a;refine sH 9 4 107 B6 (p.drew.hd) B ?_;refine sF 10 5 108 (g:=(K (U W)+2)) (F:=F) B6 (sx E p.drew.flt) (sx (AY (AE u)) B) ?_;refine CG ?_;go_simp;go_wp2;refine Jt results166 (p.drew.fin _ _) Z Z Z ⟨v,(p.drew.fin _ _).2.2⟩
def JX(c:AU):AI:=if 128<=c.toNat then(c.toNat:AI)-256 else(c.toNat:AI)
def SX(R:A5 AH)(c:AU)(i k:AH)(e:Ending):Prop :=
 ∃a n q o F,e=Ak (Af #[.agg (CZ a n q o),.agg (Cd F)])/\(∀y p,R=.ok (y,p)->a=3/\n=JX c*256^(k-1)+y/\q=(i:AI)+1+k/\o=AQ/\F=(0,0))/\(∀f,R=.error f->F=f)
theorem cy(hl:Lm bs l lim):∀(k p a:I) (f:J×J),Ct bs lim p->CR bs lim k p a=.error f->∃d:I,f.2=(d:J)/\CU bs l d f.1=f/\¬f.1=0
 |0,p,a,f,_,h=>by rw[CR]at h;cases h
 |k+1,p,a,f,hi,h=>by
  rw[CR]at h;rcases hc:bs[p]? with _|c
  .rw[hc]at h;injection h with h;subst h;exact⟨p,Z,It hi.1 hc 9,Ba⟩
  rw[hc]at h;simp only[]at h;by_cases b:(p:J)=lim
  .rw[Cn b]at h;injection h with h;subst h;exact⟨p,Z,FY hl hc b 8,Ba⟩
  rw[Ci b]at h;exact cy hl k _ _ f (Ed hi hc b) h
theorem rp(c:AU):-128<=JX c/\JX c<=127:=by have:=c.toNat_lt;unfold JX;split<;>omega
theorem d8(c:AU)(j:I)(e:j<=7):-9223372036854775808<=JX c*256^j/\JX c*256^j+256^j<=9223372036854775808:=by obtain⟨b,d⟩:=rp c;have a:j=0\/j=1\/j=2\/j=3\/j=4\/j=5\/j=6\/j=7:=E;rcases a with rfl|rfl|rfl|rfl|rfl|rfl|rfl|rfl<;>simp<;>omega
theorem rq(W:X)(fm d:J)(p:1<=k)(S:k<=8)(c:AU)(hl:Lm bs l lim)(hb:O bs<=200000000)(R:i+1<O bs)(hi:Ct bs lim (i+2)){f:J×J}(a:CR bs lim (k-1) (i+2) 0=.error f):Ar As 193 #[.agg (Cp bs fm d l),C Y i,C Y k] W λe j=>SX (CR bs lim (k-1) (i+2) 0) c i k e/\A0 W j:=by
 have L:∀V,Ar _ _ #[Ag #[.string _,.int _ fm,.int _ d,.int _ l],.int _ (i+2),.int _ _] V _:=λV=>by have h:=SU V fm d (k-1) E hl hi E;rw[a,show(k-1:I)=(k:J)-1 by omega]at h;unfold Mg at h;simp only[]at h;exact h
 obtain⟨N,B,x,A⟩:=cy hl _ _ 0 f hi a;have aa:(f.1==0)=AQ:=C4;have w:∀V,Ar _ 84 #[.agg _,.int _ _,.int _ _] V λe j=>e=Ak (.agg (Cd f))/\Below _ V j:=λV=>by have h:=Lt V bs fm d l N f.1;rw[x,<-B]at h;exact h
 have F:=Km W bs fm d l;have o:=G a;clear hl hi a B x A;unfold Cp;go_enter func193,ntmps193
 go_wp2_with(first
  |(go_at_call 191;apply ck (L _) F.next;intro m q)
  |(go_at_call 84;apply r.ck (w _);clear w t u c2 v;intro w5 g t u c2 v)
  |((with_reducible refine zF 10 22 rfl rfl (K (U m)) (f) ?_ ?_);exact⟨Z,Z,Cj m⟩;apply Gx;intro s b;have r:=G (b▸q.next (Kl));have n:=G (b▸CM _ _ _ _ _ _ (Cj _));have P:=G q.size;clear b;generalize K (U m)=M at *;have u0:AC s _=H (.int _ _):=Cb n 0;have u1:AC s _=H (.int _ _):=Cb n 1;obtain⟨t,u,c2,v⟩:=DV r.box)
  |((with_reducible refine zH 6 (y:=26) rfl rfl (K (U W)+1) 0 0 0 AQ ?_ ?_);exact⟨Z,Z,g.hd⟩)
  |((with_reducible refine zF 7 32 rfl rfl (K (U W)+2) (f) ?_ ?_);exact⟨Z,Z,sx E g.flt⟩))
 have z:=g.fin (CZ 0 0 0 AQ) (f);refine Jt results193 z Z Z Z ⟨?_,z.2.2⟩;exact⟨0,0,0,AQ,f,Z,(λy ab e=>by rw[AE o]at e;cases e),(λQ e=>by rw[AE o]at e;injection e)⟩
theorem rt(W:X)(fm d:J)(ak:1<=k)(hk:k<=8){c:AU}(hl:Lm bs l lim)(hb:O bs<=200000000)(ah:i+1<O bs)(hi:Ct bs lim (i+2))(F:bs[i+1]?=H c)(n:CR bs lim (k-1) (i+2) 0=.ok (y,p)):Ar As 193 #[.agg (Cp bs fm d l),C Y i,C Y k] W λe S=>SX (CR bs lim (k-1) (i+2) 0) c i k e/\A0 W S:=by
 have ai:∀V,(Instr.index 9 _ (.int _ (i+1))).run _ V=.ok _ V:=λV=>Ej F V;have ag:=c.toNat_lt;have ht:(AR (128<=(c.toNat:J))=AP/\D (JX c=c.toNat-256))\/(AR (128<=(c.toNat:J))=AQ/\D (JX c=c.toNat)):=by
  by_cases h:128<=c.toNat
  .exact AF ⟨B7,Cn h⟩
  exact AG ⟨B7,Ci h⟩
 have cG:∀V,Ar _ _ #[Ag #[.string _,.int _ fm,.int _ d,.int _ l],.int _ (i+2),.int _ _] V _:=λV=>by have h:=SU V fm d (k-1) E hl hi E;rw[n,show(k-1:I)=(k:J)-1 by omega]at h;unfold Mg at h;simp only[]at h;rw[Ci (by have:=QG _ _ _ _ _ n;have:(0+1)*256^(k-1)<=(0+1)*256^7:=Nat.mul_le_mul_left _ (NP B8 E);omega)]at h;exact h
 have P:=Km W bs fm d l;have z:=G n;have Q:D ((y:J)<256^(k-1)):=by
  show _<_;have:=QG _ _ _ _ _ n;rw[Gw,Nat.one_mul]at this
  exact_mod_cast this
 clear hl hi n F;unfold Cp;rcases ht with⟨ae,o⟩|⟨ae,o⟩
 all_goals
  go_enter func193,ntmps193
  go_wp2_with(first
   |(go_at_call 191;apply ck (cG _) P.next;intro v A)
   |((with_reducible refine zF 10 22 rfl rfl (K (U v)) (0,0) ?_ ?_);exact⟨Z,Z,Cj v⟩;apply Gx;intro s w;have q:=G (w▸A.next (Kl));have x:=G (w▸CM _ _ _ _ _ _ (Cj _));have af:=G A.size;generalize K (U v)=M at *;have u0:AC s _=H (.int _ (0)):=Cb x 0;have u1:AC s _=H (.int _ (0)):=Cb x 1;obtain⟨c0,c1,c2,c3⟩:=DV q.box))
  go_loopg[11,12] (k-1) (λg zt zj wr=>wr=s/\∃(j:I) (a:J),zt=C Y a/\zj=C Y ((j:J)+1)/\D (j+g=k-1)/\D (a=JX c*256^j))
  case atStart=>exact⟨rfl,0,_,rfl,rfl,Bg,by show _=_;rw[AE o];simp⟩
  case round =>
   clear c0 c1 c2 c3 u0 u1;obtain⟨rfl,j,a,rfl,rfl,b,m⟩:=hrel;obtain _|g:=gk
   .have t:j=k-1:=AY (AE b);have aa:¬j+1<(k:J):=E;have f:=d8 c (k-1) E;have u : -9223372036854775808<=a+y/\a+y<=9223372036854775807:=by have B:=AE m;have h2:=AE Q;rw[t]at B;rw[B];omega
    have ac:=u.1;have ad:=u.2;have R:D (a=JX c*256^(k-1)):=by show _=_;rw[AE m,t]
    clear m f b t u o
    go_wp2_with(first
     |((with_reducible refine zH 6 (y:=57) rfl rfl (K (U W)+1) 3 (a+y) ((i:J)+1+k) AQ ?_ ?_);exact⟨Z,Z,q.hd⟩)
     |((with_reducible refine zF 7 58 rfl rfl (K (U W)+2) (0,0) ?_ ?_);exact⟨Z,Z,sx E q.flt⟩))
    have L:=q.fin (CZ 3 (a+y) (i+1+k) AQ) (0,0);refine Jt results193 L Z Z Z ⟨?_,L.2.2⟩;exact⟨_,_,_,_,_,Z,(λy' p' e=>by rw[AE z]at e;injection e with e;injection e with e1 e2;subst e1;exact⟨Z,by rw[AE R],Z,Z,Z⟩),(λf' e=>by rw[AE z]at e;cases e)⟩
   have aa:j+1<(k:J):=AY (AE b);have f:=d8 c (j+1) (AY (AE b));have ab:(0:J)<=256^(j+1):=Int.pow_nonneg B8;have r:a*256=JX c*256^(j+1):=by rw[AE m,Int.pow_succ,Int.mul_assoc]
   have ac : -9223372036854775808<=a*256:=by rw[r];exact f.1
   have ad:a*256<=9223372036854775807:=by have al:(1:J)<=256^(j+1):=Int.pow_pos B8;rw[r];have:=f.2;omega
   have N:=G r;have aj:(j:J)<=7:=AY (AE b);clear r f ab m o;go_wp2;go_roundg g
   case measure=>omega
   case rel=>exact⟨rfl,_,_,rfl,Bb,AZ (AE b),N⟩
theorem ru(j:1<=k)(g:k<=8){c:AU}(hl:Lm bs l lim)(hb:O bs<=200000000)(hi:Ct bs lim (i+2))(b:bs[i+1]?=H c):Ar As 193 #[.agg (Cp bs fm d l),C Y i,C Y k] W λe m=>SX (CR bs lim (k-1) (i+2) 0) c i k e/\A0 W m:=by
 have a:=Dh b;rcases hR:CR bs lim (k-1) (i+2) 0 with f|x
 .have h:=rq W fm d j g c hl hb a hi hR;rw[hR]at h;exact h
 obtain⟨y,p⟩:=x;have h:=rt W fm d j g hl hb a hi b hR;rw[hR]at h;exact h
theorem rO(bs:A1)(p a j:I):Du bs p a++Du bs (p+a) j=Du bs p (a+j):=by unfold Du;rw[List.take_add,kM]
theorem rP(bs:A1)(p:I):Du bs p 0=[]:=by simp[Du]
theorem rQ{c:AU}(b:0<m)(a:bs[k]?=H c)(d:¬(k:J)=lim):EJ bs lim m k acc=EJ bs lim (m-1) (k+1) (acc++[c]):=by
 obtain⟨g,rfl⟩:∃g,m=g+1:=⟨m-1,E⟩
 grind [EJ]
theorem rU(b:0<m)(hi:Ct bs lim k)(hl:Lm bs l lim)(a:bs[k]?=Ao\/∃c,bs[k]?=H c/\(k:J)=lim):EJ bs lim m k acc=.error (CU bs l k 9)/\CH bs l k=AQ:=by
 obtain⟨g,rfl⟩:∃g,m=g+1:=⟨m-1,E⟩
 rw[EJ];rcases a with a|⟨c,a,d⟩
 .rw[a,It hi.1 a];grind [Hs]
 grind [FY,GW]
theorem rX{wh:I}(b:0<m)(hi:Ct bs lim k)(hl:Lm bs l lim)(a:bs[k]?=Ao\/∃c,bs[k]?=H c/\(k:J)=lim):Dm bs lim m k acc wh=.error (CU bs l k 9)/\CH bs l k=AQ:=by
 obtain⟨g,rfl⟩:∃g,m=g+1:=⟨m-1,E⟩
 rw[Dm];rcases a with a|⟨c,a,d⟩
 .rw[a,It hi.1 a];grind [Hs]
 grind [FY,GW]
def Nk(txt:AK)(bs:A1)(lim:AI)(m k:AH)(acc:A1):A5 A1:=bif txt then Dm bs lim m k acc (At acc)else EJ bs lim m k acc
theorem rY(d:AK)(b:0<m)(hi:Ct bs lim k)(hl:Lm bs l lim)(a:bs[k]?=Ao\/∃c,bs[k]?=H c/\(k:J)=lim):Nk d bs lim m k acc=.error (CU bs l k 9)/\CH bs l k=AQ:=by
 cases d
 .exact rU b hi hl a
 exact rX b hi hl a
theorem dh{txt:AK}{n:J}(hn:n=min (x:J) 9223372036854775807)(hl:Lm bs l lim)(hi:Ct bs lim i)(hb:O bs<=200000000):Ar As 133 #[.agg (Cp bs fm d l),C Y i,C Y n,Ah txt] W λe z=>Ng (Nk txt bs lim x i []) e/\A0 W z:=by
 obtain⟨ad,p⟩:=CA (Nk txt bs lim x i []);rw[AE p];have a3:=O8 bs;have a0:=hi.1;have HL:=G hl;have t:=G hi;have R:=N5 bs fm d l;have Q:=Oa bs fm d l;have s:=QD W bs fm d l;obtain⟨m,a4⟩:=Dx (IntKind.i64.wrap (i+n));have HW:D ((n=x/\x<=O bs/\m=i+x)\/(O bs<x/\¬n<=O bs/\(O bs<m\/m<0))):=by grind [D,IntKind.wrap_i64]
 clear hl hi hn;unfold Cp;go_enter func133,ntmps133;go_wp2
 go_loopg[11] (O bs+1-i) (λar ay wr=>∃k:I,ay=C Y k/\D (O bs+1<=k+ar)/\D (Iu W (Cp bs fm d l) (K (U W)+1) wr)/\D (Ct bs lim k)/\D (i<=k/\k-i<=x)/\D (Nk txt bs lim (x-(k-i)) k (Du bs i (k-i))=ad))
 case atStart=>grind [D,rP]
 case round =>
  clear p s t;obtain⟨k,rfl,hg,s,t,g,p⟩:=hrel;have a1:=t.1;obtain⟨a,c,c2,f⟩:=DV s.box;have ah:=g.1;have ab:=AE HW;by_cases B:k-i=x/\x<=O bs
  .have r:¬k<m:=E;have a2:¬(O bs)<n:=E
   replace B:=B.1
   clear ab;have P:D (ad=.ok (Du bs i x,k)):=by
    show _=_;have h:=AE p;rw[B,Ql]at h;rw[<-h];cases txt
    .rfl
    simp[Nk,Dm]
   have aq:D ((⟨Aw bs⟩:AT).extract (i:J).toNat (k:J).toNat=⟨Aw (Du bs i x)⟩):=by show _=_;rw[show(i:J).toNat=i by omega,show(k:J).toNat=i+x by omega];exact bG bs i x
   have az:i<=(k:J):=E;have an:k<=(O bs:J):=E;clear p R Q g hg
   go_wp2_with(first
    |((with_reducible refine EW 10 95 rfl rfl (K (U W)+1) (0,0) ?_ ?_ ?_ ?_);exact Z;exact Z;exact s.flt))
   have q:=GX s CO (0,0);refine Hz results133 q (.string ((⟨_⟩:AT).extract (i:J).toNat (k:J).toNat)) (.int _ k) Z Z Z Z ⟨?_,q.2⟩;rw[AE P,AE aq];rfl
  have hm:0<x-(k-i):=AY g.2;have o:=λV=>R V k;rcases QC (bs:=bs) (lim:=lim) k with ap|⟨ch,w,hp⟩
  .obtain⟨h1,h2⟩:=rY (acc:=Du bs i (k-i)) txt hm t HL ap;have P:=G (p.symm.trans h1);rw[h2]at o;have v:=λV=>Q V k 9;generalize CU bs l k 9=xx at *;have S:k<m\/(¬k<m/\O bs<n):=E;clear p h1 h2 ap R Q g hg ah B ab;rcases S with r|⟨r,F⟩
   all_goals
    go_wp2_with(first
     |(go_at_call 116;apply DW (o _) s.next (λ_ h=>h.box);clear o a c c2 f;intro w2 u a c c2 f)
     |(go_at_call 84;apply DW (v _) u.next (λ_ h=>h.box);clear v a c c2 f;intro w4 y a c c2 f)
     |((with_reducible refine EW 10 35 rfl rfl (K (U W)+1) xx ?_ ?_ ?_ ?_);exact Z;exact Z;exact y.flt))
    have q:=GX y CO xx;refine Hz results133 q (.string _) (.int _ 0) Z Z Z Z ⟨?_,q.2⟩;rw[AE P];rfl
  have aw:=Dh w;have hh:=IM HL t w hp;rw[hh]at o;have step:∀j,1<=j->Ct bs lim (k+j)->j<=x-(k-i)->Nk txt bs lim (x-(k-i)) k (Du bs i (k-i))=Nk txt bs lim (x-(k-i)-j) (k+j) (Du bs i (k-i)++Du bs k j)->D (Nk txt bs lim (x-(k+j-i)) (k+j) (Du bs i (k+j-i))=ad):=λj _ _ _ h=>by have e:=rO bs i (k-i) j;grind
  cases txt
  .have HN:=step 1 (Co _) (Ed t w hp) hm (by rw[Wa w];exact rQ hm w hp);have ag:=show D (Ct bs lim _)from Ed t w hp;have S:k<m\/(¬k<m/\O bs<n):=E;clear ab B step;rcases S with r|⟨r,F⟩
   all_goals
    go_wp2_with(first
     |(go_at_call 116;apply DW (o _) s.next (λ_ h=>h.box);clear o a c c2 f;intro w2 u a c c2 f))
    go_roundg (gk-1)
    case measure=>have:=AE hg;omega
    case rel=>exact⟨_,Bb,by grind [D],u,ag,⟨E,E⟩,HN⟩
  have an:k<lim:=AY t.2;have ai:=bF HL aw an;obtain⟨nn,ao⟩:∃nn:I,min (O bs:J) lim=nn:=⟨(min (O bs:J) lim).toNat,E⟩
  obtain⟨N,aj⟩:∃N:I,N=min (min (O bs:J) lim) (k+(x-(k-i)):I):=⟨(min (min (O bs:J) lim) (k+(x-(k-i)):I)).toNat,E⟩
  have ac:=q8 HL aj t w hp hm (Du bs i (k-i));have cG:=λV=>bB V N w E E E;obtain⟨j,ae,ak⟩:∃j ae,Me bs N k ch=(j,ae):=⟨_,_,rfl⟩
  rw[ak]at ac cG;have b:∀V,Ar _ _ _ V λe z=>e=Ak (Af #[.int _ j,Ah ae])/\V=z:=λV=>(cG V).mono λe z h=>⟨h.1,h.2.symm⟩
  rw[ao]at ai aj;have S:((k:J)<m/\n<=O bs/\min (nn:J) m=N)\/((k:J)<m/\¬n<=O bs/\(nn:J)=N)\/(¬(k:J)<m/\¬n<=O bs/\(nn:J)=N):=E;clear ao ak cG aj hh w hp;cases ae
  .simp only[]at ac;obtain⟨A,am,aa⟩:=ac;have av:=A.1;have hR:=p.symm.trans aa;by_cases af:j=x-(k-i)
   .rw[Cn af]at hR;obtain⟨r,F,L⟩:k<m/\n<=O bs/\min (nn:J) m=N:=E;obtain⟨kj,ax⟩:∃kj,kj+1=k+j:=⟨k+j-1,E⟩
    have P:D (ad=.error (9,(kj:J))):=B9;have v:∀V,Ar As 84 #[Ag #[Ae ⟨Aw bs⟩,C Y fm,C Y d,C Y l],C Y ((k:J)+(j:J)-1),C Y 9] V λe z=>e=Ak (.agg (Cd (9,(kj:J))))/\A0 V z:=λV=>by grind [D,QQ]
    have au:(k+j==m)=AP:=B7;have al:1<=k+(j:J):=E;clear p R Q aa A af ax g hg ah S ab hR B step
    go_wp2_with(first
     |(go_at_call 116;apply DW (o _) s.next (λ_ h=>h.box);clear o a c c2 f;intro w2 u a c c2 f)
     |(go_at_call 163;apply (b _).mono;clear b;rintro e w3 ⟨rfl,rfl⟩)
     |(go_at_call 84;apply DW (v _) u.next (λ_ h=>h.box);clear v a c c2 f;intro w4 y a c c2 f)
     |((with_reducible refine EW 10 77 rfl rfl (K (U W)+1) (9,(kj:J)) ?_ ?_ ?_ ?_);exact Z;exact Z;exact y.flt))
    have q:=GX y CO (9,kj);refine Hz results133 q (.string _) (.int _ 0) Z Z Z Z ⟨?_,q.2⟩;rw[AE P];rfl
   rw[Ci af]at hR;have au:(k+j==m)=AQ:=B7;have P:=G hR;have v:=λV=>Q V (k+j) 9;rw[show(k+j:I)=k+(j:J) by omega]at v;generalize CU bs l (k+j) 9=xx at *;clear p R Q aa A g hg af ah ab hR B step;rcases S with⟨r,F,L⟩|⟨r,F,L⟩|⟨r,F,L⟩
   all_goals
    try rw[L]at ai
    go_wp2_with(first
     |(go_at_call 116;apply DW (o _) s.next (λ_ h=>h.box);clear o a c c2 f;intro w2 u a c c2 f)
     |(go_at_call 163;apply (b _).mono;clear b;rintro e w3 ⟨rfl,rfl⟩)
     |(go_at_call 84;apply DW (v _) u.next (λ_ h=>h.box);clear v a c c2 f;intro w4 y a c c2 f)
     |((with_reducible refine EW 10 84 rfl rfl (K (U W)+1) xx ?_ ?_ ?_ ?_);exact Z;exact Z;exact y.flt))
    have q:=GX y CO xx;refine Hz results133 q (.string _) (.int _ 0) Z Z Z Z ⟨?_,q.2⟩;rw[AE P];rfl
  simp only[]at ac;obtain⟨al,A,am,aa⟩:=ac;have av:=A.1;have HN:=step j al A am aa;have ag:=G A;clear p R Q aa A ab step B;rcases S with⟨r,F,L⟩|⟨r,F,L⟩|⟨r,F,L⟩
  all_goals
   try rw[L]at ai
   go_wp2_with(first
    |(go_at_call 116;apply DW (o _) s.next (λ_ h=>h.box);clear o a c c2 f;intro w2 u a c c2 f)
    |(go_at_call 163;apply (b _).mono;clear b;rintro e w3 ⟨rfl,rfl⟩))
   go_roundg (gk-j)
   case measure=>have:=AE hg;omega
   case rel=>exact⟨_,Bb,by grind [D],u,ag,⟨E,E⟩,HN⟩
def Kk{α:Type}(bs t:A1)(lim:AI)(r':AS (AI×AI) α):Prop:=lim=At bs->t≠[]->r'=.error (8,lim)
def Tm{α:Type}(bs t:A1)(lim:AI)(s:Prop)(p:AH)(M:α->AH->Prop)(r r':A5 α):Prop :=
 match r with
 |.ok (x,q)=>p<=q/\q<=At bs/\M x q/\(r'=.ok (x,q)\/(¬s/\q=At bs/\Kk bs t lim r'))
 |.error (e,pl)=>pl<=(At bs:AI)/\(r'=.error (e,pl)\/(pl=At bs/\Kk bs t lim r'))/\(p=At bs->pl=At bs)
section
variable{α β:Type} {bs t:A1} {lim:Int} {s:Prop} {p:Nat} {M:α->Nat->Prop}
theorem Tm.ok{q:I}{x:α}(a:p<=q)(b:q<=O bs)(c:M x q):Tm bs t lim s p M (.ok (x,q)) (.ok (x,q)):=⟨a,b,c,AF rfl⟩
theorem Tm.last{x:α}{r':A5 α}(h:p=O bs)(b:Kk bs t lim r')(a:M x p):Tm bs t lim False p M (.ok (x,p)) r':=⟨Co _,NY h,a,AG ⟨id,h,b⟩⟩
theorem Tm.err{e:J}(a:pl<=O bs)(b:p=O bs->pl=O bs):Tm bs t lim s p M (.error (e,pl)) (.error (e,pl)):=⟨a,AF rfl,b⟩
theorem Tm.stop{e:J}{r':A5 α}(h:p=O bs)(a:Kk bs t lim r'):Tm bs t lim s p M (.error (e,(p:J))) r':=⟨E,AG ⟨E,a⟩,λ_=>E⟩
theorem Tm.from_{q:I}{r r':A5 α}(h:Tm bs t lim s q M r r')(b:p<=q)(c:q<=O bs):Tm bs t lim s p M r r':=by
 rcases r with⟨e,d⟩|⟨x,y⟩
 .exact⟨h.1,h.2.1,λa=>h.2.2 E⟩
 exact⟨Cy b h.1,h.2⟩
theorem Tm.any{r r1 r2:A5 α}(h:Tm bs t lim s (O bs) M r r1)(a:Kk bs t lim r2):Tm bs t lim False (O bs) M r r2:=by
 rcases r with⟨e,b⟩|⟨x,y⟩
 .exact⟨h.1,AG ⟨h.2.2 Z,a⟩,h.2.2⟩
 exact⟨h.1,h.2.1,h.2.2.1,AG ⟨id,Nat.le_antisymm h.2.1 h.1,a⟩⟩
theorem Tm.with_{M':α->I->Prop}{r r':A5 α}(h:Tm bs t lim s p M r r')(a:∀x q,p<=q->q<=O bs->M x q->M' x q):Tm bs t lim s p M' r r':=by
 rcases r with⟨e,b⟩|⟨x,y⟩
 .exact h
 exact⟨h.1,h.2.1,a x y h.1 h.2.1 h.2.2.1,h.2.2.2⟩
theorem Tm.bind{M2:β->I->Prop}{r r':A5 α}{R R':A5 β}(h:Tm bs t lim s p M r r')(m:∀e,r=.error e->R=.error e)(i:∀e,r'=.error e->R'=.error e)(n:∀x q,p<=q->q<=O bs->M x q->r=.ok (x,q)->∃f,(r'=.ok (x,q)->R'=f)/\Tm bs t lim False q M2 R f):Tm bs t lim False p M2 R R':=by
 rcases r with⟨e,u⟩|⟨x,q⟩
 .obtain⟨d,c,g⟩:=h;rw[m _ rfl];refine⟨d,?_,g⟩;rcases c with rfl|c
  .exact AF (i _ Z)
  exact AG ⟨c.1,λa b=>i _ (c.2 a b)⟩
 obtain⟨d,c,g,l⟩:=h;obtain⟨f,k,j⟩:=n x q d c g rfl;rcases l with rfl|⟨_,rfl,o⟩
 .rw[k rfl];exact j.from_ d c
 exact(j.any λa b=>i _ (o a b)).from_ d c
theorem Tm.bindS{M2:β->I->Prop}{r r':A5 α}{R R':A5 β}(h:Tm bs t lim True p M r r')(i:∀e,r=.error e->R=.error e)(g:∀e,r'=.error e->R'=.error e)(k:∀x q,p<=q->q<=O bs->M x q->r=.ok (x,q)->r'=.ok (x,q)->Tm bs t lim s p M2 R R'):Tm bs t lim s p M2 R R':=by
 rcases r with⟨e,l⟩|⟨x,q⟩
 .obtain⟨d,c,f⟩:=h;rw[i _ rfl];refine⟨d,?_,f⟩;rcases c with rfl|c
  .exact AF (g _ Z)
  exact AG ⟨c.1,λa b=>g _ (c.2 a b)⟩
 obtain⟨d,c,f,j⟩:=h;grind
theorem WU(h:t≠[]):∃c,(bs++t)[O bs]?=H c:=by
 obtain _|⟨c,t⟩:=t
 .exact absurd Z h
 exact⟨c,Ba⟩
theorem Tm.at_{r0 r1:A5 α}{G G':AU->A5 α}(j:p<=O bs)(f:p=O bs->∀d,Kk bs t lim d->Tm bs t lim s p M r0 d)(h:∀c,bs[p]?=H c->p<O bs->Tm bs t lim s p M (G c) (G' c)):Tm bs t lim s p M (match(generalizing:=false) bs[p]? with|none=>r0|some c=>if(p:J)=lim then .error (8,(p:J))else G c) (match(generalizing:=false) (bs++t)[p]? with|none=>r1|some c=>if(p:J)=lim then .error (8,(p:J))else G' c):=by
 by_cases i:p<O bs
 .grind [Tm.err]
 have e:bs[p]?=Ao:=Hm E;obtain rfl:p=O bs:=E;rw[e];refine f Z _ λa b=>?_;obtain⟨c,g⟩:=WU b;rw[g];grind
theorem Tm.byte{G G':AU->A5 α}(b:p<=O bs)(h:∀c,bs[p]?=H c->p<O bs->Tm bs t lim s p M (G c) (G' c)):Tm bs t lim s p M (match(generalizing:=false) bs[p]? with|none=>.error (9,(p:J))|some c=>if(p:J)=lim then .error (8,(p:J))else G c) (match(generalizing:=false) (bs++t)[p]? with|none=>.error (9,(p:J))|some c=>if(p:J)=lim then .error (8,(p:J))else G' c):=Tm.at_ b (λe _ a=>Tm.stop e a) h
theorem Tm.ite{c:Prop}[Decidable c]{a b a' b':A5 α}(d:c->Tm bs t lim s p M a a')(e:¬c->Tm bs t lim s p M b b'):Tm bs t lim s p M (if c then a else b) (if c then a' else b'):=B9
end
theorem f9:∀(g a p:I),p<=O bs->O bs<g+p->O (bs++t)<a+p->Tm bs t lim False p (λ_ _=>True) (DL bs lim g p) (DL (bs++t) lim a p)
 |0,_,p,h1,h2,_=>E
 |g+1,0,p,h1,_,h3=>B9
 |g+1,a+1,p,h1,h2,h3=>by unfold DL;refine Tm.at_ h1 (λe _ d=>Tm.last e d trivial) (λc f b=>Tm.ite (λ_=>?_) (λ_=>Tm.ok (Co _) h1 trivial));exact(f9 g a (p+1) b E E).from_ E b
theorem PK(h:p<=O bs):Tm bs t lim False p (λ_ _=>True) (DL bs lim (O bs+1-p) p) (DL (bs++t) lim (O (bs++t)+1-p) p):=f9 _ _ p h E E
theorem WV(b:I)(z:AK):∀(g a p d:I),p<=O bs->O bs<g+p->O (bs++t)<a+p->Tm bs t lim False p (λ_ _=>True) (DZ bs lim b z g p d) (DZ (bs++t) lim b z a p d)
 |0,_,p,_,h1,h2,_=>E
 |g+1,0,p,_,h1,_,h3=>B9
 |g+1,a+1,p,d,h1,h2,h3=>by unfold DZ;refine Tm.at_ h1 (λe _ h=>Tm.last e h trivial) (λc i f=>Tm.ite (λ_=>Tm.ite (λ_=>Tm.err E E) (λ_=>Tm.ite (λ_=>Tm.err E E) (λ_=>?_))) (λ_=>Tm.ite (λ_=>Tm.err E E) (λ_=>Tm.ok (Co _) h1 trivial)));exact(WV b z g a (p+1) _ f E E).from_ E f
theorem uU{c:AU}(h:p<=O bs):Tm bs t lim False p (λ_ _=>True) (GT ⟨Ao,bs,0,0,lim,p,0⟩ c) (GT ⟨Ao,bs++t,0,0,lim,p,0⟩ c):=by
 unfold GT;refine Tm.ite (λ_=>Tm.byte h (λc e a=>Tm.ite (λ_=>?_) (λ_=>Tm.err B9 E))) (λ_=>?_)
 .refine Tm.from_ (q:=p+1) ?_ E a;refine Tm.bind (WV 9223372036854775808 (c.toNat==48) (O bs+1-(p+1)) (O (bs++t)+1-(p+1)) (p+1) (c.toNat-48) a E E) (λ_ z=>Bf) (λ_ z=>Bf) (λx q _ b _ d=>⟨_,λz=>Bf,?_⟩);grind [Tm.ok]
 refine Tm.bind (WV 9223372036854775807 (c.toNat==48) (O bs+1-p) (O (bs++t)+1-p) p (c.toNat-48) h E E) (λ_ z=>Bf) (λ_ z=>Bf) (λx q _ b _ d=>⟨_,λz=>Bf,?_⟩);grind [Tm.ok]
theorem Ox:∀(a:A1) (p:I),p<=O bs->Tm bs t lim True p (λ_ q=>q=p+O a) (Dn bs lim a p) (Dn (bs++t) lim a p)
 |[],p,h=>Tm.ok (Co _) h rfl
 |x::a,p,h=>by unfold Dn;refine Tm.byte h (λc d b=>Tm.ite (λ_=>?_) (λ_=>Tm.err E E));exact((Ox a (p+1) b).with_ (λ_ q _ _ e=>B9)).from_ E b
theorem WW:∀(k p a:I),p<=O bs->Tm bs t lim True p (λ_ q=>q=p+k) (E3 bs lim k p a) (E3 (bs++t) lim k p a)
 |0,p,a,h=>Tm.ok (Co _) h rfl
 |k+1,p,a,h=>by
  unfold E3;refine Tm.byte h (λc f b=>?_);obtain _|d:=Jj c
  .grind [Tm.err]
  exact((WW k (p+1) _ b).with_ (λ_ q _ _ e=>E)).from_ E b
theorem uV(h:p<=O bs):Tm bs t lim True p (λ_ q=>p+4<=q) (Ir bs lim p) (Ir (bs++t) lim p):=by unfold Ir;refine Tm.bindS (WW 4 p 0 h) (λ_ z=>Bf) (λ_ z=>Bf) (λx q _ a e c b=>?_);rw[c,b];refine Tm.ite (λ_=>Tm.err E E) (λ_=>Tm.ite (λ_=>?_) (λ_=>Tm.ok E a E));refine Tm.from_ (q:=q) ?_ E a;refine Tm.bindS (Ox [92,117] q a) (λ_ z=>Bf) (λ_ z=>Bf) (λ_ f _ g d c b=>?_);rw[c,b];dsimp only;have d:f=q+2:=d;refine Tm.from_ (q:=f) ?_ E g;grind [Tm.bindS,WW,Tm.ok,Tm.err]
theorem uW(h:p<=O bs):Tm bs t lim True p (λ_ q=>p+1<=q) (Hp bs lim p) (Hp (bs++t) lim p):=by
 unfold Hp;refine Tm.byte h (λc b a=>?_)
 repeat' refine Tm.ite (λ_=>Tm.ok E a (Co _)) (λ_=>?_)
 refine Tm.ite (λ_=>?_) (λ_=>Tm.err E E);exact((uV a).with_ (λ_ q _ _ e=>E)).from_ E a
theorem Tu:∀(g a p:I) (d:A1) (f:I),p<=O bs->O bs<g+p->O (bs++t)<a+p->Tm bs t lim True p (λl q=>O l+4*p+4<=O d+4*q) (Dr bs lim g p d f) (Dr (bs++t) lim a p d f)
 |0,_,p,_,_,h1,h2,_=>E
 |g+1,0,p,_,_,h1,_,h3=>B9
 |g+1,a+1,p,d,f,h1,h2,h3=>by
  unfold Dr;refine Tm.byte h1 (λc m b=>Tm.ite (λ_=>Tm.ok E b E) (λ_=>Tm.ite (λ_=>?_) (λ_=>Tm.ite (λ_=>Tm.err E E) (λ_=>Tm.ite (λ_=>Tm.err E E) (λ_=>?_)))))
  .refine Tm.from_ (q:=p+1) ?_ E b;refine Tm.bindS (uW b) (λ_ z=>Bf) (λ_ z=>Bf) (λr q _ h e k j=>?_);rw[k,j];dsimp only;refine Tm.from_ (q:=q) ?_ E h;refine(Tu g a q _ _ h E E).with_ (λl y _ _ i=>?_);grind [Qv]
  refine((Tu g a (p+1) _ _ b E E).with_ (λl y _ _ i=>?_)).from_ E b;grind
def DA:AH->A2->AH
 |0,_=>0
 |k+1,d=>match d with
  |.agg ds=>200+(ds.map λd=>30+DA k d).sum
  |.map es=>200+(es.map λe=>100+6*At (CX e.1)+DA k e.2).sum
  |.lit (.string l)=>200+6*At l
  |.ptr (.lit (.string l))=>200+6*At l
  |_=>200
def K3(p:AH)(d:A2)(q:AH):Prop:=∀k,DA k d+30+400*p<=400*q/\EX k d
def JL(ds:AJ (AM Unit)):Prop:=∀d∈ds,∀k,EX k d
def JE(es:AJ (Lit×AM Unit)):Prop:=∀e∈es,Fs (CX e.1)/\∀k,EX k e.2
def LD(bs t:A1)(lim:AI)(rd rd':AH->AS (AI×AI) (AM Unit×AH)):Prop:=∀p,p<=At bs->Tm bs t lim False p (K3 p) (rd p) (rd' p)
def GF(k:AH)(ds:AJ (AM Unit)):AH:=(ds.map λd=>30+DA k d).sum
def Gk(k:AH)(es:AJ (Lit×AM Unit)):AH:=(es.map λe=>100+6*At (CX e.1)+DA k e.2).sum
theorem WX(k:I)(ds:AJ (AM Unit))(d:A2):GF k (ds++[d])=GF k ds+(30+DA k d):=by unfold GF;simp
theorem ff(k:I)(es:AJ (Lit×AM Unit))(l:A1)(d:A2):Gk k (es++[(.string l,d)])=Gk k es+(100+6*O l+DA k d):=by unfold Gk;simp[CX]
def K4{α:Type}(μ:AH->α->AH)(J:α->Prop)(a:α)(p:AH)(b:α)(q:AH):Prop:=(∀k,μ k b+400*p<=μ k a+400*q)/\(J a->J b)
theorem fh{α:Type}{lim:AI}{μ:I->α->I}{J:α->Prop}{itF itF':α->I->A5 α}{last:I}(hi:∀a p,p<=O bs->Tm bs t lim False p (K4 μ J a p) (itF a p) (itF' a p)):∀(g j p:I) (d:α),p<=O bs->O bs<g+p->O (bs++t)<j+p->Tm bs t lim False p (K4 μ J d p) (Fy bs lim itF last g p d) (Fy (bs++t) lim itF' last j p d)
 |0,_,p,_,h1,h2,_=>E
 |g+1,0,p,_,h1,_,h3=>B9
 |g+1,j+1,p,d,h1,h2,h3=>by unfold Fy;refine Tm.bind (PK h1) (λ_ z=>Bf) (λ_ z=>Bf) (λ_ r u n _ f=>⟨_,λz=>Bf,?_⟩);rw[f];dsimp only;refine Tm.bind (hi d r n) (λ_ z=>Bf) (λ_ z=>Bf) (λm A v o i f=>⟨_,λz=>Bf,?_⟩);rw[f];dsimp only;refine Tm.bind (PK o) (λ_ z=>Bf) (λ_ z=>Bf) (λ_ s w q _ f=>⟨_,λz=>Bf,?_⟩);rw[f];dsimp only;refine Tm.byte q (λc x l=>Tm.ite (λ_=>Tm.ok E l ⟨λk=>AY (i.1 k),i.2⟩) (λ_=>Tm.ite (λ_=>?_) (λ_=>Tm.err E E)));exact((fh hi g j (s+1) m l E E).with_ (λb y _ _ e=>⟨λk=>B3 (e.1 k) (i.1 k),λh=>e.2 (i.2 h)⟩)).from_ E l
theorem fj{α:Type}{lim:AI}{μ:I->α->I}{J:α->Prop}{itF itF':α->I->A5 α}(last:I)(hi:∀a p,p<=O bs->Tm bs t lim False p (K4 μ J a p) (itF a p) (itF' a p))(acc:α)(h:p<=O bs):Tm bs t lim False p (K4 μ J acc p) (G3 bs lim itF last p acc) (G3 (bs++t) lim itF' last p acc):=by unfold G3;refine Tm.bind (PK h) (λ_ z=>Bf) (λ_ z=>Bf) (λ_ d m g _ l=>⟨_,λz=>Bf,?_⟩);rw[l];dsimp only;have f:Tm bs t lim False d (K4 μ J acc p) (Fy bs lim itF last (O bs+1-d) d acc) (Fy (bs++t) lim itF' last (O (bs++t)+1-d) d acc):=(fh hi _ _ d acc g E E).with_ (λb y _ _ e=>⟨λk=>AY (e.1 k),e.2⟩);refine Tm.at_ g (λe o i=>?_) (λc n j=>Tm.ite (λ_=>Tm.ok E j ⟨λk=>E,id⟩) (λ_=>f));subst e;exact f.any i
theorem uX(b:LD bs t lim rd rd')(ds:AJ (AM Unit))(p:I)(h:p<=O bs):Tm bs t lim False p (K4 GF JL ds p) (FL rd ds p) (FL rd' ds p):=by unfold FL;refine Tm.bind (b p h) (λ_ z=>Bf) (λ_ z=>Bf) (λd q _ a e c=>⟨_,λz=>Bf,?_⟩);rw[c];refine Tm.ok (Co _) a ⟨λk=>by have:=e k;rw[WX];omega,λh x f k=>by grind [JL,K3]⟩
theorem uY{ks:AJ A1}(h:p<=O bs):Tm bs t lim True p (λl q=>Fs l/\O l+4*p+8<=4*q) (J2 bs lim ks p) (J2 (bs++t) lim ks p):=by unfold J2;refine Tm.bindS (Ox [34] p h) (λ_ z=>Bf) (λ_ z=>Bf) (λ_ q _ b e a c=>?_);rw[a,c];dsimp only;have e:q=p+1:=e;refine Tm.from_ (q:=q) ?_ E b;refine Tm.bindS (Tu (O bs+1-q) (O (bs++t)+1-q) q [] 0 b E E) (λ_ z=>Bf) (λ_ z=>Bf) (λl r _ g d a c=>?_);have f:=(Ts bs lim _ _ [] 0 _ _ (Co 0) Fs.nil Z a).1;grind [Tm.err,Tm.ok]
def fk(k:AH)(a:AJ A1×AJ (Lit×AM Unit)):AH:=Gk k a.2
theorem uZ(m:LD bs t lim rd rd')(a:AJ A1×AJ (Lit×AM Unit))(p:I)(h:p<=O bs):Tm bs t lim False p (K4 fk (λa=>JE a.2) a p) (Fk bs lim rd a p) (Fk (bs++t) lim rd' a p):=by
 unfold Fk;refine Tm.bind (uY h) (λ_ z=>Bf) (λ_ z=>Bf) (λl s _ e q b=>⟨_,λz=>Bf,?_⟩);rw[b];dsimp only;refine Tm.bind (PK e) (λ_ z=>Bf) (λ_ z=>Bf) (λ_ n _ f _ b=>⟨_,λz=>Bf,?_⟩);rw[b];dsimp only;refine Tm.bind (Ox [58] n f) (λ_ z=>Bf) (λ_ z=>Bf) (λ_ u _ g _ b=>⟨_,λz=>Bf,?_⟩);rw[b];dsimp only;refine Tm.bind (PK g) (λ_ z=>Bf) (λ_ z=>Bf) (λ_ o _ i _ b=>⟨_,λz=>Bf,?_⟩);rw[b];dsimp only;refine Tm.bind (m o i) (λ_ z=>Bf) (λ_ z=>Bf) (λd v _ j c b=>⟨_,λz=>Bf,?_⟩);rw[b];refine Tm.ok (Co _) j ⟨λk=>?_,λh x r=>?_⟩
 .have:=c k;grind [fk,ff]
 grind [JE,CX,K3]
theorem Nt{d:A2}(h:∀k,DA (k+1) d=200)(a:∀k,EX k d){q:I}(b:p<q):K3 p d q:=λk=>by
 refine⟨?_,a k⟩;obtain _|k:=k
 .show 0+30+_<=_;omega
 rw[h k];omega
theorem fo{l:A1}(h:Fs l){q:I}(a:O l+4*(p+1)<=4*q):K3 p (.lit (.string l)) q:=λk=>by
 refine⟨?_,uT h k⟩;obtain _|k:=k
 .show 0+30+_<=_;omega
 show 200+6*O l+30+_<=_;omega
theorem vb{l:A1}{q:I}(a:O l+4*(p+1)<=4*q):K3 p (.ptr (.lit (.string l))) q:=λk=>by
 refine⟨?_,uS k⟩;obtain _|k:=k
 .show 0+30+_<=_;omega
 show 200+6*O l+30+_<=_;omega
theorem ft{ds:AJ (AM Unit)}{r q:I}(e:p<r)(c:r<=q)(h:K4 GF JL [] r ds q):K3 p (.agg ds) q:=λk=>by
 have a:=h.2 nofun
 obtain _|k:=k
 .exact⟨by show 0+30+_<=_;omega,trivial⟩
 have:=h.1 k;refine⟨?_,λd b=>a d b k⟩;show 200+GF k ds+30+_<=_;grind [GF]
theorem fw{r q:I}(d:p<r)(c:r<=q)(h:K4 Gk JE [] r es q):K3 p (.map es) q:=λk=>by
 have a:=h.2 nofun
 obtain _|k:=k
 .exact⟨by show 0+30+_<=_;omega,trivial⟩
 have:=h.1 k;refine⟨?_,λe b=>⟨(a e b).1,(a e b).2 k⟩⟩;show 200+Gk k es+30+_<=_;grind [Gk]
theorem vd(bs t:A1)(lim depth:J)(g:I)(i:¬(g:J)=depth->LD bs t lim rd rd')(c:AU)(p:I)(h:p+1<=O bs):Tm bs t lim False p (K3 p) (JU bs lim depth g rd (λc p=>GT ⟨Ao,bs,0,0,lim,p,0⟩ c) c (p+1)) (JU (bs++t) lim depth g rd' (λc p=>GT ⟨Ao,bs++t,0,0,lim,p,0⟩ c) c (p+1)):=by
 unfold JU;refine Tm.ite (λ_=>?_) (λ_=>Tm.ite (λ_=>?_) (λ_=>Tm.ite (λ_=>?_) (λ_=>Tm.ite (λ_=>?_) (λ_=>Tm.ite (λ_=>?_) (λ_=>Tm.ite (λ_=>?_) (λ_=>Tm.ite (λo=>?_) (λ_=>?_)))))))
 .refine Tm.from_ (q:=p+1) ?_ E h;refine Tm.bind (Ox _ (p+1) h) (λ_ z=>Bf) (λ_ z=>Bf) (λ_ q d b _ a=>⟨_,λz=>Bf,?_⟩);rw[a];refine Tm.ok (Co _) b (Nt (λ_=>rfl) f8 E)
 .refine Tm.from_ (q:=p+1) ?_ E h;refine Tm.bind (Ox _ (p+1) h) (λ_ z=>Bf) (λ_ z=>Bf) (λ_ q d b _ a=>⟨_,λz=>Bf,?_⟩);rw[a];refine Tm.ok (Co _) b (Nt (λ_=>rfl) (λk=>Tt k) E)
 .refine Tm.from_ (q:=p+1) ?_ E h;refine Tm.bind (Ox _ (p+1) h) (λ_ z=>Bf) (λ_ z=>Bf) (λ_ q d b _ a=>⟨_,λz=>Bf,?_⟩);rw[a];refine Tm.ok (Co _) b (Nt (λ_=>rfl) (λk=>Tt k) E)
 .refine Tm.from_ (q:=p+1) ?_ E h;refine Tm.bind (Tu (O bs+1-(p+1)) (O (bs++t)+1-(p+1)) (p+1) [] 0 h E E) (λ_ z=>Bf) (λ_ z=>Bf) (λl q d b e a=>⟨_,λz=>Bf,?_⟩);have n:=(Ts bs lim _ _ [] 0 _ _ (Co 0) Fs.nil Z a).1;grind [Tm.ok,fo]
 .refine Tm.ite (λ_=>Tm.err E E) (λf=>?_);refine Tm.from_ (q:=p+1) ?_ E h;refine Tm.bind (fj 93 (uX (i f)) [] h) (λ_ z=>Bf) (λ_ z=>Bf) (λj q d b e a=>⟨_,λz=>Bf,?_⟩);rw[a];refine Tm.ok (Co _) b (ft (UJ p) d e)
 .refine Tm.ite (λ_=>Tm.err E E) (λf=>?_);refine Tm.from_ (q:=p+1) ?_ E h;refine Tm.bind (fj 125 (uZ (i f)) ([],[]) h) (λ_ z=>Bf) (λ_ z=>Bf) (λm q d b e a=>⟨_,λz=>Bf,?_⟩);rw[a];refine Tm.ok (Co _) b (fw (UJ p) d e)
 .dsimp only;refine Tm.from_ (q:=p+1) ?_ E h;refine Tm.bind (uU h) (λ_ z=>Bf) (λ_ z=>Bf) (λz q d b _ a=>⟨_,λz=>Bf,?_⟩);rw[a];refine Tm.ok (Co _) b (Nt (λ_=>rfl) (f7 (VP (by assumption) a).1) E)
 grind [Tm.err]
theorem ve(g:I):∀(a:I),(a:J)<=depth->depth<a+g->LD bs t lim (Fl bs lim depth (λc p=>GT ⟨Ao,bs,0,0,lim,p,0⟩ c) g a) (Fl (bs++t) lim depth (λc p=>GT ⟨Ao,bs++t,0,0,lim,p,0⟩ c) g a):=by
 induction g with
 |zero=>intro a b d;omega
 |succ g i =>
  intro a b d p e;unfold Fl;refine Tm.byte e (λc f h=>?_);grind [vd]
theorem WY:∀(k p a:I),p<=O bs->Tm bs t lim True p (λ_ q=>q=p+k) (CR bs lim k p a) (CR (bs++t) lim k p a)
 |0,p,a,h=>Tm.ok (Co _) h rfl
 |k+1,p,a,h=>by unfold CR;refine Tm.byte h (λc d b=>?_);exact((WY k (p+1) _ b).with_ (λ_ q _ _ e=>E)).from_ E b
theorem fy:∀(k p:I) (b:A1),p<=O bs->Tm bs t lim True p (λl q=>O l+p=O b+q) (EJ bs lim k p b) (EJ (bs++t) lim k p b)
 |0,p,a,h=>Tm.ok (Co _) h rfl
 |k+1,p,b,h=>by unfold EJ;refine Tm.byte h (λc f d=>?_);refine((fy k (p+1) _ d).with_ (λ_ q _ _ e=>?_)).from_ E d;grind
theorem WZ{p0:I}:∀(k p:I) (d:A1) (f:I),p0<=p->p<=O bs->(p0=p->f=O d)->Tm bs t lim True p0 (λl q=>O l+p=O d+q) (Dm bs lim k p d f) (Dm (bs++t) lim k p d f)
 |0,p,d,f,h0,h,hw=>by grind [Dm,Tm.ok,Tm.err]
 |k+1,p,d,f,h0,h,hw=>by
  unfold Dm;by_cases i:p<O bs
  .have e:(bs++t)[p]?=bs[p]?:=GM i;obtain⟨c,g⟩:∃c,bs[p]?=H c:=⟨_,D3 i⟩
   rw[e,g];refine Tm.ite (λ_=>Tm.err E E) (λ_=>Tm.ite (λ_=>Tm.err E E) (λ_=>?_));refine(WZ k (p+1) _ _ E i E).with_ (λl q _ _ e=>?_);grind
  have e:bs[p]?=Ao:=Hm E;obtain rfl:p=O bs:=E;rw[e];refine⟨E,AG ⟨E,λa b=>?_⟩,λ_=>E⟩;obtain⟨c,g⟩:=WU b;rw[g];grind
theorem vf(b:I->I×I×I)(bs t:A1)(lim:J)(ks:AJ A1)(p:I)(h:p<=O bs):Tm bs t lim True p (λl q=>Fs l/\O l+p+1<=q) (E8 b bs lim ks p) (E8 b (bs++t) lim ks p):=by unfold E8;refine Tm.byte h (λc k d=>Tm.ite (λ_=>?_) (λ_=>Tm.err E E));refine Tm.bindS ((WY _ (p+1) _ d).from_ (Qm p) d) (λ_ z=>Bf) (λ_ z=>Bf) (λx q _ g e a f=>?_);rw[a,f];dsimp only;refine Tm.bindS (WZ x q [] 0 E g (λ_=>rfl)) (λ_ z=>Bf) (λ_ z=>Bf) (λl r _ m i a f=>?_);have j:=(WT bs lim _ _ [] 0 _ _ (Co 0) Fs.nil Z a).1;grind [Tm.err,Tm.ok]
theorem fz(c:LD bs t lim rd rd'):∀(k p:I) (acc:AJ (AM Unit)),p<=O bs->Tm bs t lim False p (K4 GF JL acc p) (GD rd k p acc) (GD rd' k p acc)
 |0,p,acc,h=>Tm.ok (Co _) h ⟨λ_=>Co _,id⟩
 |k+1,p,acc,h=>by
  unfold GD;refine Tm.bind (c p h) (λ_ z=>Bf) (λ_ z=>Bf) (λd q _ f e g=>⟨_,λz=>Bf,?_⟩);rw[g];dsimp only;refine(fz c k q _ f).with_ (λb y _ _ a=>⟨λj=>?_,λh=>a.2 λx m j=>?_⟩)
  .have i:=e j;have l:=a.1 j;grind [WX]
  grind [JL,K3]
theorem fA{kf kf':AJ A1->I->A5 A1}(g:∀a p,p<=O bs->Tm bs t lim True p (λl q=>Fs l/\O l+p+1<=q) (kf a p) (kf' a p))(i:LD bs t lim rd rd'):∀(k p:I) (a:AJ A1) (acc:AJ (Lit×AM Unit)),p<=O bs->Tm bs t lim False p (K4 Gk JE acc p) (Gj kf rd k p a acc) (Gj kf' rd' k p a acc)
 |0,p,a,acc,h=>Tm.ok (Co _) h ⟨λ_=>Co _,id⟩
 |k+1,p,a,acc,h=>by
  unfold Gj;refine Tm.bind (g a p h) (λ_ z=>Bf) (λ_ z=>Bf) (λl q _ m o c=>⟨_,λz=>Bf,?_⟩);rw[c];dsimp only;refine Tm.bind (i q m) (λ_ z=>Bf) (λ_ z=>Bf) (λd r _ n e c=>⟨_,λz=>Bf,?_⟩);rw[c];dsimp only;refine(fA g i k r _ _ n).with_ (λb y _ _ f=>⟨λj=>?_,λh=>f.2 λx v=>?_⟩)
  .have s:=e j;have u:=f.1 j;grind [ff]
  grind [JE,CX,K3]
theorem X2(a:J){w:J}{q:I}(b:p<q)(c:q<=O bs){R:AS (J×J) (AM Unit×I)}(h:R=match Fj a w x q with|.error e=>.error e|.ok z=>.ok (.lit (.int Y z),q)):Tm bs t lim False p (K3 p) R R:=by
 rw[h];rcases e:Fj a w x q with f|z
 .grind [Fj,Tm.err]
 exact Tm.ok E c (Nt (λ_=>rfl) (f7 (av e)) b)
theorem vh(bs t:A1)(lim:J){li li':I->I->AS (J×J) (AJ (AM Unit)×I)}{ma ma':I->I->AS (J×J) (AJ (Lit×AM Unit)×I)}(d w x p q:I)(b:p<q)(a:q<=O bs)(hl:d=9->Tm bs t lim False q (K4 GF JL [] q) (li x q) (li' x q))(h:d=10->Tm bs t lim False q (K4 Gk JE [] q) (ma x q) (ma' x q)):Tm bs t lim False p (K3 p) (G0 bs lim li ma d w x q) (G0 (bs++t) lim li' ma' d w x q):=by
 unfold G0;split
 .exact Tm.ok E a (Nt (λ_=>rfl) (λk=>Tt k) b)
 .exact Tm.ok E a (Nt (λ_=>rfl) (λk=>Tt k) b)
 .exact X2 4 b a Z
 .exact X2 5 b a Z
 .exact X2 6 b a Z
 .refine Tm.from_ (q:=q) ?_ E a;refine Tm.bind (fy x q [] a) (λ_ z=>Bf) (λ_ z=>Bf) (λl r f g e c=>⟨_,λz=>Bf,?_⟩);grind [Tm.ok,vb]
 .refine Tm.from_ (q:=q) ?_ E a;refine Tm.bind (WZ x q [] 0 (Co _) a (λ_=>rfl)) (λ_ z=>Bf) (λ_ z=>Bf) (λl r f g e c=>⟨_,λz=>Bf,?_⟩);have m:=(WT bs lim _ _ [] 0 _ _ (Co 0) Fs.nil Z c).1;grind [Tm.ok,fo]
 .refine Tm.from_ (q:=q) ?_ E a;refine Tm.bind (hl Z) (λ_ z=>Bf) (λ_ z=>Bf) (λi r f g e c=>⟨_,λz=>Bf,?_⟩);grind [Tm.ok,ft]
 .refine Tm.from_ (q:=q) ?_ E a;refine Tm.bind (h Z) (λ_ z=>Bf) (λ_ z=>Bf) (λj r f g e c=>⟨_,λz=>Bf,?_⟩);grind [Tm.ok,fw]
 exact Tm.ok E a (Nt (λ_=>rfl) f8 b)
theorem fC(b:I->I×I×I)(g:I):∀(a:I),(a:J)<=depth->depth<a+g->LD bs t lim (DM b bs lim depth g a) (DM b (bs++t) lim depth g a):=by
 induction g with
 |zero=>intro a f h;omega
 |succ g s =>
  intro a f h p i;unfold DM;refine Tm.byte i (λc l d=>Tm.ite (λ_=>Tm.err E E) (λ_=>Tm.ite (λ_=>Tm.err E E) (λn=>?_)));have k:(b c.toNat).1=9\/(b c.toNat).1=10->LD bs t lim (DM b bs lim depth g (a+1)) (DM b (bs++t) lim depth g (a+1)):=λj=>B9;refine Tm.bindS ((WY _ (p+1) _ d).from_ (Qm p) d) (λ_ z=>Bf) (λ_ z=>Bf) (λx q _ m e r o=>?_);grind [vh,fz,fA,vf]
def Tv(n:AH)(r:AS (AI×AI) (AM Unit)):AS (AI×AI) (AM Unit×AH):=match r with
 |.error e=>.error e
 |.ok d=>.ok (d,n)
theorem vk{sp sp':I->A5 Unit}{th th':I->AS (J×J) (AM Unit×I)}(m:∀p,p<=O bs->Tm bs t lim False p (λ_ _=>True) (sp p) (sp' p))(q:LD bs t lim th th'):Tm bs t lim False 0 (λd _=>∀k,DA k d+30<=400*O bs/\EX k d) (Tv (O bs) (Lw sp th bs lim)) (Tv (O (bs++t)) (Lw sp' th' (bs++t) lim)):=by
 unfold Lw;refine Tm.bind (m 0 (En _)) (λ_ z=>keb) (λ_ z=>keb) (λ_ r _ n _ g=>⟨_,λz=>Bf,?_⟩);rw[g];dsimp only;refine Tm.bind (q r n) (λ_ z=>keb) (λ_ z=>keb) (λd s _ o i g=>⟨_,λz=>Bf,?_⟩);rw[g];dsimp only;refine Tm.bind (m s o) (λ_ z=>keb) (λ_ z=>keb) (λ_ f _ u _ g=>⟨_,λz=>Bf,?_⟩);rw[g];dsimp only;unfold KS;dsimp only;by_cases l:f<O bs
 .have e:(bs++t)[f]?=bs[f]?:=GM l;obtain⟨c,h⟩:∃c,bs[f]?=H c:=⟨_,D3 l⟩
  rw[e,h];dsimp only;by_cases j:(f:J)=lim
  .rw[Cn j];exact Tm.err E E
  rw[Ci j];exact Tm.err E E
 have e:bs[f]?=Ao:=Hm E;obtain rfl:f=O bs:=E;rw[e];refine⟨Co _,Co _,λk=>⟨AY ((i k).1),(i k).2⟩,AG ⟨id,Z,λa b=>?_⟩⟩;obtain⟨c,h⟩:=WU b;rw[h];subst a;dsimp only;rw[Cn rfl];rfl
theorem vm(fm:J)(t:A1)(lim:J)(b:0<=d):LD bs t lim (GY fm bs d lim) (GY fm (bs++t) d lim):=λp a=>by unfold GY;exact Tm.ite (λ_=>ve (d.toNat+1) 0 E E p a) (λ_=>Tm.ite (λ_=>fC E2 (d.toNat+1) 0 E E p a) (λ_=>fC Dy (d.toNat+1) 0 E E p a))
theorem X3(fm:J)(bs t:A1)(lim:J)(a:0<=d):Tm bs t lim False 0 (λd _=>∀k,DA k d+30<=400*O bs/\EX k d) (Tv (O bs) (DN fm bs d lim)) (Tv (O (bs++t)) (DN fm (bs++t) d lim)):=by unfold DN;refine vk (λp b=>?_) (vm fm t lim a);grind [Jo,PK,Tm.ok]
theorem fD(t:A1)(b:0<=d){en:J}(h:DN fm bs d lim=.error (en,pl))(c:¬pl=O bs):pl<O bs/\DN fm (bs++t) d lim=.error (en,pl):=by
 have:=X3 fm bs t lim b;rw[h]at this;obtain⟨f,a,_⟩:=this;rcases a with a|a
 .refine⟨E,?_⟩;rcases h3:DN fm (bs++t) d lim with e|d
  .rw[h3]at a;cases a;rfl
  rw[h3]at a;cases a
 exact absurd a.1 c
theorem Ri(a:0<=d){x:A2}(h:DN fm bs d lim=.ok x)(k:I):DA k x+30<=400*O bs/\EX k x:=by have:=X3 fm bs [] lim a;rw[h]at this;exact this.2.2.1 k
theorem vo(a:0<=d){x:A2}(h:DN fm bs d lim=.ok x):DA k x+30<=400*O bs:=(Ri a h k).1
theorem fE(i:0<=d)(hl:0<=lim)(h:lim.toNat<O s):∃g c,DN fm (s.take (lim.toNat+1)) d lim=.error (g,c)/\c<=lim:=by
 have j:O (s.take lim.toNat)=lim.toNat:=B9;have:=X3 fm (s.take lim.toNat) [s[lim.toNat]] lim i;rw[List.take_append_getElem]at this;have b:lim=O (s.take lim.toNat):=E;have k:O (s.take (lim.toNat+1))=lim.toNat+1:=B9;rcases h3:DN fm (s.take (lim.toNat+1)) d lim with e|x
 .refine⟨e.1,e.2,Z,?_⟩;rw[h3]at this;rcases h4:DN fm (s.take lim.toNat) d lim with f|x
  .rw[h4]at this;rcases this.2.1 with a|⟨_,a⟩
   .cases a;have:=this.1;omega
   cases a b Ba;exact P6 _
  rw[h4]at this;rcases this.2.2.2 with a|⟨_,_,a⟩
  .cases a
  cases a b Ba;exact P6 _
 rw[h3]at this;rcases h4:DN fm (s.take lim.toNat) d lim with f|x
 .rw[h4]at this;rcases this.2.1 with a|⟨_,a⟩
  .cases a
  cases a b Ba
 rw[h4]at this;rcases this.2.2.2 with a|⟨_,_,a⟩
 .injection a with a;grind
 cases a b Ba
theorem fF(fm:J)(s:A1)(d lim:J)(a:0<=d)(hl:0<=lim):DN fm (s.take (lim.toNat+1)) d lim=DN fm s d lim:=by
 by_cases h:O s<=lim.toNat+1
 .rw[ML h]
 obtain⟨c,f,b,e⟩:=fE (fm:=fm) (s:=s) a hl E;have:=fD (s.drop (lim.toNat+1)) a b B9;simp_all
def G6(T:A2->A1)(e:Lit×AM Unit):A1:=(Fe (CX e.1)++[58])++T e.2
structure Kq(base:Nat)(W:World)(N:Nat)(cs:A3)(v:Value)(cur:A1)(V:World):Prop where
 own:Ck V base v cur
 below:Below base W V
 row:V.heap[N]?=some (.cells cs 225)
theorem Kq.app{o:Obj}{b:AU}(h:Kq base W N cs v cur V)(f:V'.ownsRow base 5 1 v' (O cur+1) (cur.map CJ++[CJ b]))(d:(Az V o).grownBy V' (Ax v)):Kq base W N cs v' (cur++[b]) V':=by
 have a:=GC ((Cq base V).alloc h.own.2.1 _) (h.own.1.alloc _) d ke7;refine⟨⟨B9,Cy h.own.2.1 a.size,?_⟩,h.below.trans a,?_⟩
 .rcases f.2 with⟨e,_⟩|⟨g,i,c,e,_⟩<;>grind
 exact((Tp).trans (Tq (h.own.1.alloc o) d)) N cs _ _ h.row B8
theorem Kq.said{l:A1}(h:Kq base W N cs v cur V)(c:Ck V' base v' (cur++l))(a:Below base V V')(b:L4 V V'):Kq base W N cs v' (cur++l) V' :=
 ⟨c,h.below.trans a,b N cs _ _ h.row B8⟩
theorem wT(l:A1):0<O (Fe l):=by simp[Fe]
theorem wU(T:A2->A1){q:A4}(hF:∀k,F k->k<base)(hl:O bs+O (Dd (G6 T) es)+2<=999999999)(hn:O es<=999999999)(u:DH W 225 2 F (Ac q (O es) cap) (O es) xs)(au:∀(aj:I) (key:Lit) (d:A2),es[aj]?=H (key,d)->∃l al y,key=.string l/\xs[2*aj]?=H (Ae ⟨Aw l⟩)/\xs[2*aj+1]?=H (Ai al y)/\X5 W base (Ai al y) (T d))(h:Ck W base v bs):Ar As 154 #[v,Ac q (O es) cap] W λe W'=>∃A,e=Ak A/\Ck W' base A (((bs++[123])++Dd (G6 T) es)++[125])/\Below base W W':=by
 obtain⟨i0,hi,a1,a2,a4⟩:=DD Tryz.infoU8;obtain⟨a8,bh,a9,rfl⟩:=h.2.2;have B:=C9 h;have HU:=C9 u;have HI:=C9 au;go_enter func154,ntmps154
 go_wp2_with(first
  |(at_builtin;refine JS 123 B.1 ?_ (hb:=B1 B.2.1);intro A w2 b s n;obtain⟨aq,ap,rfl⟩:=ownsRow_succ b;have am:=C9 (GC ((Cq _ _).alloc B.2.1 _) (B.1.alloc _) s (B1 B.2.1));have a6:D (Ck w2 base (Ac (Aa aq) _ ap) (bs++[123])):=⟨M6 b Z,Cy B.2.1 am.size,_,_,_,Z⟩))
 go_loopg[0,12] (O es) (λg y a5 wr=>∃(k:I) (a:A4) (z c:I),y=Ac a z c/\a5=C Y k/\D (k+g=O es)/\D (Ck wr base (Ac a z c) ((bs++[123])++Dd (G6 T) (es.take k)))/\D (Below base W wr))
 case atStart=>grind [Dd]
 case round =>
  obtain⟨k,a,z,c,rfl,rfl,hk,o,V⟩:=hrel;have ax:O ((bs++[123])++Dd (G6 T) (es.take k))<=999999998:=by grind [Rl]
  obtain⟨m,HC⟩:=CA ((bs++[123])++Dd (G6 T) (es.take k));rw[AE HC]at o ax;obtain _|g:=gk
  .have ay:¬(k:J)<O es:=AY (AE hk);have HT:D (es.take k=es):=by grind [D]
   go_wp2_with(first
    |(at_builtin;refine JS 125 o.1 ?_ (hb:=B1 o.2.1);intro A w4 b s n;obtain⟨ae,ac,rfl⟩:=ownsRow_succ b;have j:=C9 (GC ((Cq _ _).alloc o.2.1 _) (o.1.alloc _) s (B1 o.2.1));have an:D (Ck w4 base (Ac (Aa ae) _ ac) (m++[125])):=⟨M6 b Z,Cy o.2.1 j.size,_,_,_,Z⟩))
   go_ret;have he:m++[125]=((bs++[123])++Dd (G6 T) es)++[125]:=by rw[<-AE HC,AE HT]
   have h4:=AE an;rw[he]at h4
   first|exact⟨_,rfl,h4,V.trans j⟩|exact⟨_,rfl,by simpa using h4,V.trans j⟩
  have aw:k<O es:=AY (AE hk);have ay:(k:J)<O es:=E;have HR:=HU.same (V':=wr) (G:=F) (λ_ h=>h) (λak hj=>V.block ak (hF ak hj));obtain⟨q0,rfl⟩:∃q0,q=Aa q0:=by rcases HR.2 with⟨_,e⟩|⟨g,ba,m,e,_⟩<;>grind
  obtain⟨⟨key,d⟩,hd⟩:∃d,es[k]?=H d:=⟨es[k],D3 aw⟩
  obtain⟨l,w,x,rfl,az,a0,hI⟩:=HI.out k key d hd;have bc:A6 wr q0 (k*2) (Ae ⟨Aw l⟩):=by have:=HR.cell (2*k) _ az;grind [Addr.add]
  have bd:A6 wr q0 (k*2+1) (Ai w x):=by have:=HR.cell (2*k+1) _ a0;grind [Addr.add]
  have L:D (Kq base W (K (U wr)) #[Ae ⟨Aw l⟩,Ai w x] (Ac a z c) m (Az wr (M #[Ae ⟨Aw l⟩,Ai w x] 225))):=⟨⟨o.1.alloc _,B0 o.2.1,_,_,_,Z⟩,V.trans ((Cq base wr).alloc o.2.1 _),Cj _⟩
  have HJ:=C9 hI;have bb:=Rl (G6 T) es (k+1);have be:O (G6 T (.string l,d))=O (Fe l)+1+O (T d):=by simp[G6,CX];omega
  by_cases av:k=0
  .subst av;have HT:=C9 (Rj (G6 T) hd);have hL:O m+O (Fe l)+1+O (T d)+1<=999999999:=by grind [D,Dd]
   have HE:D (((m++Fe l)++[58])++T d=(bs++[123])++Dd (G6 T) (es.take (0+1))):=by grind [D,G6,CX,Dd]
   have Q:=Xn ⟨Aw l⟩ B9 L.own;have e9:Fe (⟨Aw l⟩:AT).data.toList=Fe l:=rfl;rw[e9]at Q
   go_wp2_with(first
    |(go_at_call 152;refine Q.mono ?_;rintro e w5 ⟨v5,rfl,h5,ag,ai⟩;obtain⟨f,i⟩:=CA (m++Fe l);have aa:D (0<O f/\O f+1+O (T d)+1<=999999999):=(by grind [D]);have p:D (Kq base W (K (U wr)) #[Ae ⟨Aw l⟩,Ai w x] v5 f w5):=(by rw[<-AE i];exact L.said h5 ag ai);obtain⟨g5,c5,rfl⟩:=Wh p.own aa.1)
    |(at_builtin;refine JS 58 p.own.1 ?_ (hl:=by grind [D,maxLen]) (hy:=by grind [D]) (hb:=kdX);intro A S b s n;obtain⟨af,ad,rfl⟩:=ownsRow_succ b;have r:D (Kq base W (K (U wr)) #[Ae ⟨Aw l⟩,Ai w x] (Ac (Aa af) (O f+1) ad) (f++[58]) S):=p.app b s;have ar:=Cb r.row 1)
    |(go_at_call 113;refine(HJ S _ _ r.below r.own (by grind [D])).mono ?_;rintro e w7 ⟨v7,rfl,h7,ah⟩;obtain⟨o7,b7,N,R,P,rfl⟩:=h7;have ao:D (Ck w7 base (Ac N R P) ((f++[58])++T d)):=⟨o7,b7,_,_,_,Z⟩;have t:=C9 (r.below.trans ah)))
   go_roundg g
   case measure=>omega
   case rel=>exact⟨1,N,R,P,rfl,Bb,B9,by grind [D],t⟩
  have HT:=C9 (Rk (G6 T) E hd);have bg:(0:J)<(k:J):=E;have hL:O m+1+O (Fe l)+1+O (T d)+1<=999999999:=by grind [D]
  have HE:D ((((m++[44])++Fe l)++[58])++T d=(bs++[123])++Dd (G6 T) (es.take (k+1))):=by grind [D,G6,CX]
  go_wp2_with(first
   |(at_builtin;refine JO _ Z _ _ 50 Z base 5 i0 (C .u8 0) 1 1 underlying50 hi a1 a2 a4 Z B8 _ _ _ Z (L.own.1.alloc _) ⟨K (U wr)+1,0,Ao⟩ 1 1 [C .u8 44] Z Z (by grind [EI,World.size_alloc]) (λbi u=>by simp at u;subst u;rfl) Bc E (by have:=L.own.2.1;grind [World.size_alloc]) ?_;intro A w4 b s n;obtain⟨ae,ac,rfl⟩:=ownsRow_succ b;have ab:D (Kq base W (K (U wr)) #[Ae ⟨Aw l⟩,Ai w x] (Ac (Aa ae) (O m+1) ac) (m++[44]) w4):=L.app b s;have bf:=Cb ab.row 0;have Q:=Xn ⟨Aw l⟩ B9 ab.own;have e9:Fe (⟨Aw l⟩:AT).data.toList=Fe l:=rfl;rw[e9]at Q)
   |(go_at_call 152;refine Q.mono ?_;rintro e w5 ⟨v5,rfl,h5,ag,ai⟩;obtain⟨f,i⟩:=CA ((m++[44])++Fe l);have aa:D (0<O f/\O f+1+O (T d)+1<=999999999):=(by grind [D]);have p:D (Kq base W (K (U wr)) #[Ae ⟨Aw l⟩,Ai w x] v5 f w5):=(by rw[<-AE i];exact ab.said h5 ag ai);obtain⟨g5,c5,rfl⟩:=Wh p.own aa.1)
   |(at_builtin;refine JS 58 p.own.1 ?_ (hl:=by grind [D,maxLen]) (hy:=by grind [D]) (hb:=kdX);intro A S b s n;obtain⟨af,ad,rfl⟩:=ownsRow_succ b;have r:D (Kq base W (K (U wr)) #[Ae ⟨Aw l⟩,Ai w x] (Ac (Aa af) (O f+1) ad) (f++[58]) S):=p.app b s;have ar:=Cb r.row 1)
   |(go_at_call 113;refine(HJ S _ _ r.below r.own (by grind [D])).mono ?_;rintro e w7 ⟨v7,rfl,h7,ah⟩;obtain⟨o7,b7,N,R,P,rfl⟩:=h7;have ao:D (Ck w7 base (Ac N R P) ((f++[58])++T d)):=⟨o7,b7,_,_,_,Z⟩;have t:=C9 (r.below.trans ah)))
  go_roundg g
  case measure=>omega
  case rel=>exact⟨k+1,N,R,P,rfl,Bb,B9,by grind [D],t⟩
def EZ:AH->A2->A1
 |0,_=>[]
 |k+1,d=>match d with
  |.lit (.bool b)=>bif b then[116,114,117,101]else[102,97,108,115,101]
  |.lit (.int .i64 z)=>Lib.itoa z
  |.lit (.string l)=>Fe l
  |.agg ds=>([91]++Dd (EZ k) ds)++[93]
  |.map es=>([123]++Dd (G6 (EZ k)) es)++[125]
  |_=>[110,117,108,108]
theorem wX{a':A4}{n' c':I}(hl:O bs<=999999999)(h:Ck W base v bs):Ar As 113 #[v,Ai 219 (T a' n' c')] W λe f=>∃d,e=Ak d/\Ck f base d (bs++[110,117,108,108])/\Below base W f:=by
 obtain⟨q,j,m,o,p⟩:=DD Tryz.infoU8;obtain⟨a,n,c,rfl⟩:=h.2.2;have b:=G h;have s:=R7 a' n' c';have t:=R8 a' n' c';have u:=R9 a' n' c';have x:∀w:X,(Instr.typeAssert (Ai 219 (T a' n' c')) 89 221 AP).run As w=.ok (Af #[T Ao 0 0,Ah AQ]) w:=λw=>B6;have y:∀w:X,(Instr.typeAssert (Ai 219 (T a' n' c')) 89 223 AP).run As w=.ok (Af #[T Ao 0 0,Ah AQ]) w:=λw=>B6;have l:(⟨Aw ([110,117,108,108]:A1)⟩:AT).size=4:=rfl;go_enter func113,ntmps113
 go_wp2_with(first
  |(at_builtin;refine wpList_append_own_string _ Z _ _ 50 9 Z base 5 q underlying50 underlying9 j m o p _ _ _ Z b.1 ⟨[110,117,108,108].toArray⟩ Z By keD b.2.1 ?_;intro d z k i r;have g:=G (Nb b k i)))
 go_ret;exact⟨_,Z,g⟩
theorem wY(l : -9223372036854775808<=z)(m:z<=9223372036854775807)(hl:O bs<=999999999)(h:Ck W base v bs)(o:Kr base W):Ar As 113 #[v,Ai 281 (C Y z)] W λe b=>∃d,e=Ak d/\Ck b base d (bs++Lib.itoa z)/\Below base W b:=by
 have f:=wW l m hl h o;obtain⟨a,n,c,rfl⟩:=h.2.2;have s:=R0 z;have t:=R2 z;go_enter func113,ntmps113
 go_wp2_with(first
  |(go_at_call 151;refine f.mono ?_;rintro e w ⟨u,rfl,g,k⟩;obtain⟨i,j,p,r,q,rfl⟩:=g))
 go_ret;exact⟨_,Z,⟨i,j,_,_,_,Z⟩,k⟩
theorem wZ{l:A1}(hl:O bs+O (Fe l)<=999999999)(h:Ck W base v bs):Ar As 113 #[v,Ai 283 (Ae ⟨Aw l⟩)] W λe b=>∃f,e=Ak f/\Ck b base f (bs++Fe l)/\Below base W b:=by
 have d:=Xn ⟨Aw l⟩ hl h;have g:Fe (⟨Aw l⟩:AT).data.toList=Fe l:=rfl;rw[g]at d;obtain⟨a,n,c,rfl⟩:=h.2.2;have r:=WG ⟨Aw l⟩;have s:=WH ⟨Aw l⟩;have t:=WI ⟨Aw l⟩;go_enter func113,ntmps113
 go_wp2_with(first
  |(go_at_call 152;refine d.mono ?_;rintro e w ⟨u,rfl,i,m,_⟩;obtain⟨j,k,o,q,p,rfl⟩:=i))
 go_ret;exact⟨_,Z,⟨j,k,_,_,_,Z⟩,m⟩
theorem x6{q:A4}(k:∃a n c,v=T a n c)(f:Ar As 153 #[v,T q m cap] W λe b=>∃d,e=Ak d/\Ck b base d ys/\Below base W b):Ar As 113 #[v,Ai 221 (T q m cap)] W λe b=>∃d,e=Ak d/\Ck b base d ys/\Below base W b:=by
 obtain⟨a,n,c,rfl⟩:=k;have r:=dQ q m cap;have s:=dR q m cap;have t:=dS q m cap;have u:=Tc q m cap;go_enter func113,ntmps113
 go_wp2_with(first
  |(go_at_call 153;refine f.mono ?_;rintro e x ⟨w,rfl,g,j⟩;obtain⟨h,i,l,p,o,rfl⟩:=g))
 go_ret;exact⟨_,Z,⟨h,i,_,_,_,Z⟩,j⟩
theorem x7{q:A4}(k:∃a n c,v=T a n c)(f:Ar As 154 #[v,T q m cap] W λe b=>∃d,e=Ak d/\Ck b base d ys/\Below base W b):Ar As 113 #[v,Ai 223 (T q m cap)] W λe b=>∃d,e=Ak d/\Ck b base d ys/\Below base W b:=by
 obtain⟨a,n,c,rfl⟩:=k;have r:=dV q m cap;have s:=dW q m cap;have t:=dX q m cap;have u:=Td q m cap;have w:=Te q m cap;go_enter func113,ntmps113
 go_wp2_with(first
  |(go_at_call 154;refine f.mono ?_;rintro e y ⟨x,rfl,g,j⟩;obtain⟨h,i,l,p,o,rfl⟩:=g))
 go_ret;exact⟨_,Z,⟨h,i,_,_,_,Z⟩,j⟩
theorem gM{α:Type}(f:α->A1){l:AJ α}(h:∀a,a∈l->1<=O (f a)):O l<=O (Dd f l):=by cases l<;>grind [Nr,Dd]
theorem x9(n:I):1<=O (decDigits n):=by grind [decDigits]
theorem xa(z:J):1<=O (Lib.itoa z):=by grind [itoa,x9]
theorem xb:∀{k:I} {v:Aq} {d:A2},Cv k V F v d->1<=O (EZ k d)
 |0,_,_,h=>h.elim
 |k+1,v,d,h=>by unfold Cv at h;grind [EZ,xa,wT]
theorem gN:∀(k:I) (W:X) (w:I) (F:I->Prop) (x:Aq) (d:A2),(∀j,F j->j<w)->Kr w W->Cv k W F x d->X5 W w x (EZ k d)
 |0,_,_,_,_,_,_,_,h=>h.elim
 |k+1,W0,w,F,x,d,hF,hT0,h0=>by
  intro W ae z v o hl;have h:=h0.same (λ_ h=>h) (λj hj=>v.block j (hF j hj));have V:Kr w W:=Lib.TabBelow.on hT0 v;have L:O z<=999999999:=E;have n:=λy a hy=>gN k W w F y a hF V hy;unfold Cv at h;split at h
  .subst h;exact ug L o
  .rename_i b;subst h;cases b
   .exact ui L o
   exact uh L o
  .obtain⟨rfl,f,p⟩:=h;exact wY f p L o V
  .rename_i l;subst h;exact wZ hl o
  .rename_i l;obtain⟨u,rfl,s⟩:=h;obtain⟨q,aa,c,rfl⟩:∃q aa c,u=T q aa c:=by
    rcases s.2 with⟨e,m⟩|⟨g,r,R,e,_⟩
    .exact⟨_,_,_,e⟩
    exact⟨_,_,_,e⟩
   exact wX L o
  .rename_i ds;obtain⟨u,Q,rfl,s,N⟩:=h;have ad:O Q=O ds:=AY s.1;have at_:∀i,i<O ds->∃x a,Q[i]?=H x/\ds[i]?=H a/\Cv k W F x a:=λi B =>
    ⟨_,_,D3 E,D3 B,N i _ _ (D3 E) (D3 B)⟩
   have hg:=gM (EZ k) λa ab=>by obtain⟨i,B,rfl⟩:=Q6 ab;obtain⟨x,d2,f,p,P⟩:=at_ i B;rw[D3 B]at p;injection p with p;rw[p];exact xb P
   have e:O (EZ (k+1) (.agg ds))=1+O (Dd (EZ k) ds)+1:=by simp[EZ];omega
   obtain⟨q,r,rfl⟩:∃q r,u=T q (O ds) r:=by
    rcases s.2 with⟨e,m⟩|⟨g,r,R,e,_⟩
    .exact⟨Ao,0,by rw[e,m]⟩
    exact⟨_,_,e⟩
   have A:=wS (EZ k) hF E E s (λi x a f p=>n x a (N i x a f p)) (λi x t=>by obtain⟨x2,a,f,p,P⟩:=at_ i (AY (Dh t));rw[t]at f;injection f with f;rw[f];exact P.iface) o;have m:((z++[91])++Dd (EZ k) ds)++[93]=z++EZ (k+1) (.agg ds):=by simp[EZ]
   rw[m]at A;exact x6 o.2.2 A
  .rename_i es;obtain⟨u,Q,rfl,s,N⟩:=h;have hg:=gM (G6 (EZ k)) (l:=es) λa _=>by simp[G6];omega
   have e:O (EZ (k+1) (.map es))=1+O (Dd (G6 (EZ k)) es)+1:=by simp[EZ];omega
   obtain⟨q,r,rfl⟩:∃q r,u=T q (O es) r:=by
    rcases s.2 with⟨e,m⟩|⟨g,r,R,e,_⟩
    .exact⟨Ao,0,by rw[e,m]⟩
    exact⟨_,_,e⟩
   have A:=wU (EZ k) hF E E s (λi key a f=>by obtain⟨l,x,e1,m,e3,S⟩:=N i key a f;obtain⟨ac,y,rfl⟩:=S.iface;exact⟨l,ac,y,e1,m,e3,n _ a S⟩) o;have m:((z++[123])++Dd (G6 (EZ k)) es)++[125]=z++EZ (k+1) (.map es):=by simp[EZ]
   rw[m]at A;exact x7 o.2.2 A
  exact h.elim
theorem xc{x:Aq}{d:A2}(hF:∀j,F j->j<K (U W))(m:Kr (K (U W)) W)(h:Cv k W F x d)(hl:O (EZ k d)<=999999999):Ar As 82 #[C Y 1,x] W λe a=>∃b,e=Ak b/\Ck a (K (U W)) b (EZ k d)/\A0 W a:=by
 have c:=gN k W (K (U W)) F x d hF m h W _ [] CO (Rf) ken;obtain⟨t,y,rfl⟩:=h.iface;go_enter func82,ntmps82
 go_wp2_with(first
  |(go_at_call 113;refine c.mono ?_;rintro e r ⟨q,rfl,f,l⟩;obtain⟨g,i,n,p,o,rfl⟩:=f))
 go_ret;exact⟨_,Z,⟨g,i,_,_,_,Z⟩,l⟩
theorem gO{α:Type}{f g:α->A1}(l:AJ α)(h:∀x∈l,f x=g x):Dd f l=Dd g l:=by
 obtain _|⟨a,l⟩:=l
 .rfl
 show f a++_=g a++_;rw[h a (LR ..)];congr 1;induction l<;>grind
theorem TH:∀(k:I) (d:A2),EX k d->EZ k d=Jw k d
 |0,_,_=>rfl
 |k+1,d,h=>by
  unfold EZ Jw;split
  .rfl
  .rfl
  .exact eY h
  .rename_i ds;have a:∀d∈ds,EX k d:=h;rw[gO ds λd c=>TH k d (a d c)]
  .rename_i es;have a:∀e∈es,Fs (CX e.1)/\EX k e.2:=h;rw[gO es λe b=>show G6 (EZ k) e=Mn (Jw k) e by unfold G6 Mn;rw[eY (a e b).1,TH k e.2 (a e b).2]]
  grind
def OF(z:AI):AH:=if z < -4611686018427387904 then 3 else F6 ((-1-z)*2).toNat
theorem xe(n:I)(h:¬n<128):GE n=AW (204+F6 n)::CE n (2^F6 n):=by
 unfold GE F6;rw[Ci h];by_cases a:n<256
 .rw[Cn E,Cn a];rfl
 rw[Ci E,Ci a];by_cases b:n<65536
 .rw[Cn E,Cn b];rfl
 rw[Ci E,Ci b];by_cases c:n<4294967296
 .rw[Cn E,Cn c];rfl
 rw[Ci E,Ci c];rfl
theorem xf(z:J)(h:z < -32):He z=AW (208+OF z)::CE (z%18446744073709551616).toNat (2^OF z):=by
 unfold He OF F6;rw[Ci E];by_cases d:z < -4611686018427387904
 .rw[Cn d,Ci E,Ci E,Ci E];rfl
 rw[Ci d];by_cases a : -128<=z
 .rw[Cn a,Cn (show((-1-z)*2).toNat<256 by omega)];rfl
 rw[Ci a,Ci (show¬((-1-z)*2).toNat<256 by omega)];by_cases b : -32768<=z
 .rw[Cn b,Cn (show((-1-z)*2).toNat<65536 by omega)];rfl
 rw[Ci b,Ci (show¬((-1-z)*2).toNat<65536 by omega)];by_cases c : -2147483648<=z
 .rw[Cn c,Cn (show((-1-z)*2).toNat<4294967296 by omega)];rfl
 rw[Ci c,Ci (show¬((-1-z)*2).toNat<4294967296 by omega)];rfl
theorem xg(z:J):OF z<=3:=by grind [OF,Rb]
theorem gS(hi:i<8)(a:q=z/2^(8*i)):((z%18446744073709551616).toNat/2^(8*i)%256:I)=(q%256).toNat/\q/256=z/2^(8*(i+1)):=by subst a;rcases(show i=0\/i=1\/i=2\/i=3\/i=4\/i=5\/i=6\/i=7 by omega)with rfl|rfl|rfl|rfl|rfl|rfl|rfl|rfl<;>(simp;omega)
theorem xh(W:X)(n:I)(N:n<=9223372036854775807):Ar As 121 #[C Y n] W λe o=>e=Ak (CQ (GE n))/\A0 W o:=by
 have F:0<=(n:J):=E;by_cases A:n<128
 .obtain⟨u,w⟩:=Dx (AW n);have b:D (GE n=[u]):=by grind [D,GE]
  rw[AE b];have B:=Jv W (n:J) u keq;have v:(n:J)<128:=E;go_enter func121,ntmps121;go_wp2;go_ret;exact⟨Z,Cl⟩
 obtain⟨m,h⟩:=Dx (F6 n);have i:=h▸Rb n;obtain⟨u,w⟩:=Dx (AW (204+m));have x:D ((u.toNat:J)=204+m):=by grind [D,Hf]
 have b:D (GE n=[u]++CE n (2^m)):=by grind [D,xe]
 rw[AE b];have d:=λV=>Rd V (n:J);rw[NV,h]at d;have p:=λV=>Ou (2^m) n V E (LB (Co m) i).2;have q:=λV=>Tk V i;have L:¬(1+O (CE n (2^m))>9223372036854775807):=by grind [I1,LB]
 generalize 2^m=kv at *;obtain⟨f,j⟩:=CA ([u]++CE n kv);rw[AE j];have v:¬(n:J)<128:=E;have k:D (IntKind.i64.wrap (204+(m:J))=u.toNat):=by grind [D,Hu]
 have l:D (IntKind.u8.wrap (u.toNat:J)=u.toNat):=w8 _ (by grind [D]);go_enter func121,ntmps121
 go_wp2_with(first|(go_at_call 123;refine(d _).mono ?_;rintro e P ⟨rfl,s⟩))
 refine Dl (S:=λ_=>True) trivial B6 ?_;intro a;refine Ca 0 18 (C Y kv) a ?_;refine Ca 6 24 (C Y n) a ?_;refine Ca 7 25 (C Y kv) a ?_;refine CC 1 (λz t=>?_);go_simp;refine(q _).mono ?_;rintro e Q ⟨rfl,g⟩;refine t.out _ _ a (λ_=>?_);refine Cf 2 20 (C Y u.toNat) Z (λc _=>?y2) a ?_
 case y2=>(go_simp<;>exact k)
 refine Cf 3 21 (C .u8 u.toNat) Z (λc _=>?y3) a ?_
 case y3=>(go_simp<;>exact l)
 refine Nq 8 4 5 26 22 23 u ⟨Z,Z,Z⟩ Z B6 (λ_ _ _=>⟨B6,B6,B6⟩) (λ_=>⟨B6,B6⟩) p (λ_ _=>trivial) (λV y r=>?_);refine Cf 9 27 (CQ f) Z (λc _=>?y5) a ?_
 case y5=>(unfold CQ;go_simp;grind [D,EL])
 refine Ca 10 2 (CQ f) a ?_;refine CG ?_;go_wp2;go_ret;exact⟨B6,WN s (g.trans (r.mono g.size))⟩
theorem Xo(q:J):∃b:I,b<256/\q%256=b/\(q-b).tdiv 256=q/256/\((q.tmod 256=b-256/\0<b)\/q.tmod 256=b):=by refine⟨(q%256).toNat,E,E,?_,?_⟩<;>grind
theorem xi(hz:z<0)(h1 : -9223372036854775808<=z):Ar As 121 #[C Y z] W λe Q=>e=Ak (CQ (He z))/\A0 W Q:=by
 have an:¬0<=z:=E;by_cases am : -32<=z
 .obtain⟨u,hu⟩:=Dx (AW (z%256).toNat);have P:D (He z=[u]):=by grind [D,He]
  rw[AE P];have L:=Jv W (z+256) u keq;go_enter func121,ntmps121;go_wp2;go_ret;exact⟨Z,Cl⟩
 obtain⟨m,hm⟩:=Dx (OF z);have ab:=hm▸xg z;obtain⟨u,hu⟩:=Dx (AW (208+m));obtain⟨f,HZ⟩:=CA ((z%18446744073709551616).toNat);have P:D (He z=[u]++CE f (2^m)):=by grind [D,xf]
 rw[AE P];have ao:=(LB (Co m) ab).2;have o:=λV al=>Rd V al;have h:=λV=>Tk V ab;have B:D (∀w:X,(convert 50 9 (T (Aa (K (U w))) 1 1)).run As (Az w (M #[C .u8 (208+(m:J))] 5))=.ok (Ae ⟨#[u]⟩) (Az w (M #[C .u8 (208+(m:J))] 5))):=λw=>Jv w _ u keq;have ag:(z < -4611686018427387904/\m=3)\/(¬z < -4611686018427387904/\F6 ((-1-z)*2).toNat=m):=by grind [OF]
 rcases ag with⟨ae,rfl⟩|⟨ae,hm⟩
 .have ad:∀V,Ar As 124 #[C Y 8] V λe Q=>e=Ak (C Y 3)/\A0 V Q:=h;have ac:D (∀w:X,(convert 50 9 (T (Aa (K (U w))) 1 1)).run As (Az w (M #[C .u8 211] 5))=.ok (Ae ⟨#[u]⟩) (Az w (M #[C .u8 211] 5))):=B
  replace h:=ad
  replace B:=ac
  go_enter func121,ntmps121
  go_wp2_with(first|(go_at_call 123;refine(o _ _).mono ?_;rintro e w2 ⟨rfl,F⟩))
  go_loopg[0,5,6] 8 (λg zq zs zi wr=>∃(q:J) (i:I),zq=C Y q/\zs=Ae ⟨Aw (CE f i)⟩/\zi=C Y i/\D (i+g=8)/\D (q=z/2^(8*i))/\D (-9223372036854775808<=q/\q<=9223372036854775807)/\D (A0 W wr))
  case atStart=>exact⟨z,0,rfl,rfl,rfl,Bg,BL,⟨h1,E⟩,F⟩
  case round =>
   obtain⟨q,i,rfl,rfl,rfl,c,N,j,a⟩:=hrel;have ah:i<=8:=AY (AE c);have ai:¬(1+O (CE f i)>9223372036854775807):=kef;obtain _|g:=gk
   .have p:D (i=8):=AE c;have x:¬(i:J)<8:=AY (AE p)
    go_wp2_with(first|(go_at_call 124;refine(h _).mono ?_;clear h;rintro e w3 ⟨rfl,y⟩;have L:=B.out w3))
    go_ret;refine⟨?_,a.trans ((y.mono a.size).alloc (Cy a.size y.size) _)⟩;obtain rfl:=AE p;exact congrArg (λaa=>Ending.returned (Value.string aa)) (EL (l:=[u]))
   have x:(i:J)<8:=AY (AE c);obtain⟨b,hb,S,d,k⟩:=Xo q;obtain⟨v,A⟩:=Dx (AW b);have L:=Jv wr (b:J) v (by rw[<-A,Hf hb]);have hn:=gS (AY (AE c)) N.out;have r:D (CE f (i+1)=[v]++CE f i):=by grind [D,CE]
   have hw:=AE j;have n:wrap64 ((wrap64 (q-b)).tdiv 256)=q/256:=keZ;have s:D (wrap64 ((wrap64 (q-b)).tdiv 256)=z/2^(8*(i+1))):=B9;have t:D (-9223372036854775808<=wrap64 ((wrap64 (q-b)).tdiv 256)/\wrap64 ((wrap64 (q-b)).tdiv 256)<=9223372036854775807):=by grind [D]
   have aj:=j.out.1;have ak:=j.out.2;clear hn S d n hw A h;rcases k with⟨k,af⟩|k
   .have R:(b:J)-256<0:=E;go_wp2;go_roundg g
    case measure=>omega
    case rel=>exact⟨_,i+1,rfl,by rw[AE r,<-EL],Bb,B9,s,t,a.alloc a.size _⟩
   have R:¬(b:J)<0:=E;go_wp2;go_roundg g
   case measure=>omega
   case rel=>exact⟨_,i+1,rfl,by rw[AE r,<-EL],Bb,B9,s,t,a.alloc a.size _⟩
 replace o:=λV=>o V ((-1-z)*2)
 rw[hm]at o;generalize 2^m=kv at *;go_enter func121,ntmps121
 go_wp2_with(first|(go_at_call 123;refine(o _).mono ?_;clear o;rintro e w2 ⟨rfl,F⟩))
 go_loopg[0,5,6] kv (λg zq zs zi wr=>∃(q:J) (i:I),zq=C Y q/\zs=Ae ⟨Aw (CE f i)⟩/\zi=C Y i/\D (i+g=kv)/\D (q=z/2^(8*i))/\D (-9223372036854775808<=q/\q<=9223372036854775807)/\D (A0 W wr))
 case atStart=>exact⟨z,0,rfl,rfl,rfl,Bg,BL,⟨h1,E⟩,F⟩
 case round =>
  obtain⟨q,i,rfl,rfl,rfl,c,N,j,a⟩:=hrel;have ah:i<=8:=AY (AE c);have ai:¬(1+O (CE f i)>9223372036854775807):=kef;obtain _|g:=gk
  .have p:D (i=kv):=AE c;have x:¬(i:J)<(kv:J):=AY (AE p);clear c N j F
   go_wp2_with(first|(go_at_call 124;refine(h _).mono ?_;clear h;rintro e w3 ⟨rfl,y⟩;have L:=B.out w3))
   go_ret;refine⟨?_,a.trans ((y.mono a.size).alloc (Cy a.size y.size) _)⟩;obtain rfl:=AE p;exact congrArg (λaa=>Ending.returned (Value.string aa)) (EL (l:=[u]))
  have x:(i:J)<(kv:J):=AY (AE c);obtain⟨b,hb,S,d,k⟩:=Xo q;obtain⟨v,A⟩:=Dx (AW b);have L:=Jv wr (b:J) v (by rw[<-A,Hf hb]);have hn:=gS (AY (AE c)) N.out;have r:D (CE f (i+1)=[v]++CE f i):=by grind [D,CE]
  have hw:=AE j;have n:wrap64 ((wrap64 (q-b)).tdiv 256)=q/256:=keZ;have s:D (wrap64 ((wrap64 (q-b)).tdiv 256)=z/2^(8*(i+1))):=B9;have t:D (-9223372036854775808<=wrap64 ((wrap64 (q-b)).tdiv 256)/\wrap64 ((wrap64 (q-b)).tdiv 256)<=9223372036854775807):=by grind [D]
  have aj:=j.out.1;have ak:=j.out.2;clear hn S d n hw A h;rcases k with⟨k,af⟩|k
  .have R:(b:J)-256<0:=E;go_wp2;go_roundg g
   case measure=>omega
   case rel=>exact⟨_,i+1,rfl,by rw[AE r,<-EL],Bb,B9,s,t,a.alloc a.size _⟩
  have R:¬(b:J)<0:=E;go_wp2;go_roundg g
  case measure=>omega
  case rel=>exact⟨_,i+1,rfl,by rw[AE r,<-EL],Bb,B9,s,t,a.alloc a.size _⟩
theorem Xq(a v:J)(b:AU)(d:(a=0/\v=192)\/(a=1/\v=194)\/(a=2/\v=195))(hb:(b.toNat:J)=v):Ar As 87 #[.agg (Ce a 0 ⟨#[]⟩ Cm Cm)] W (E4 [b] W):=by
 have c:=Jv (Az W (M (Ce a 0 ⟨#[]⟩ Cm Cm) 101)) v b hb.symm;rw[show(Az W (M (Ce a 0 ⟨#[]⟩ Cm Cm) 101)).heap.size=K (U W)+1 by simp]at c;unfold Ce Cm at *;rcases d with⟨rfl,rfl⟩|⟨rfl,rfl⟩|⟨rfl,rfl⟩
 all_goals
  go_enter func87,ntmps87;go_wp2;go_ret;exact⟨Z,(Cl).alloc Ba _⟩
theorem xk(d : -9223372036854775808<=z)(g:z<=9223372036854775807):Ar As 87 #[.agg (Ce 3 z ⟨#[]⟩ Cm Cm)] W (E4 (JZ z) W):=by
 have b:D (ED W (Ce 3 z ⟨#[]⟩ Cm Cm) (Az W (M (Ce 3 z ⟨#[]⟩ Cm Cm) 101))):=K1;have c:∀V,Ar As 121 #[C Y z] V (E4 (JZ z) V):=λV=>by
  unfold JZ;by_cases a:z<0
  .rw[Cn a];exact xi a d
  rw[Ci a];have h:=xh V z.toNat E;rw[show((z.toNat:I):J)=z by omega]at h;exact h
 generalize JZ z=R at *;unfold Ce Cm at *;go_enter func87,ntmps87
 go_wp2_with(first|(go_at_call 121;refine(c _).mono ?_;rintro e i ⟨rfl,f⟩))
 go_ret;exact⟨rfl,(b.next f).below⟩
theorem xl(x:I):O (EC x)<=9:=by grind [EC,I1]
theorem xm{l:A1}(hl:O l<=999999999):Ar As 87 #[.agg (Ce 4 0 ⟨Aw l⟩ Cm Cm)] W (E4 (EC (O l)++l) W):=by
 have g:D (ED W (Ce 4 0 ⟨Aw l⟩ Cm Cm) (Az W (M (Ce 4 0 ⟨Aw l⟩ Cm Cm) 101))):=K1;have c:=λV=>gP V (n:=O l) E;have m:¬(O (EC (O l))+O l>9223372036854775807):=by grind [xl]
 generalize EC (O l)=hd at *;unfold Ce Cm at *;go_enter func87,ntmps87
 go_wp2_with fail
 generalize Az W (M #[C Y 4,C Y 0,Ae ⟨Aw l⟩,T Ao 0 0,T Ao 0 0] 101)=V0 at *;refine Dl (S:=ED W #[C Y 4,C Y 0,Ae ⟨Aw l⟩,T Ao 0 0,T Ao 0 0]) g.drew B6 ?_;intro a;refine Ca 0 29 (A9 (K (U W)) 2) a ?_;refine Cf 1 30 (Ae ⟨Aw l⟩) Z (λf b=>?y1) a ?_
 case y1=>(have j:=Cb b.box 2;go_simp)
 refine Cf 2 31 (C Y (O l)) Z (λf b=>?y2) a ?_
 case y2=>go_simp
 refine Ca 4 33 (A9 (K (U W)) 2) a ?_;refine Cf 5 34 (Ae ⟨Aw l⟩) Z (λf b=>?y3) a ?_
 case y3=>(have j:=Cb b.box 2;go_simp)
 refine CC 3 (λk i=>?_);go_simp;refine(c _).mono ?_;rintro e o ⟨rfl,h⟩;have d:=a.next h
 refine i.out _ _ d (λ_=>?_);refine Cf 6 35 (CQ (hd++l)) Z (λf b=>?y4) d ?_
 case y4=>(unfold CQ;go_simp;exact EL)
 refine Ca 7 2 (CQ (hd++l)) d ?_;refine CG ?_;go_wp2;go_ret;exact⟨Z,d.below⟩
theorem xn(n:I)(c:n<4294967296):G5 n=AW (196+F6 n)::CE n (2^F6 n):=by
 unfold G5 F6;by_cases a:n<256
 .rw[Cn E,Cn a];rfl
 rw[Ci E,Ci a];by_cases b:n<65536
 .rw[Cn E,Cn b];rfl
 rw[Ci E,Ci b,Cn c];rfl
theorem xo{l:A1}(hl:O l<=999999999):Ar As 87 #[.agg (Ce 5 0 ⟨Aw l⟩ Cm Cm)] W (E4 (G5 (O l)++l) W):=by
 have r:D (ED W (Ce 5 0 ⟨Aw l⟩ Cm Cm) (Az W (M (Ce 5 0 ⟨Aw l⟩ Cm Cm) 101))):=K1;obtain⟨m,j⟩:=Dx (F6 (O l));have k:=j▸Rb _;obtain⟨u,hu⟩:=Dx (AW (196+m));have N:D ((u.toNat:J)=196+m):=by grind [D,Hf]
 have F:=(LB (Co m) k).2;have o:D (G5 (O l)++l=([u]++CE (O l) (2^m))++l):=by grind [D,xn]
 rw[AE o];have i:=λV=>Rd V (O l:J);rw[NV,j]at i;have t:=λV=>Ou (2^m) (O l) V E F;have v:=λV=>Tk V k;have R:O (CE (O l) (2^m))<=8:=kef;generalize CE (O l) (2^m)=bb at *;generalize 2^m=kv at *;have p:D (IntKind.i64.wrap (196+(m:J))=u.toNat):=by grind [D,Hu]
 have q:D (IntKind.u8.wrap (u.toNat:J)=u.toNat):=w8 _ (by grind [D]);have Q:¬(1+O bb>9223372036854775807):=E;have w:¬(O ([u]++bb)+O l>9223372036854775807):=B9;obtain⟨g,n⟩:=CA ([u]++bb);rw[AE n]at w ⊢;unfold Ce Cm at *;go_enter func87,ntmps87
 go_wp2_with(first|(go_at_call 123;refine(i _).mono ?_;rintro e w2 ⟨rfl,z⟩;have s:=G (r.next z)))
 refine Dl (S:=ED W #[C Y 5,C Y 0,Ae ⟨Aw l⟩,T Ao 0 0,T Ao 0 0]) s.drew B6 ?_;intro a;refine Ca 0 42 (C Y kv) a ?_;refine Ca 6 48 (A9 (K (U W)) 2) a ?_;refine Cf 7 49 (Ae ⟨Aw l⟩) Z (λb f=>?y1) a ?_
 case y1=>(have L:=Cb f.box 2;go_simp)
 refine Cf 8 50 (C Y (O l)) Z (λb f=>?y2) a ?_
 case y2=>go_simp
 refine Ca 9 51 (C Y kv) a ?_;refine Ca 12 54 (A9 (K (U W)) 2) a ?_;refine Cf 13 55 (Ae ⟨Aw l⟩) Z (λb f=>?y3) a ?_
 case y3=>(have L:=Cb f.box 2;go_simp)
 refine CC 1 (λP B=>?_);go_simp;refine(v _).mono ?_;rintro e w3 ⟨rfl,A⟩;have c:=a.next A
 refine B.out _ _ c (λ_=>?_);refine Cf 2 44 (C Y u.toNat) Z (λb _=>?y4) c ?_
 case y4=>(go_simp<;>exact p)
 refine Cf 3 45 (C .u8 u.toNat) Z (λb _=>?y5) c ?_
 case y5=>(go_simp<;>exact q)
 refine Nq 10 4 5 52 46 47 u ⟨rfl,rfl,rfl⟩ rfl B6 (λ_ _ _=>⟨B6,B6,B6⟩) (λ_=>⟨B6,B6⟩) t (λ_ h=>c.next h) (λV y x=>?_);have d:=c.next x
 refine Cf 11 53 (CQ g) Z (λb _=>?y6) d ?_
 case y6=>(unfold CQ;go_simp;grind [D,EL])
 refine Cf 14 56 (CQ (g++l)) Z (λb _=>?y7) d ?_
 case y7=>(unfold CQ;go_simp;exact EL)
 refine Ca 15 2 (CQ (g++l)) d ?_;refine CG ?_;go_wp2;go_ret;exact⟨B6,d.below⟩
theorem xr{kv u:Aq}{f:A2->A1}(h:A2->AK)(hF:∀j,F j->j<K (U W))(hq:DH W 9 1 F kv (O es) (es.map N9))(hr:DH W 101 5 F u (O es) xs)(ha:∀(i:I) (key:Lit) (d:A2),es[i]?=H (key,d)->∃l a,key=.string l/\Ha xs i a/\CP k W F (.agg a) d)(hl:O (([123]++Dd (Mn f) es)++[125])<=149999999)(ih:∀(V:X) (a:A3) (d:A2),(∀j,F j->j<K (U V))->CP k V F (.agg a) d->O (f d)<=149999999->Ar As 85 #[.agg a] V (I5 (h d) (f d) V)):Ar As 85 #[.agg (Ce 7 0 ⟨#[]⟩ kv u)] W (I5 (es.any (λe=>h e.2)) (([123]++Dd (Mn f) es)++[125]) W):=by
 obtain⟨hn,a,ad,rfl,HC⟩:=Mk hr;obtain⟨b,ae,rfl,HQ⟩:=WO hq;obtain⟨p,ag⟩:∃p:Lit×AM Unit->A1,D (Mn f=p):=⟨_,show _=_ from rfl⟩
 obtain⟨S,ah⟩:∃S:Lit×AM Unit->AK,D ((λe=>h e.2)=S):=⟨_,show _=_ from rfl⟩
 rw[AE ag]at hl ⊢;rw[AE ah];have o:D (ED W (Ce 7 0 ⟨#[]⟩ (T b (O es) ae) (T a (O es) ad)) (Az W (M (Ce 7 0 ⟨#[]⟩ (T b (O es) ae) (T a (O es) ad)) 101))):=K1;obtain⟨n,hN⟩:=Dx (O es);have ax:O (Dd p es)+2<=149999999:=B9;have ak:D (∀i,i<n->∃e l v t g gk B z s y L N P Q R,es[i]?=H e/\p e=(qT l++[58])++v/\S e=t/\O l<=150000000/\a=Aa g/\b=Aa gk/\(∀V,A0 W V->A6 V gk i (Ae ⟨Aw l⟩)/\(A6 V g (i*5) (C Y B)/\A6 V g (i*5+1) (C Y z)/\A6 V g (i*5+2) (.string s)/\A6 V g (i*5+3) (T y L N)/\A6 V g (i*5+4) (T P Q R))/\Ar As 85 #[Ag #[C Y B,C Y z,.string s,T y L N,T P Q R]] V (I5 t v V))):=λi hi=>by
  obtain⟨⟨key,d⟩,t⟩:∃e,es[i]?=H e:=⟨_,D3 E⟩
  obtain⟨l,au,w,hs,hA⟩:=ha i key d t;subst w;obtain⟨B,z,s,y,L,N,P,Q,R,e⟩:=hA.shape;injection e with e;subst e;obtain⟨g,ea,hg,hc⟩:=HC i _ E hs;obtain⟨gk,eb,am,al⟩:=HQ i l d t;have A:p (.string l,d)=(qT l++[58])++f d:=by rw[<-AE ag];rfl
  have h1:=Tw p (l:=es) (i:=i) t;have h3:=Nr qB l λb _=>fL b;rw[A,Dc,Dc]at h1;unfold qT at h1;rw[Dc,Dc]at h1;refine⟨(.string l,d),l,f d,h d,g,gk,B,z,s,y,L,N,P,Q,R,t,A,by rw[<-AE ah],E,ea,eb,λV r=>⟨al V (r.block gk (hF gk am)),?_,ih V _ d (λj hj=>CK (hF j hj) r.size) (hA.same (λ_ h=>h) (λj hj=>r.block j (hF j hj))) E⟩⟩;have hb:=r.block g (hF g hg);exact⟨hc V hb 0 B8,hc V hb 1 B8,hc V hb 2 B8,hc V hb 3 B8,hc V hb 4 B8⟩
 have cQ:=λV l h=>fG V (l:=l) h;rw[hN]at o hn;unfold Ce at *;go_enter func85,ntmps85;rw[hN];go_wp2
 go_loopg[4,5] n (λg zs zi wr=>∃(i:I) (m:A1),zs=Ae ⟨Aw m⟩/\zi=C Y i/\D (i+g=n)/\D (m=Dd p (es.take i))/\D ((es.take i).any S=AQ)/\D (ED W #[C Y 7,C Y 0,Ae ⟨#[]⟩,T b n ae,T a n ad] wr))
 case atStart=>exact⟨0,[],rfl,rfl,Bg,rfl,rfl,o⟩
 case round =>
  obtain⟨i,m,rfl,rfl,hg,ai,av,o⟩:=hrel;have c0:=Cb o.box 0;have c3:=Cb o.box 3;have c4:=Cb o.box 4;obtain _|g:=gk
  .obtain rfl:i=n:=AE hg;have aq:¬(i:J)<(i:J):=E;have aw:O m+2<=149999999:=by grind [D]
   have g1:¬(1+O m>9223372036854775807):=E;have g2:¬(1+O m+1>9223372036854775807):=E;have HE:D (es.any S=AQ/\Dd p es=m):=B9;go_wp2;refine CL (Fw results85 _ _ _) Z ?_;unfold I5;rw[HE.1,HE.2];refine⟨?_,o.below⟩;exact congrArg (λar=>Ending.returned (Value.tuple #[.string ar,Ah AP])) (fM 123 125 (l:=m))
  have ao:i<n:=AY (AE hg);have aq:(i:J)<(n:J):=E;obtain⟨ee,l,v,t,gb,gk,B,z,s,y,L,N,P,Q,R,af,A,an,ap,rfl,rfl,hk⟩:=ak.out i ao;obtain⟨q,HQ⟩:=CA (qT l);have cq:=λV=>cQ V l ap;rw[AE HQ]at cq A;have k5:=(hk _ o.below).1;have w:=λV r=>(hk V r).2;obtain⟨⟨k0,k1,k2,k3,k4⟩,_⟩:=w _ o.below;have aj:=Tw p (l:=es) (i:=i) af;rw[<-AE ai,A]at aj;simp only[Dc,List.length_singleton]at aj;have g0:¬(O m+1>9223372036854775807):=E;have g1:¬(O m+O q>9223372036854775807):=E;have g2:¬(O m+1+O q>9223372036854775807):=E;have g3:¬(O m+O q+1>9223372036854775807):=E;have g4:¬(O m+1+O q+1>9223372036854775807):=E;have g5:¬(O m+O q+1+O v>9223372036854775807):=E;have g6:¬(O m+1+O q+1+O v>9223372036854775807):=E;cases t
  .have ab:D (∀V,A0 W V->Ar As 85 #[Ag #[C Y B,C Y z,.string s,T y L N,T P Q R]] V λe W'=>e=Ak (Af #[Ae ⟨Aw v⟩,Ah AP])/\A0 V W'):=λV r=>(w V r).2;have HA:D ((es.take (i+1)).any S=AQ):=by grind [fN]
   by_cases h0:0<i
   .have HN:D (Dd p (es.take (i+1))=(((m++[44])++q)++[58])++v):=by grind [D,Rk]
    have ac:0<(i:J):=E
    go_wp2_with(first
    |(go_at_call 119;refine(cq _).mono ?_;rintro e w2 ⟨rfl,x⟩;unfold CQ;have c:=G (o.next x);obtain⟨⟨k0,k1,k2,k3,k4⟩,_⟩:=w _ c.below;have c0:=Cb c.box 0;have c4:=Cb c.box 4)
    |(go_at_call 85;refine(ab _ c.below).mono ?_;rintro e w3 ⟨rfl,aa⟩))
    go_roundg g
    case measure=>omega
    case rel=>exact⟨i+1,_,kff,Bb,B9,HN.symm,HA,c.next aa⟩
   obtain rfl:i=0:=E;have HN:D (Dd p (es.take (0+1))=((m++q)++[58])++v):=by show _=_;rw[Rj _ af,AE ai,A];simp only[KD];rfl
   go_wp2_with(first
   |(go_at_call 119;refine(cq _).mono ?_;rintro e w2 ⟨rfl,x⟩;unfold CQ;have c:=G (o.next x);obtain⟨⟨k0,k1,k2,k3,k4⟩,_⟩:=w _ c.below;have c0:=Cb c.box 0;have c4:=Cb c.box 4)
   |(go_at_call 85;refine(ab _ c.below).mono ?_;rintro e w3 ⟨rfl,aa⟩))
   go_roundg g
   case measure=>omega
   case rel=>exact⟨0+1,_,kff,Bb,B9,HN.symm,HA,c.next aa⟩
  have ab:D (∀V,A0 W V->Ar As 85 #[Ag #[C Y B,C Y z,.string s,T y L N,T P Q R]] V λe W'=>e=Ak (Af #[Ae ⟨#[]⟩,Ah AQ])/\A0 V W'):=λV r=>(w V r).2;have HE:=G (Th _ af an);have ac:(0<(i:J))\/¬(0<(i:J)):=E;rcases ac with ac|ac
  all_goals
   go_wp2_with(first
   |(go_at_call 119;refine(cq _).mono ?_;rintro e w2 ⟨rfl,x⟩;unfold CQ;have c:=G (o.next x);obtain⟨⟨k0,k1,k2,k3,k4⟩,_⟩:=w _ c.below;have c0:=Cb c.box 0;have c4:=Cb c.box 4)
   |(go_at_call 85;refine(ab _ c.below).mono ?_;rintro e w3 ⟨rfl,aa⟩))
   refine CL (Fw results85 _ _ _) Z ?_;unfold I5;rw[AE HE];exact⟨rfl,(c.next aa).below⟩
theorem F0{a b:A3}(h:Value.agg a=.agg b):a=b:=by injection h
theorem TI:∀(k:I) (W:X) (F:I->Prop) (a:A3) (d:A2),(∀j,F j->j<K (U W))->CP k W F (.agg a) d->O (Do k d)<=999999999->Ar As 86 #[.agg a] W (E4 (Do k d) W)
 |0,_,_,_,_,_,h,_=>h.elim
 |k+1,W,F,a,d,hF,h,hl=>by
  unfold CP at h;split at h
  .obtain rfl:=F0 h;exact Xp 0 246 246 B8 Z
  .rename_i b;obtain rfl:=F0 h;cases b
   .exact Xp 1 244 244 B8 Z
   exact Xp 2 245 245 B8 Z
  .obtain⟨h,c,e⟩:=h;obtain rfl:=F0 h;exact xj c e
  .rename_i l;obtain rfl:=F0 h;exact(gT (by have:O (D4 3 (O l)++l)<=999999999:=hl;grind)).1
  .rename_i l;obtain rfl:=F0 h;exact(gT (by have:O (D4 2 (O l)++l)<=999999999:=hl;grind)).2
  .obtain⟨u,n,h,f,i⟩:=h;obtain rfl:=F0 h;exact gU AQ hF f i hl (λV=>PH V 4 _ B8 (Mk f).1) (λV a d c e g=>TI k V F a d c e g)
  .obtain⟨o,u,n,h,m,f,i⟩:=h;obtain rfl:=F0 h;exact gV AQ hF m f i hl (λV=>PH V 5 _ B8 (Mk f).1) (λV l h=>PH V 3 (O l) B8 E) (λV a d c e g=>TI k V F a d c e g)
  exact h.elim
theorem Xr:∀(k:I) (W:X) (F:I->Prop) (a:A3) (d:A2),(∀j,F j->j<K (U W))->CP k W F (.agg a) d->O (I4 k d)<=999999999->Ar As 87 #[.agg a] W (E4 (I4 k d) W)
 |0,_,_,_,_,_,h,_=>h.elim
 |k+1,W,F,a,d,hF,h,hl=>by
  unfold CP at h;split at h
  .obtain rfl:=F0 h;exact Xq 0 192 192 B8 Z
  .rename_i b;obtain rfl:=F0 h;cases b
   .exact Xq 1 194 194 B8 Z
   exact Xq 2 195 195 B8 Z
  .obtain⟨h,c,e⟩:=h;obtain rfl:=F0 h;exact xk c e
  .rename_i l;obtain rfl:=F0 h;exact xm (by have:O (EC (O l)++l)<=999999999:=hl;grind)
  .rename_i l;obtain rfl:=F0 h;exact xo (by have:O (G5 (O l)++l)<=999999999:=hl;grind)
  .obtain⟨u,n,h,f,i⟩:=h;obtain rfl:=F0 h;exact gU AP hF f i hl (λV=>(gQ).1▸gR V 144 220 B8 B8 (Mk f).1) (λV a d c e g=>Xr k V F a d c e g)
  .obtain⟨o,u,n,h,m,f,i⟩:=h;obtain rfl:=F0 h;exact gV AP hF m f i hl (λV=>(gQ).2▸gR V 128 222 B8 B8 (Mk f).1) (λV l h=>gP V E) (λV a d c e g=>Xr k V F a d c e g)
  exact h.elim
theorem Xs:∀(k:I) (W:X) (F:I->Prop) (a:A3) (d:A2),(∀j,F j->j<K (U W))->CP k W F (.agg a) d->O (Jw k d)<=149999999->Ar As 85 #[.agg a] W (I5 (Fd k d) (Jw k d) W)
 |0,_,_,_,_,_,h,_=>h.elim
 |k+1,W,F,a,d,hF,h,hl=>by
  unfold CP at h;split at h
  .obtain rfl:=F0 h;exact X6 0 (AF ⟨Z,Z⟩)
  .rename_i b;obtain rfl:=F0 h;cases b
   .exact X6 1 (AG (AF ⟨Z,Z⟩))
   exact X6 2 (AG (AG ⟨Z,Z⟩))
  .obtain⟨h,c,e⟩:=h;obtain rfl:=F0 h;exact vu c e
  .rename_i l;obtain rfl:=F0 h;refine vv ?_;have c:O (qT l)<=149999999:=hl;grind [Nr,fL,qT]
  .rename_i l;obtain rfl:=F0 h;exact vt
  .obtain⟨u,n,h,i,g⟩:=h;obtain rfl:=F0 h;exact xp (Fd k) hF i g hl (λV a d c e f=>Xs k V F a d c e f)
  .obtain⟨o,u,n,h,m,i,g⟩:=h;obtain rfl:=F0 h;exact xr (Fd k) hF m i g hl (λV a d c e f=>Xs k V F a d c e f)
  exact h.elim
def Ft(fm:AI)(k:AH)(d:A2):A1:=if fm=1 then EZ k d else if fm=2 then Do k d else I4 k d
theorem qxw(key:J)(a:I)(l:A1):O (JC key a l)=16:=xC (TL _ _ (PR))
theorem RF(x:I):O (G5 x)<=9/\O (Kh x)<=9/\O (Ki x)<=9/\O (EC x)<=9/\O (GE x)<=9:=by grind [G5,Kh,Ki,EC,GE,I1]
theorem quH(z:J):O (JZ z)<=9:=by
 unfold JZ;split
 .grind [He,I1]
 exact(RF _).2.2.2.2
theorem q4N(z:J):O (K0 z)<=9:=by grind [K0,Np]
theorem U2{α:Type}(f:α->A1)(m:α->I):∀(l:AJ α),(∀a,a∈l->O (f a)<=m a)->O (l.flatMap f)<=(l.map m).sum
 |[],_=>Co _
 |a::l,h=>by have d:=h a (LR ..);have e:=U2 f m l λb c=>h b (Le _ c);grind
theorem U3{hB hL hM hT:Nat->List UInt8}{nt:Bool->List UInt8}{no:List UInt8}{nm:Int->List UInt8}(h:∀x,(hB x).length<=9/\(hL x).length<=9/\(hM x).length<=9/\(hT x).length<=9)(a:∀b,(nt b).length<=9)(f:no.length<=9)(c:∀z,(nm z).length<=9):∀(k:Nat) (d:DataW Unit),(LC hB hL hM hT nt no nm k d).length<=DA k d
 |0,_=>Co _
 |k+1,d=>by
  unfold LC;split
  .show _<=200;omega
  .show _<=200;have:=a ‹Bool›;omega
  .show _<=200;have:=c ‹Int›;omega
  .next l=>show _<=200+6*l.length;have:=h l.length;rw[Dc];omega
  .next l=>show _<=200+6*l.length;have:=h l.length;rw[Dc];omega
  .next ds =>
   show _<=200+(ds.map λd=>30+DA k d).sum;have g:=h ds.length;have i:=U2 (LC hB hL hM hT nt no nm k) (λd=>30+DA k d) ds (λd _=>Cy (U3 h a f c k d) (Nat.le_add_left _ _));rw[Dc];omega
  .next es =>
   show _<=200+(es.map λe=>100+6*(CX e.1).length+DA k e.2).sum;have g:=h es.length;have i:=U2 (λe:Lit×DataW Unit=>(hT (CX e.1).length++CX e.1)++LC hB hL hM hT nt no nm k e.2) (λe=>100+6*(CX e.1).length+DA k e.2) es (λe _=>by have j:=U3 h a f c k e.2;have m:=h (CX e.1).length;rw[Dc,Dc];omega);rw[Dc];omega
  exact En _
theorem U4(k:I)(d:A2):O (Do k d)<=DA k d :=
 U3 (λx=>⟨Np,Np,Np,Np⟩) (λb=>by grind [eE,Np]) (Np) q4N k d
theorem jf(k:I)(d:A2):O (I4 k d)<=DA k d :=
 U3 (λx=>⟨(RF x).1,(RF x).2.1,(RF x).2.2.1,(RF x).2.2.2.1⟩) (λb=>by grind [eF]) B8 quH k d
theorem jg{α:Type}(T:α->A1)(m:α->I)(l:AJ α)(h:∀a,a∈l->O (T a)+1<=m a):O (Dd T l)<=(l.map m).sum:=by
 obtain _|⟨a,l⟩:=l
 .exact Co _
 unfold Dd;have c:=h a (LR ..);have d:=U2 (λe=>44::T e) m l (λb f=>B9);grind
theorem U5:∀(k:I) (d:A2),30*CS k d<=DA k d
 |0,_=>Co _
 |k+1,d=>by
  unfold CS DA;split
  .next ds =>
   have b:30*(ds.map λd=>1+CS k d).sum<=(ds.map λd=>30+DA k d).sum:=by
    induction ds with
    |nil=>exact Co _
    |cons a l c =>
     have:=U5 k a;rw[GO,S0,GO,S0];omega
   simp only[];omega
  .next es =>
   have b:30*(es.map λe=>2+CS k e.2).sum<=(es.map λe=>100+6*O (CX e.1)+DA k e.2).sum:=by
    induction es with
    |nil=>exact Co _
    |cons a l c =>
     have:=U5 k a.2;rw[GO,S0,GO,S0];omega
   simp only[];omega
  split<;>omega
theorem jh(k:I)(d:A2):200<=DA (k+1) d:=by unfold DA;split<;>omega
theorem q6j(k:I)(f:A2->Cu->Option (AM Unit)×Cu)(g:∀d R b,(f d R).1=H b->DA k b<=2*DA k d)(ds:AJ (AM Unit)):∀(a:AJ (AM Unit)×Cu),GF k (ds.foldl (λa d=>(a.1++(f d a.2).1.toList,(f d a.2).2)) a).1<=GF k a.1+2*GF k ds:=by
 induction ds with
 |nil=>grind
 |cons d ds c =>
  intro a;rw[UL];refine Cy (c _) ?_;have e:GF k (d::ds)=30+DA k d+GF k ds:=by unfold GF;grind
  rw[e];dsimp only;cases h:(f d a.2).1<;>grind [WX]
theorem q4S(k:I)(f:A1->A2->Cu->Option (AM Unit)×Cu)(i:∀l d R b,(f l d R).1=H b->DA k b<=2*DA k d)(es:AJ (Lit×AM Unit)):∀(a:AJ (Lit×AM Unit)×Cu),Gk k (es.foldl (λa e=>(a.1++((f (CX e.1) e.2 a.2).1.map λd=>(e.1,d)).toList,(f (CX e.1) e.2 a.2).2)) a).1<=Gk k a.1+2*Gk k es:=by
 induction es with
 |nil=>grind
 |cons d c g =>
  intro a;rw[UL];refine Cy (g _) ?_;have e:Gk k (d::c)=100+6*O (CX d.1)+DA k d.2+Gk k c:=by unfold Gk;grind
  rw[e];dsimp only;cases h:(f (CX d.1) d.2 a.2).1<;>grind [Gk]
theorem XQ(c:Rv):∀(k:I) (p:AJ (A1×AK)) (d:A2) (R:Cu) (a:A2),(CW c k p d R).1=H a->DA k a<=2*DA k d
 |0,_,_,_,_,h=>Bo
 |k+1,p,d,R,a,h=>by
  have f:=jh k d;unfold CW at h;split at h
  .injection h with h;subst h;unfold IR;split
   .next ds =>
    have b:=q6j k (CW c k (([],AP)::p)) (λd R a=>XQ c k _ d R a) ds ([],(R.1+1,R.2));have e:GF k ([]:AJ (AM Unit))=0:=rfl;show 200+GF k (Ja _ ds _).1<=2*(200+GF k ds);grind [Ja]
   .next es =>
    have b:=q4S k (λkey=>CW c k ((key,AQ)::p)) (λl d R a=>XQ c k _ d R a) es ([],(R.1+1,R.2));have e:Gk k ([]:AJ (Lit×AM Unit))=0:=rfl;show 200+Gk k (Jb _ es _).1<=2*(200+Gk k es);grind [Jb]
   grind
  split at h
  .injection h with h;subst h;show 200+6*3<=_;omega
  split at h
  .injection h with h;subst h;have:=qxw c.key (DC c.dflt c.rs p.reverse).1.toNat (Do (k+1) d);show 200+6*O (JC _ _ _)<=_;omega
  cases h
theorem XR(c:Rv)(k:I)(d:A2)(R:Cu):DA k ((CW c k [] d R).1.getD .nil)<=2*DA k d+200:=by
 cases h:(CW c k [] d R).1 with
 |none=>cases k with
  |zero=>exact En _
  |succ k=>show 200<=_;omega
 |some a =>
  have:=XQ c k [] d R a h;grind
theorem U6:∀(k:I) (d:A2),EX k d->O (Jw k d)<=DA k d
 |0,_,_=>Co _
 |k+1,d,h=>by
  have c:∀l,O (qT l)<=2+6*O l:=λl=>by have:=WR l;unfold qT;simp only[Dc,FU,Je];omega
  unfold Jw;split
  .rename_i b;show(bif b then _ else _:A1).length<=200;cases b<;>decide
  .rename_i z;have h : -9223372036854775808<=z/\z<=9223372036854775807:=h;have:=itoa_length_le z h.1 h.2;show(itoa z).length<=200;omega
  .rename_i l;have:=c l;show(qT l).length<=200+6*O l;omega
  .rename_i ds;have a:∀d∈ds,EX k d:=h;show(([91]++Dd (Jw k) ds)++[93]).length<=200+GF k ds;have f:=jg (Jw k) (λd=>30+DA k d) ds (λd g=>AY (U6 k d (a d g)));have e:GF k ds=(ds.map λd=>30+DA k d).sum:=rfl;simp only[Dc,FU,Je];omega
  .rename_i es;have a:∀e∈es,Fs (CX e.1)/\EX k e.2:=h;show(([123]++Dd (Mn (Jw k)) es)++[125]).length<=200+Gk k es;have f:=jg (Mn (Jw k)) (λe=>100+6*O (CX e.1)+DA k e.2) es (λe i=>by have j:=U6 k e.2 (a e i).2;have m:=c (CX e.1);unfold Mn;simp only[Dc,FU,Je];omega);have e:Gk k es=(es.map λe=>100+6*O (CX e.1)+DA k e.2).sum:=rfl;simp only[Dc,FU,Je];omega
  have:=jh k d;show 4<=_;omega
theorem XS{d:A2}(h:EX k d):O (Ft fm k d)<=DA k d:=by grind [Ft,TH,U6,U4,jf]
theorem qsj{h:I}{l:A1}(o:h<18446744073709551616)(hl:O l<=999999999):Ar As 148 #[C .u64 h,Ae ⟨Aw l⟩] W λe k=>e=Ak (C .u64 (I9 h l))/\k=W:=by
 obtain⟨R,j⟩:=CA (I9 h l);rw[AE j];go_enter func148,ntmps148;go_wp2
 go_loopg[0,5] (O l) (λg x y wr=>∃s i:I,x=C .u64 s/\y=C Y i/\wr=W/\D (i+g=O l/\s<18446744073709551616/\I9 s (l.drop i)=R))
 case atStart=>grind
 case round =>
  obtain⟨s,i,rfl,rfl,rfl,a⟩:=hrel;obtain _|g:=gk
  .have n:¬(i:J)<(O l:J):=AY (AE a);have d:D (s=R):=by have e:=AE a;rw[RU E]at e;exact e.2.2
   go_wp2;go_ret;rw[AE d];exact⟨Z,Z⟩
  have n:(i:J)<(O l:J):=AY (AE a);obtain⟨b,c⟩:∃b,l[i]?=H b:=⟨_,D3 E⟩
  have p:=Ej c;have q:IntKind.u64.wrap (b.toNat:J)=b.toNat:=by have:=b.toNat_lt;simp[IntKind.wrap,IntKind.bits,IntKind.signed];omega
  have r:=gW b.toNat a.out.2.1 (show b.toNat<_ by have:=b.toNat_lt;omega);have f:D (I9 (Mw s b.toNat) (l.drop (i+1))=R):=by have e:=a.out.2.2;obtain⟨m,rfl⟩:=NM.1 c;rw[KA m]at e;exact e
  go_wp2;rw[gX];go_roundg g
  case measure=>omega
  case rel=>exact⟨_,i+1,rfl,Bb,rfl,by grind [D],PR,f⟩
theorem q7Q{o:Oper}{a:Act}{b2:I}{l:A1}{x y:Operand}(c:Ck w base v cur)(j:Ck w b2 v2 l)(hl:O cur+O l<=999999999)(h:∀e i f d,Ck d base (T e i f) (cur++l)->Below base w d->wpList As ops Q rest (a.put o.dst (T e i f)) d)(n:o.guard=Ao:=by rfl)(q:o.op=.call {callee:=.builtin .append,args:=#[x,y],argTypes:=#[50,50]}:=by rfl)(r:a.eval x=v:=by rfl)(hx:a.eval y=v2:=by rfl):wpList As ops Q (o::rest) a w:=by
 obtain⟨R,p,L,N,P⟩:=DD Tryz.infoU8;have t:=j;obtain⟨⟨_,k⟩,_,_⟩:=j;rcases k with⟨rfl,k⟩|⟨g,s,cs,rfl,_,S,_⟩
 .obtain⟨e,i,f,rfl⟩:=c.2.2;refine Tf n q underlying50 underlying50 p r c.1 hx (h _ _ _ _ ?_ (Cq _ _));grind
 refine JO _ n x y 50 q base 5 R (C .u8 0) 1 1 underlying50 p L N P rfl B8 v _ _ r c.1 ⟨g,0,Ao⟩ (O l) s (l.map CJ) hx Ba ?_ (λu F=>by obtain⟨b,_,rfl⟩:=List.mem_map.mp F;rfl) Bc E c.2.1 ?_
 .grind [Addr.add,O7 t,CJ]
 intro V d z A _;obtain⟨m,B⟩:=WJ c z A;obtain⟨_,_,_,rfl⟩:=m.2.2;exact h _ _ _ _ m B
theorem qx7(u:AU)(h:base<=K (U W)):Ck (Az W (M #[C .u8 u.toNat] 5)) base (T (Aa (K (U W))) 1 1) [u] :=
 ⟨⟨rfl,AG ⟨K (U W),1,#[C .u8 u.toNat],rfl,h,Cj _,Co _,B8,rfl,rfl⟩⟩,B7,_,_,_,rfl⟩
theorem Ck.al{l:A1}(h:Ck W base v l)(o:Obj):Ck (Az W o) base v l:=⟨h.1.alloc _,B0 h.2.1,h.2.2⟩
def JI(n:AI):AH->A1
 |0=>[]
 |k+1=>AW (n%256).toNat::JI (n/256) k
theorem XW:∀(k:I) (n:J),O (JI n k)=k
 |0,_=>rfl
 |k+1,n=>by simp[JI,XW k]
theorem jl(key:J):∀k j,I9 (JB key j) (JI (key/2^(8*j)) k)=JB key (j+k)
 |0,_=>rfl
 |k+1,j=>by
  have h:=jl key k (j+1);have e:key/2^(8*j)/256=key/2^(8*(j+1)):=by grind [Int.ediv_ediv_of_nonneg]
  rw[JI,I9,e,Yt,LU E];rw[show j+(k+1)=j+1+k by omega];exact h
theorem jm:∀(k:I) (W:X) (n:J),k<=8 -> -9223372036854775808<=n->n<=9223372036854775807->Ar As 149 #[C Y n,C Y k] W λe f=>∃a m c,e=Ak (T a m c)/\Ck f (K (U W)) (T a m c) (JI n k)/\A0 W f
 |0,W,n,_,_,_=>by go_enter func149,ntmps149;go_wp2;go_ret;exact⟨_,_,_,Z,Rf,CO⟩
 |k+1,W,n,hk,h1,h2=>by
  have c:∀V x,D (x=n/256)->Ar As 149 #[C Y x,C Y k] V λe f=>∃a m c,e=Ak (T a m c)/\Ck f (K (U V)) (T a m c) (JI (n/256) k)/\A0 V f:=λV x y=>by rw[AE y];exact jm k V (n/256) E E E
  have F:(((k+1:I):J)==0)=AQ:=B7;obtain⟨b,N,r,s,h⟩:=Xo n;obtain⟨u,w⟩:=Dx (AW b);have i:D (JI n (k+1)=[u]++JI (n/256) k):=by grind [D,JI]
  have q:D ((b:J)=u.toNat):=by grind [D,Hf]
  have L:=G (XW k (n/256));rw[AE i];generalize JI (n/256) k=l at *;have j:D (wrap64 ((wrap64 (n-b)).tdiv 256)=n/256):=by grind [D,wrap64]
  clear r s w i;have Q:(b:J)-256<0:=E;have R:¬(b:J)<0:=E;rcases h with⟨h,P⟩|h
  all_goals
   go_enter func149,ntmps149
   go_wp2_with(first
    |(go_at_call 149;refine(c _ _ j).mono ?_;rintro e w2 ⟨a,m,c,rfl,g,d⟩;have g:=G g;have d:=G d;have z:=AE q)
    |(at_builtin;refine q7Q (qx7 u d.size) (g.al _) (by grind [D]) ?_;intro A S B w' t v;have o:=G t;have p:=G v))
  all_goals
   go_ret;exact⟨_,_,_,Z,o,d.trans ((Cl.mono d.size).trans p)⟩
def L9:AH->AH->A1
 |0,_=>[]
 |k+1,u=>L9 k (u/16)++[Eb (u%16)]
theorem jn:∀k,L9 k 0=AV k 48
 |0=>rfl
 |k+1=>by rw[L9,Nat.zero_div,jn k,kK];rfl
theorem jo:∀(k u:I),u<16^(k+1)->L9 (k+1) u=AV (k+1-O (hxL u)) 48++hxL u
 |k,u,h=>by
  by_cases a:u<16
  .rw[L9,Rw a,Nat.div_eq_of_lt a,LU a,jn];rfl
  obtain _|k:=k
  .omega
  have b:=jo k (u/16) E;grind [L9,TJ]
theorem q22:∀(x:I) (h:x<16),(⟨#[48,49,50,51,52,53,54,55,56,57,97,98,99,100,101,102]⟩:AT)[x]'h=Eb x:=B8
theorem q37{u:I}(h:u<18446744073709551616):L9 16 u=Mx u:=jo 15 u h
theorem q2f{key:J}{label:I}{a:A3}{d:A2}(h1 : -9223372036854775808<=key)(h2:key<=9223372036854775807)(ad:label<256)(hF:∀j,F j->j<K (U W))(h:CP k W F (.agg a) d)(hl:O (Do k d)<=999999999):Ar As 110 #[C Y key,C Y label,.agg a] W (E4 (JC key label (Do k d)) W):=by
 obtain⟨u,rfl⟩:∃u:AU,label=u.toNat:=⟨AW label,(Hf ad).symm⟩
 have HX:D (ED W a (Az W (M a 101))):=K1;obtain⟨kd,aj,s,ka,ki,kj,va,vi,vj,e⟩:=h.shape;injection e with e;have L:D (∀V,ED W a V->Ar As 86 #[.agg a] V (E4 (Do k d) V)):=λV P=>TI k V F a d (λj q=>CK (hF j q) P.below.size) (h.same (λ_ h=>h) (λj q=>P.below.block j (hF j q))) hl;have cS:=λV=>jm 8 V key E h1 h2;have p:=λV x l hx hl=>qsj (W:=V) (h:=x) (l:=l) hx hl;obtain⟨R,w⟩:=CA (JC key u.toNat (Do k d));have H0:D (I9 14695981039346656037 (JI key 8)=JB key 8):=by have e:=jl key 8 0;rw[Nat.mul_zero,Int.pow_zero,Int.ediv_one]at e;exact e
 have f:D (O (JI key 8)<=999999999):=by grind [D,XW]
 have o:D (JC key u.toNat (Do k d)=Mx (I9 (I9 (JB key 8) [u]) (Do k d))):=rfl;rw[AE w];rw[AE w]at o;generalize JI key 8=sp at *;generalize Do k d=cb at *;subst e;unfold Ce at *;unfold E4 CQ at L ⊢;go_enter func110,ntmps110;have t:D (I9 (JB key 8) [u]<18446744073709551616):=TL _ _ (TK _ _);obtain⟨s2,r⟩:=CA (I9 (JB key 8) [u]);rw[AE r]at o t
 go_wp2_with(first
  |(go_at_call 149;refine(cS _).mono ?_;rintro e w2 ⟨a2,m2,c2,rfl,HO,m⟩;have n:=Qx HO;have ab:=G (HX.next m))
  |(have _:=f;go_at_call 148;refine(p _ _ _ B8 f).mono ?_;rintro e z ⟨rfl,rfl⟩;rw[AE H0];clear n f;have Q:=Jv z (u.toNat:J) u Z)
  |(have _:=Q;go_at_call 148;refine(p _ _ [u] (TK _ _) Ba).mono ?_;rintro e w4 ⟨rfl,rfl⟩;rw[AE r];clear Q;have b:D (ED W _ (Az z (M #[C .u8 u.toNat] 5))):=ab.next Cl;have z0:=Cb b.box 0;have z1:=Cb b.box 1;have z2:=Cb b.box 2;have z3:=Cb b.box 3;have z4:=Cb b.box 4;have c:=L.out _ b)
  |(go_at_call 86;refine c.mono ?_;rintro e w5 ⟨rfl,ac⟩;have B:=G (b.next ac))
  |(have _:=B;go_at_call 148;refine(p _ _ _ t hl).mono ?_;rintro e w6 ⟨rfl,rfl⟩))
 obtain⟨S,HS⟩:=CA (I9 s2 cb);have A:D (S<18446744073709551616):=by grind [D,TL]
 rw[AE HS]at o ⊢;have aa:=G B.below;go_wp2
 go_loopg[7,8,9] 16 (λg x af ag wr=>∃(v i:I) (l:A1),x=C .u64 v/\af=Ae ⟨Aw l⟩/\ag=C Y i/\D (i+g=16)/\D (L9 g v++l=R/\O l=i/\v<18446744073709551616)/\D (A0 W wr))
 case atStart=>exact⟨S,0,[],rfl,rfl,rfl,rfl,⟨by rw[Qj,q37 A,AE o],rfl,A⟩,aa⟩
 case round =>
  obtain⟨v,i,l,rfl,rfl,rfl,y,f,m⟩:=hrel;obtain _|g:=gk
  .have ae:¬(i:J)<16:=AY (AE y);obtain⟨N,_⟩:=AE f;rw[L9,KG]at N;subst N;go_wp2;go_ret;exact⟨Z,m⟩
  have ae:(i:J)<16:=AY (AE y);have hm:(v:J).tmod 16=((v%16:I):J):=rfl;have hd:(v:J).tdiv 16=((v/16:I):J):=rfl;have ah:=q22 (v%16) (UX _ B8);have HN:D (L9 g (v/16)++([Eb (v%16)]++l)=R/\O ([Eb (v%16)]++l)=i+1/\v/16<18446744073709551616):=by grind [D,L9]
  generalize Eb (v%16)=c at *;have n:=Jv wr (c.toNat:J) c Z;have ai:¬(1+O l>9223372036854775807):=AY (AE f);have HW:D (IntKind.u64.wrap ((v:J)/16)=((v/16:I):J)):=by grind [D,IntKind.wrap,IntKind.bits]
  go_wp2;go_roundg g
  case measure=>omega
  case rel=>exact⟨v/16,i+1,_,by rw[AE HW],by rw[<-EL],Bb,B9,HN,m.alloc m.size _⟩
theorem qoq{c:I}:∀w:X,(Instr.typeAssert (Ai 219 (T a n c)) 89 221 AP).run As w=.ok (Af #[T Ao 0 0,Ah AQ]) w:=λw=>B6
theorem qsr{c:I}:∀w:X,(Instr.typeAssert (Ai 219 (T a n c)) 89 223 AP).run As w=.ok (Af #[T Ao 0 0,Ah AQ]) w:=λw=>B6
theorem que{f:I}{t:AN}{y:Aq}(b:∀w:X,(Instr.typeAssert (Ai t y) 89 221 AP).run As w=.ok (Af #[T Ao 0 0,Ah AQ]) w)(c:∀w:X,(Instr.typeAssert (Ai t y) 89 223 AP).run As w=.ok (Af #[T Ao 0 0,Ah AQ]) w):Ar As 180 #[A8 B,Ai t y,C Y f] W λe a=>e=Ak (Ai t y)/\a=W:=by go_enter func180,ntmps180;go_wp2;go_ret;exact⟨Z,Z⟩
def PW(c:Rc)(k:AH)(F:AH->Prop)(r:AM Unit×Cu)(M:AH)(sts:AJ ((AH->AH)×AI×AI))(V:Ap)(e:Ending)(V':Ap):Prop :=
 ∃(v':Aq) (sts':AJ ((AH->AH)×AI×AI)),e=Ak v'/\DJ c r.2 M sts' V'/\Dp V V'/\Gs sts sts'/\Cv k V' (λj=>F j\/(Au (Av V)<=j/\j<Au (Av V'))) v' r.1
theorem qws{f:I}(k:I)(F:I->Prop){r:AM Unit×Cu}{M:I}(b:AJ ((I->I)×J×J))(d:Ar As 202 #[A8 B,T a n m,C Y f] W (Ub c k F 221 r M b W)):Ar As 180 #[A8 B,Ai 221 (T a n m),C Y f] W (PW c k F r M b W):=by
 have p:=Tc a n m;go_enter func180,ntmps180
 go_wp2_with(first
  |(go_at_call 202;refine d.mono ?_;rintro e t ⟨o,s,q,l,rfl,g,h,i,j⟩))
 go_ret;exact⟨_,l,Z,g,h,i,j⟩
theorem qyZ{f:I}(k:I)(F:I->Prop){r:AM Unit×Cu}{M:I}(b:AJ ((I->I)×J×J))(d:Ar As 203 #[A8 B,T a n m,C Y f] W (Ub c k F 223 r M b W)):Ar As 180 #[A8 B,Ai 223 (T a n m),C Y f] W (PW c k F r M b W):=by
 have p:=Td a n m;have q:=Te a n m;go_enter func180,ntmps180
 go_wp2_with(first
  |(go_at_call 203;refine d.mono ?_;rintro e u ⟨o,t,s,l,rfl,g,h,i,j⟩))
 go_ret;exact⟨_,l,Z,g,h,i,j⟩
theorem DH.sliceR{t:AN}{size:I}(h:DH V t size F v n xs):∃q a,v=T q n a:=by rcases h.2 with⟨e,c⟩|⟨g,a,b,e,_⟩<;>grind
theorem qym(ok:IE c){k:Nat}(z:RI c k)(W:World)(F:Nat->Prop)(x:Value)(d:DataW Unit){p:List (List UInt8×Bool)}(f:Nat)(R:Cu)(N:Nat)(b:List ((Nat->Nat)×Int×Int))(h:DJ c R N b W)(s:IF c b f p)(hF:∀j,F j->j<W.heap.size)(a:Cv (k+1) W F x d)(hc:(Do (k+1) d).length<=999999999)(S:N+CS (k+1) d<=90001):Calls prog 180 #[A8 c.B,x,.int .i64 f] W (PW c (k+1) F (IR (CW c.v k) p d R) (N+CS (k+1) d-1) b W):=by
 have l:∀(t:TypeId) (y:Value),x=.iface t y->IR (CW c.v k) p d R=(d,R)->1<=CS (k+1) d->(∀w:World,(Instr.typeAssert (.iface t y) 89 221 true).run prog w=.ok (.tuple #[.slice none 0 0,.bool false]) w)->(∀w:World,(Instr.typeAssert (.iface t y) 89 223 true).run prog w=.ok (.tuple #[.slice none 0 0,.bool false]) w)->Calls prog 180 #[A8 c.B,x,.int .i64 f] W (PW c (k+1) F (IR (CW c.v k) p d R) (N+CS (k+1) d-1) b W):=by intro t y m i r A L;subst m;rw[i];refine(que A L).mono ?_;rintro e Q ⟨rfl,rfl⟩;exact⟨_,b,Z,h.more E,Dp.refl _,Gs.refl _,a.same (λ_ h=>.inl h) (λ_ _=>rfl)⟩
 have aa:=a;unfold Cv at a;split at a
 .exact l _ _ a Z (Co _) R5 R6
 .exact l _ _ a Z (Co _) (eh) (el)
 .exact l _ _ a.1 Z (Co _) (eo) (ep)
 .exact l _ _ a Z (Co _) (et) (eu)
 .obtain⟨u,e,g⟩:=a;obtain⟨q,o,rfl⟩:=g.sliceR;exact l _ _ e Z (Co _) (qoq) (qsr)
 .rename_i ds;obtain⟨u,P,rfl,g,n⟩:=a;obtain⟨q,o,rfl⟩:=g.sliceR;have m:CS (k+1) (.agg ds)=2+(ds.map λd=>1+CS k d).sum:=rfl;have i:N+CS (k+1) (.agg ds)-1=N+1+(ds.map λd=>1+CS k d).sum:=E;rw[i];have r:Do (k+1) (.agg ds)=D4 4 ds.length++ds.flatMap (Do k):=rfl;refine qws (k+1) F b (qnr ok (λV F x d f R N b _=>z V F x d (([],true)::p) f R N b) (λ_ _=>trivial) h s hF g n ?_ E);grind
 .rename_i es;obtain⟨u,P,rfl,g,n⟩:=a;obtain⟨q,o,rfl⟩:=g.sliceR;have m:CS (k+1) (.map es)=1+(es.map λe=>2+CS k e.2).sum:=rfl;have i:N+CS (k+1) (.map es)-1=N+(es.map λe=>2+CS k e.2).sum:=E;rw[i];have r:Do (k+1) (.map es)=D4 5 es.length++es.flatMap (λe=>(D4 3 (CX e.1).length++CX e.1)++Do k e.2):=rfl;refine qyZ (k+1) F b (qpx ok z h s hF g n ?_ E);grind
 exact a.elim
theorem OL(h:DJ c R N sts V)(ok:IE c)(j:I):AC V ⟨c.B,37+j,Ao⟩=#[C Y c.v.clr,C Y c.v.key,A8 c.A,C Y R.1,C Y R.2.1,C Y R.2.2.1,C Y R.2.2.2][j]?:=by refine(Cb h.box (37+j)).trans ?_;unfold Ex;rw[MM (by rw[ok.ord.size];omega),ok.ord.size,show 37+j-37=j by omega]
theorem ju(h:DJ c R N sts V):∀(j:I) (u:Aq),c.O[j]?=H u->A6 V c.B (0+j) u:=by intro j u a;have b:=Cc a;refine(Cb h.box (0+j)).trans ?_;grind [Ex]
theorem Ue(ok:IE c)(R:Cu)(j:I)(v:Aq):Ay (Ex c R) (37+j) v=c.O++#[C Y c.v.clr,C Y c.v.key,A8 c.A,C Y R.1,C Y R.2.1,C Y R.2.2.1,C Y R.2.2.2].setIfInBounds j v:=by
 unfold Ex;apply P7;have a:O c.O.toList=37:=by simp[ok.ord.size]
 grind
theorem qxo(ok:IE c):(prog.info? 123).map (·.size)=H c.O.size:=by rw[ok.ord.size];kernel_rfl
theorem jv{c:Rv}{p:AJ (A1×AK)}{d:A2}(a:c.m (DC c.dflt c.rs p.reverse).1.toNat c.clr=AP):CW c (k+1) p d R=(H (IR (CW c k) p d (R.1+1,R.2)).1,(IR (CW c k) p d (R.1+1,R.2)).2):=by rw[CW,Cn a]
theorem jw{c:Rv}{p:AJ (A1×AK)}{d:A2}(b:¬c.m (DC c.dflt c.rs p.reverse).1.toNat c.clr=AP)(a:(DC c.dflt c.rs p.reverse).2=2):CW c (k+1) p d R=(H (.lit (.string [42,42,42])),(R.1,R.2.1,R.2.2.1+1,R.2.2.2)):=by grind [CW]
theorem jx{c:Rv}{p:AJ (A1×AK)}{d:A2}(b:¬c.m (DC c.dflt c.rs p.reverse).1.toNat c.clr=AP)(a:(DC c.dflt c.rs p.reverse).2=3):CW c (k+1) p d R=(H (.lit (.string (JC c.key (DC c.dflt c.rs p.reverse).1.toNat (Do (k+1) d)))),(R.1,R.2.1,R.2.2.1,R.2.2.2+1)):=by grind [CW]
theorem jy{c:Rv}{p:AJ (A1×AK)}{d:A2}(e:¬c.m (DC c.dflt c.rs p.reverse).1.toNat c.clr=AP)(a:¬(DC c.dflt c.rs p.reverse).2=2)(b:¬(DC c.dflt c.rs p.reverse).2=3):CW c (k+1) p d R=(Ao,(R.1,R.2.1+1,R.2.2.1,R.2.2.2)):=by grind [CW]
theorem OM(k:I)(d:A2):1<=CS (k+1) d:=by unfold CS;split<;>omega
def q7J(D:A2->Prop)(c:Rc)(k:AH)(p:AJ (A1×AK)):Prop:=∀(W:Ap) (F:AH->Prop) (x:Aq) (d:A2) (f:AH) (R:Cu) (N:AH) (sts:AJ ((AH->AH)×AI×AI)) (_hD:D d) (_h:DJ c R N sts W) (_hf:IF c sts f p) (_hF:∀j,F j->j<Au (Av W)) (_hd:Cv (k+1) W F x d) (_hc:At (Do (k+1) d)<=999999999) (_hN:N+CS (k+1) d<=90001),Ar As 180 #[A8 c.B,x,Ab .i64 f] W (PW c (k+1) F (IR (CW c.v k) p d R) (N+CS (k+1) d-1) sts W)
theorem qrT{D:A2->Prop}(ok:IE c)(k:I)(p:AJ (A1×AK))(sh:c.v.m (DC c.v.dflt c.v.rs p.reverse).1.toNat c.v.clr=AP->q7J D c k p):Ua D c (k+1) p:=by
 intro ab F bg d ah R N q au h hf hF hd hc hN;have cV:=h.verdict ok hf;obtain⟨l,hl,a0⟩:=ok.lab p.reverse;rw[hl]at cV;obtain⟨f,L⟩:=CA ((DC c.v.dflt c.v.rs p.reverse).2);rw[AE L]at cV;obtain⟨ag,HB⟩:=CA (c.v.m l c.v.clr);have ao:Go.RowKit.Hid ((DC c.v.dflt c.v.rs p.reverse).1.toNat=l):=by grind [Go.RowKit.Hid]
 have cM:=λV=>kY ok.ord ok.n6 a0 ok.clr V;rw[AE HB]at cM;obtain⟨ad,ae,rfl⟩:=hd.iface;have HR:=G h;have g:=G ok;have a3:=Uc h ok;have a5:=h.few;have bb:=OM k d;have af:Go.RowKit.Hid (∀V,ag=AP->DJ c (R.1+1,R.2) (N+1) q V->Dp ab V->Ar As 180 #[A8 c.B,Ai ad ae,C Y ah] V (PW c (k+1) F (IR (CW c.v k) p d (R.1+1,R.2)) (N+1+CS (k+1) d-1) q V)):=λV a6 h1 s=>sh (by grind [Go.RowKit.Hid]) V F (Ai ad ae) d ah (R.1+1,R.2) (N+1) q au h1 hf (λj b=>CK (hF j b) s.size) (hd.kept (λ_ h=>h) s) hc E;rw[show N+1+CS (k+1) d-1=N+CS (k+1) d by omega]at af;have az:8<K (U c.W0):=by have h0:=ok.tab;grind [World.cell?]
 have ar:Go.RowKit.Hid (∀V,Below (K (U c.W0)) c.W0 V->Dp ab V->Ar As 181 #[C Y c.v.key,C Y l,Ai ad ae] V λe W'=>e=Ak (Ae ⟨Aw (JC c.v.key l (Do (k+1) d))⟩)/\A0 V W'):=λV h1 s=>xH c.v.key l (AY ok.n6) (λj b=>CK (hF j b) s.size) (hd.kept (λ_ h=>h) s) hc ((h1.cell az).trans ok.tab);have ac:N+1<=N+CS (k+1) d:=E;obtain⟨rr,Q⟩:=CA (CW c.v (k+1) p d R);rw[AE Q];generalize hNE:N+CS (k+1) d=NE at *;go_enter func146,ntmps146
 go_wp2_with(first
  |(go_at_call 72;refine cV.mono ?_;rintro e w2 ⟨rfl,ai⟩;have aa:=G (HR.step ai.drew);have an:=G (Dp.of_below ai.drew)))
 refine Dl (S:=λA=>(∀(j:I) (u:Aq),c.O[j]?=H u->A6 A c.B (0+j) u)/\A6 A c.B 37 (C Y c.v.clr)) (⟨ju aa,OL aa g 0⟩) B6 ?_;intro o;refine Ca 0 20 (A8 c.B) o ?_;refine Ca 1 21 (A8 c.B) o ?_;refine Ca 2 22 (A8 c.B) o ?_;refine Ca 3 23 (A8 c.B) o ?_;refine Cf 4 24 (.agg c.O) Z (λA hZ=>?y4) o ?_
 case y4=>exact Nz (.tmp 23) rfl rfl hZ.1 underlying123 rfl (qxo g)
 refine Ca 5 25 (C Y l) o ?_;refine Ca 6 26 (A8 c.B) o ?_;refine Ca 7 27 (A8 c.B) o ?_;refine Ca 8 28 (A8 c.B) o ?_;refine Ca 9 29 (A9 c.B 37) o ?_;refine Cf 10 30 (C Y c.v.clr) Z (λA hZ=>?y10) o ?_
 case y10=>(go_simp)
 refine CC 11 (λa2 hK=>?_);go_simp;refine(cM _).mono ?_;rintro e a ⟨rfl,aj⟩;simp only[];have n:=G (aa.step aj);have P:=G (an.trans (Dp.of_below aj));have ay:(λA:X=>(∀(j:I) (u:Aq),c.O[j]?=H u->A6 A c.B (0+j) u)/\A6 A c.B 37 (C Y c.v.clr)) a:=⟨ju n,OL n g 0⟩
 refine hK.out _ _ ay (λ_=>?_);refine CG ?_;go_simp;have t:=λj=>Dq a c.B j _ _ n.box;cases ag
 .have y:Go.RowKit.Hid (¬c.v.m (DC c.v.dflt c.v.rs p.reverse).1.toNat c.v.clr=AP):=by grind [Go.RowKit.Hid]
  by_cases s:f=2
  .subst s;have be:A6 a c.B 42 (C Y R.2.2.1):=OL n g 5;have a9:=t 42;have w:=Q.symm.trans (jw y L);subst w;have i:DJ c (R.1,R.2.1,R.2.2.1+1,R.2.2.2) (N+1) q (AB a ⟨c.B,42,Ao⟩ (C Y ((R.2.2.1:J)+1)))/\Dp a (AB a ⟨c.B,42,Ao⟩ (C Y ((R.2.2.1:J)+1))):=n.count (R':=(R.1,R.2.1,R.2.2.1+1,R.2.2.2)) g 42 (R.2.2.1+1) (by rw[show 42=37+5 from Z,Ue g.out];rfl) BK;have r:=G (P.trans i.2);have z:=G (i.1.more ac)
   go_wp2_with fail
   refine CL (Fw results146 _ _ _) Z ?_;exact⟨_,q,Z,z,r,Gs.refl _,λh=>Bx,λd' h=>by have x:=Fg h;rw[<-x];rfl⟩
  by_cases h3:f=3
  .subst h3;have bf:A6 a c.B 43 (C Y R.2.2.2):=OL n g 6;have ba:=t 43;have w:=Q.symm.trans (jx y L);rw[AE ao]at w;subst w;have i:DJ c (R.1,R.2.1,R.2.2.1,R.2.2.2+1) (N+1) q (AB a ⟨c.B,43,Ao⟩ (C Y ((R.2.2.2:J)+1)))/\Dp a (AB a ⟨c.B,43,Ao⟩ (C Y ((R.2.2.2:J)+1))):=n.count (R':=(R.1,R.2.1,R.2.2.1,R.2.2.2+1)) g 43 (R.2.2.2+1) (by rw[show 43=37+6 from Z,Ue g.out];rfl) BK;have r:=G (P.trans i.2);have z:=G (i.1.more ac);have a4:(AB a ⟨c.B,43,Ao⟩ (C Y ((R.2.2.2:J)+1))).cell? ⟨c.B,38,Ao⟩=H (C Y c.v.key):=OL i.1 g 1;have cG:=ar.out _ i.1.below r;generalize JC c.v.key l (Do (k+1) d)=tg at *
   go_wp2_with(first
    |(go_at_call 181;refine cG.mono ?_;rintro e w5 ⟨rfl,ak⟩;have aq:=G (z.step ak);have W:=G (r.trans (Dp.of_below ak))))
   refine CL (Fw results146 _ _ _) Z ?_;exact⟨_,q,Z,aq,W,Gs.refl _,λh=>Bx,λd' h=>by have x:=Fg h;rw[<-x];rfl⟩
  have bd:A6 a c.B 41 (C Y R.2.1):=OL n g 4;have a8:=t 41;have e2:(f==2)=AQ:=keT;have e3:(f==3)=AQ:=by simpa using h3
  have w:=Q.symm.trans (jy y (L.symm▸s) (L.symm▸h3));subst w;have i:DJ c (R.1,R.2.1+1,R.2.2.1,R.2.2.2) (N+1) q (AB a ⟨c.B,41,Ao⟩ (C Y ((R.2.1:J)+1)))/\Dp a (AB a ⟨c.B,41,Ao⟩ (C Y ((R.2.1:J)+1))):=n.count (R':=(R.1,R.2.1+1,R.2.2.1,R.2.2.2)) g 41 (R.2.1+1) (by rw[show 41=37+4 from Z,Ue g.out];rfl) BK;have r:=G (P.trans i.2);have z:=G (i.1.more ac)
  go_wp2_with fail
  refine CL (Fw results146 _ _ _) Z ?_;exact⟨_,q,Z,z,r,Gs.refl _,λ_=>rfl,λd' h=>Bo⟩
 have bc:A6 a c.B 40 (C Y R.1):=OL n g 3;have a7:=t 40;have w:=Q.symm.trans (jv (by grind [Go.RowKit.Hid]));subst w;have i:DJ c (R.1+1,R.2) (N+1) q (AB a ⟨c.B,40,Ao⟩ (C Y ((R.1:J)+1)))/\Dp a (AB a ⟨c.B,40,Ao⟩ (C Y ((R.1:J)+1))):=n.count (R':=(R.1+1,R.2)) g 40 (R.1+1) (by rw[show 40=37+3 from Z,Ue g.out];rfl) BK;have cS:=af.out _ Z i.1 (P.trans i.2);have r:=G (P.trans i.2);generalize IR (CW c.v k) p d (R.1+1,R.2)=sh at *
 go_wp2_with(first
  |(go_at_call 180;refine cS.mono ?_;rintro e w4 ⟨v4,a1,rfl,ax,av,aw,al⟩;obtain⟨t4,y4,rfl⟩:=al.iface;have z:=G ax;have ap:=G aw;have W:=G (r.trans av);have am:Go.RowKit.Hid (Cv (k+1) w4 (λj=>F j\/(K (U ab)<=j/\j<K (U w4))) (Ai t4 y4) sh.1):=al.same (λj b=>b.imp id (λh=>⟨Cy r.size h.1,h.2⟩)) (λ_ _=>rfl)))
 refine CL (Fw results146 _ _ _) Z ?_;exact⟨_,a1,Z,z,W,ap,λh=>Bx,λd' h=>by have x:=Fg h;rw[<-x];exact am⟩
theorem qpw(ok:IE c)(b:RI c k):RI c (k+1):=λW F x d p f R N a=>qrT (D:=λ_=>True) ok k p (λ_ W F x d f R N a _=>qym ok b W F x d f R N a) W F x d f R N a trivial
theorem jz(ok:IE c):∀k,RI c k
 |0=>λ_ _ _ _ _ _ _ _ _ _ _ _ h=>h.elim
 |k+1=>qpw ok (jz ok k)
end
section
open Go.RowKit
theorem q4X(s:A1)(t:A1×AK):I6 (Dw s) t=if s==[42]then AP else if s==[42,42]then AQ else if s==[91,93]then t.2 else !t.2&&t.1==s:=by
 unfold Dw;split
 .rfl
 split
 .rfl
 split
 .rfl
 rfl
theorem jA(s key:A1)(a:AK)(w:X):Ar As 145 #[Ae ⟨Aw s⟩,Ag #[Ae ⟨Aw key⟩,Ah a]] w λe d=>e=Ak (Ah (I6 (Dw s) (key,a)))/\A0 w d:=by
 have f:=G (q4X s (key,a));have c:D (A0 w (Az w (M #[Ae ⟨Aw key⟩,Ah a] 146))):=(Cq _ _).alloc (Co _) _;cases g:(s==[42])
 .cases h:(s==[42,42])
  .cases i:(s==[91,93])
   .have b:D (I6 (Dw s) (key,a)=(!a&&key==s)):=by grind [D]
    cases a
    .go_enter func145,ntmps145;go_wp2;go_ret;rw[AE b];exact⟨Z,c⟩
    go_enter func145,ntmps145;go_wp2;go_ret;rw[AE b];exact⟨Z,c⟩
   have b:D (I6 (Dw s) (key,a)=a):=B9;go_enter func145,ntmps145;go_wp2;go_ret;rw[AE b];exact⟨Z,c⟩
  have b:D (I6 (Dw s) (key,a)=AQ):=B9;go_enter func145,ntmps145;go_wp2;go_ret;rw[AE b];exact⟨Z,c⟩
 have b:D (I6 (Dw s) (key,a)=AP):=B9;go_enter func145,ntmps145;go_wp2;go_ret;rw[AE b];exact⟨Z,c⟩
end
section
open Go.RowKit Go.Deep
structure PX(w:World)(a:A4)(ss:List A1):Prop where
 at_:∀i (h:i<ss.length),∃b off,a=some ⟨b,off,none⟩/\b<w.heap.size/\w.cell? ⟨b,off+i,none⟩=some (.string ⟨ss[i].toArray⟩)
theorem PX.below(h:PX w a ss)(hb:A0 w w'):PX w' a ss :=
 ⟨λi f=>by obtain⟨b,off,d,c,e⟩:=h.at_ i f;exact⟨b,off,d,CK c hb.size,(hb.cell (p:=⟨b,_,Ao⟩) c).trans e⟩⟩
def MF(s:A1)(ps:AJ (A1×AK))(j:AH):AK:=match ps[j]? with
 |some t=>I6 (Dw s) t
 |none=>AQ
def Ey(s:A1)(ps:AJ (A1×AK))(f:AH->AK)(k x:AH):AK :=
 (List.range k).any λj=>f j&&((s==[42,42]&&AR (j<=x))||(AR (x=j+1)&&MF s ps j))
theorem qzw(s:A1)(ps:AJ (A1×AK))(f:I->AK)(k x:I):Ey s ps f (k+1) x=(Ey s ps f k x||(f k&&((s==[42,42]&&AR (k<=x))||(AR (x=k+1)&&MF s ps k)))):=by unfold Ey;rw[vw]
theorem XY:((Dw s).1=1)↔(s==[42,42])=AP:=by grind [Dw]
theorem qyc(s:A1)(ps:AJ (A1×AK))(f:I->AK)(x:I)(hx:x<=O ps):Ey s ps f (O ps+1) x=LE (Dw s) ps f x:=by
 by_cases a:(s==[42,42])=AP
 .have b:=(XY).2 a;have d:∀j,MF s ps j=AQ:=by grind [MF,I6]
  have key:Ey s ps f (O ps+1) x=(List.range (x+1)).any f:=by grind [Ey]
  rw[key];cases x<;>grind [LE]
 have c:(s==[42,42])=AQ:=Bl;have b:=λh=>a ((XY).1 h);cases x<;>grind [LE,Ey,MF]
theorem XZ{S T:I->AK}(h:∀x,x<n->S x=T x):FW n S=FW n T:=by apply Qf;grind [O1,lF]
structure El(w:World)(b c N:Nat)(f g:Nat->Bool)(W:World):Prop where
 below:A0 w W
 lo:w.heap.size<=b/\w.heap.size<=c
 ne:b≠c
 re:W.heap[b]?=some (.cells (FW N f) 4)
 nx:W.heap[c]?=some (.cells (FW N g) 4)
theorem El.next{c:I}{g:I->AK}(h:El w b c N f g W)(hb:A0 W W'):El w b c N f g W' :=
 ⟨h.below.trans (hb.mono h.below.size),h.lo,h.ne,(hb.block _ (LQ.1 h.re).1).trans h.re,(hb.block _ (LQ.1 h.nx).1).trans h.nx⟩
theorem El.set{c:I}{g:I->AK}(h:El w b c N f g W)(k:I):El w b c N f (Gy g k) (AB W ⟨c,k,Ao⟩ (Ah AP)) :=
 ⟨h.below.setCell h.lo.2 _,h.lo,h.ne,(G9 _ _ _ _ (by simpa using h.ne)).trans h.re,by rw[DQ W _ _ _ _ _ h.nx,S6]⟩
theorem El.same{c:I}{g g':I->AK}(h:El w b c N f g W)(a:∀x,x<N->g x=g' x):El w b c N f g' W :=
 ⟨h.below,h.lo,h.ne,h.re,by rw[<-XZ a];exact h.nx⟩
theorem El.fr{c:I}{g:I->AK}(h:El w b c N f g W)(k:I)(a:k<N):A6 W b k (Ah (f k)):=(Cb h.re k).trans (O1 f a)
theorem El.gr{c:I}{g:I->AK}(h:El w b c N f g W)(k:I)(a:k<N):A6 W c k (Ah (g k))/\W.frozen? ⟨c,k,Ao⟩=AQ:=⟨(Cb h.nx k).trans (O1 g a),Dq W c k _ _ h.nx⟩
structure RJ(w:World)(b N:Nat)(f:Nat->Bool)(W:World):Prop where
 below:A0 w W
 lo:w.heap.size<=b
 re:W.heap[b]?=some (.cells (FW N f) 4)
theorem qxD(a:n<=4096)(w:X):(Instr.makeSlice 196 (C Y ((n:J)+1)) (C Y ((n:J)+1))).run As w=.ok (T (Aa (K (U w))) (n+1) (n+1)) (Az w (M (FW (n+1) λ_=>AQ) 4)):=by have h:=run_make_row' (P:=As) 196 4 (Ah AQ) 1 underlying196 B6 rfl Y Y (n+1) E E w;grind [Zk]
theorem RJ.made(h:RJ w b N f W):El w b (K (U W)) N f (λ_=>AQ) (Az W (M (FW N λ_=>AQ) 4)) :=
 ⟨h.below.alloc h.below.size _,⟨h.lo,h.below.size⟩,AY ((LQ.1 h.re).1),(Cx _ _ _ (LQ.1 h.re).1).trans h.re,Cj _⟩
theorem DR{oi:Oper}{listed:Array AK}{a:Act}(i dst:I)(e:S w)(h:wpAnyH P md ops Q S fuel (Ay listed i AP) (a.put (H dst) AO) w)(hi:ops[i]?=H oi:=by rfl)(b:(Region.noSelect ops&&Region.free md ops listed i&&(Region.ready md ops listed).contains i&&oi.dst==H dst && !Region.wanted oi (yielded ops a.tmps))=AP:=by kernel_rfl)(d:∀c a w,Q (.panic c) (a.put (H dst) AO) w->Q (.panic c) a w:=by exact λ_ _ _ h=>h):wpAnyH P md ops Q S (fuel+1) listed a w:=by simp only[F3]at b;have f:oi.dst=H dst:=BU;rw[<-f]at d h;exact EA hi b.1.1.1.1 b.1.1.1.2 b.1.1.2 d (AG ⟨by simpa using b.2,Z⟩) e h
theorem qst(S:I->AK)(h:k<=m):Gy (λx=>S x||(AR (k<=x)&&AR (x<m))) m=λx=>S x||(AR (k<=x)&&AR (x<m+1)):=by grind [Gy]
theorem q41{j:I}(h:j<O ps):MF s ps j=I6 (Dw s) (ps[j].1,ps[j].2):=by grind [MF]
theorem qxZ(ps:AJ (A1×AK))(h:i<O ss):J5 ((ss.take (i+1)).map Dw) ps f=LE (Dw ss[i]) ps (J5 ((ss.take i).map Dw) ps f):=by grind [List.take_succ_eq_append_getElem,X7]
theorem qpI{sa:A4}(sc pc:I)(a:PX w sa ss)(hP:JH w pa ps)(hn:O ps<=4096)(hs:O ss<=1000):Ar As 105 #[T sa (O ss) sc,T pa (O ps) pc] w λab w'=>ab=Ak (Ah (Nu (ss.map Dw) ps))/\A0 w w':=by
 have HS:=C9 a;have HP:=C9 hP;have a4:=qxD hn;clear a hP;have ak:D (RJ w (K (U w)) (O ps+1) (λk=>k==0) (Az w (M (Ay (FW (O ps+1) λ_=>AQ) 0 (Ah AP)) 4))):=by refine⟨(Cq _ _).alloc (Co _) _,Co _,?_⟩;grind [Cj,S6,XZ,Gy]
 have av:=O1 (n:=(O ps+1)) (λ_=>AQ) (k:=0) E;go_enter func105,ntmps105;go_wp2;clear av
 go_loopg[5,6] (O ss) (λag az x V=>∃(i b:I),az=T (Aa b) (O ps+1) (O ps+1)/\x=C Y i/\D (i+ag=O ss)/\D (RJ w b (O ps+1) (J5 ((ss.take i).map Dw) ps (λk=>k==0)) V))
 case atStart=>exact⟨0,K (U w),rfl,rfl,Bg,ak⟩
 case round =>
  clear ak;obtain⟨i,b,rfl,rfl,hg,e⟩:=hrel;obtain _|ag:=gk
  .have ay:¬(i:J)<(O ss:J):=AY (AE hg);have aw:=(Cb e.re (O ps)).trans (O1 _ E);have HF:D (Nu (ss.map Dw) ps=J5 ((ss.take i).map Dw) ps (λk=>k==0) (O ps)):=by show _=_;rw[ML (AY (AE hg))];rfl
   have HB:=C9 e.below;clear e;generalize J5 ((ss.take i).map Dw) ps (λk=>k==0) (O ps)=v0 at aw HF;go_wp2;go_ret;rw[AE HF];exact⟨Z,HB⟩
  have ap:i<O ss:=AY (AE hg);have ay:(i:J)<(O ss:J):=E;have ar:D (J5 ((ss.take (i+1)).map Dw) ps (λk=>k==0)=LE (Dw ss[i]) ps (J5 ((ss.take i).map Dw) ps (λk=>k==0))):=qxZ ps ap;have am:=C9 e.made;generalize J5 ((ss.take i).map Dw) ps (λk=>k==0)=f at *;clear e;go_wp2;generalize Az wr (M (FW (O ps+1) λ_=>AQ) 4)=V0 at *;generalize K (U wr)=c at *;have al:=C9 (HS.at_ i ap);obtain⟨B,F,rfl,ad,cS⟩:=AE al;clear al;generalize ss[i]=s at *
  go_loopg[8] (O ps+1) (λN aj V=>∃k:I,aj=C Y k/\D (k+N=O ps+1)/\D (El w b c (O ps+1) f (Ey s ps f k) V))
  case atStart=>exact⟨0,rfl,Bg,am⟩
  case round =>
   clear am;obtain⟨k,rfl,ah,o⟩:=hrel;obtain _|N:=gk
   .have a2:¬(k:J)<=(O ps:J):=AY (AE ah);have HY:D (RJ w c (O ps+1) (J5 ((ss.take (i+1)).map Dw) ps (λk=>k==0)) wr):=by have hk:k=O ps+1:=AY (AE ah);subst hk;rw[AE ar];exact⟨o.below,o.lo.2,by rw[<-XZ (n:=(O ps+1)) (λx hx=>qyc s ps f x E)];exact o.nx⟩
    clear o;go_wp2;go_roundg ag
    case measure=>omega
    case rel=>exact⟨i+1,c,rfl,Bb,B9,HY⟩
   have R:k<O ps+1:=AY (AE ah);have a0:(k:J)<=(O ps:J):=E;have HN:=C9 (λx=>qzw s ps f k x);have cf:=o.fr k R;have cs:=(o.below.cell (p:=⟨B,F+i,Ao⟩) ad).trans cS;cases A:f k
   .rw[A]at cf;have L:D (El w b c (O ps+1) f (Ey s ps f (k+1)) wr):=o.same λx _=>by rw[HN.out x,A];simp
    clear o HN;go_wp2;have a:(λd:X=>El w b c (O ps+1) f (Ey s ps f (k+1)) d) {wr with drawn:=wr.drawn+1}:=L.next (Cq _ _).drew
    refine Ef (S:=λd=>El w b c (O ps+1) f (Ey s ps f (k+1)) d) B6 ?_;refine Ca 0 53 (T (Aa b) (O ps+1) (O ps+1)) a ?_;refine Ca 1 54 (C Y k) a ?_;refine Cf 2 55 (A9 b k) Z (λd j=>?y2) a ?_
    case y2=>(go_simp;intro hh;omega)
    refine Cf 3 56 (Ah AQ) Z (λd j=>?y3) a ?_
    case y3=>(have l:=j.fr k R;rw[A]at l;go_simp)
    refine Ca 4 57 (Ah AQ) a ?_;refine DR 5 58 a ?_;refine DR 6 59 a ?_;refine DR 7 60 a ?_;refine DR 8 61 a ?_;refine Ca 9 62 (Ah AQ) a ?_;refine Ca 10 63 (Ah AQ) a ?_;refine DR 11 64 a ?_;refine DR 12 65 a ?_;refine DR 13 66 a ?_;refine DR 14 67 a ?_;refine DR 15 68 a ?_;refine DR 16 69 a ?_;refine DR 17 70 a ?_;refine DR 18 71 a ?_;refine DR 19 72 a ?_;refine Ca 20 73 (Ah AQ) a ?_;refine CG ?_;go_simp;have af:=C9 (L.next (Cq _ _).drew);go_wp2;go_roundg N
    case measure=>omega
    case rel=>exact⟨k+1,Bb,B9,af⟩
   rw[A]at cf;cases a5:(s==[42,42])
   .have aa:D (∀x,Ey s ps f (k+1) x=(Ey s ps f k x||(AR (x=k+1)&&MF s ps k))):=by grind [D]
    clear HN;by_cases ac:k<O ps
    .have ai:(k:J)<(O ps:J):=E;obtain⟨q,r,rfl,h,W,y⟩:=HP.at_ k ac;have v:=λV=>jA s ps[k].1 ps[k].2 V;have HT:D (MF s ps k=I6 (Dw s) (ps[k].1,ps[k].2)):=q41 ac;generalize ps[k]=t at *;obtain⟨key,ix⟩:=t;dsimp only at v HT W y;cases ae:I6 (Dw s) (key,ix)
     .rw[ae]at v;have L:D (El w b c (O ps+1) f (Ey s ps f (k+1)) wr):=o.same λx _=>by grind [D]
      clear o aa HT ae;go_wp2;have a:(λd:X=>El w b c (O ps+1) f (Ey s ps f (k+1)) d) {wr with drawn:=wr.drawn+1}:=L.next (Cq _ _).drew
      refine Ef (S:=λd=>El w b c (O ps+1) f (Ey s ps f (k+1)) d) B6 ?_;refine Ca 0 53 (T (Aa b) (O ps+1) (O ps+1)) a ?_;refine Ca 1 54 (C Y k) a ?_;refine Cf 2 55 (A9 b k) Z (λd j=>?y2) a ?_
      case y2=>(go_simp;intro hh;omega)
      refine Cf 3 56 (Ah AP) Z (λd j=>?y3) a ?_
      case y3=>(have l:=j.fr k R;rw[A]at l;go_simp)
      refine Ca 4 57 (Ah AP) a ?_;refine Ca 5 58 (C Y k) a ?_;refine Ca 6 59 (T (H ⟨q,r,Ao⟩) (O ps) pc) a ?_;refine Ca 7 60 (C Y (O ps)) a ?_;refine Cf 8 61 (Ah AP) Z (λd j=>?y8) a ?_
      case y8=>(go_simp)
      refine Ca 9 62 (Ah AP) a ?_;refine Ca 10 63 (Ah AP) a ?_;refine Ca 11 64 (T (H ⟨B,F,Ao⟩) (O ss) sc) a ?_;refine Ca 12 65 (C Y i) a ?_;refine Cf 13 66 (A9 B (F+i)) Z (λd j=>?y13) a ?_
      case y13=>(go_simp)
      refine Cf 14 67 (Ae ⟨Aw s⟩) Z (λd j=>?y14) a ?_
      case y14=>(have l:=(j.below.cell (p:=⟨B,F+i,Ao⟩) ad).trans cS;go_simp)
      refine Ca 15 68 (T (H ⟨q,r,Ao⟩) (O ps) pc) a ?_;refine Ca 16 69 (C Y k) a ?_;refine Cf 17 70 (A9 q (r+k*2)) Z (λd j=>?y17) a ?_
      case y17=>(go_simp)
      refine Cf 18 71 (Ag #[Ae ⟨Aw key⟩,Ah ix]) Z (λd j=>?y18) a ?_
      case y18=>(have l:=(j.below.cell (p:=⟨q,r+k*2,Ao⟩) h).trans W;have z2:=(j.below.cell (p:=⟨q,r+k*2+1,Ao⟩) h).trans y;go_simp)
      refine CC 19 (λan Q=>?_);go_simp;refine(v _).mono ?_;clear v;rintro ab w2 ⟨rfl,P⟩;have u:=C9 ((L.next (Cq _ _).drew).next P);refine Q.out _ _ u (λ_=>?_);clear Q P a;have a:=AE u;refine Ca 20 73 (Ah AQ) a ?_;refine CG ?_;go_simp;go_wp2;go_roundg N
      case measure=>omega
      case rel=>exact⟨k+1,Bb,B9,u⟩
     rw[ae]at v;have aq:D (∀x,Gy (Ey s ps f k) (k+1) x=Ey s ps f (k+1) x):=by grind [D,Gy]
     clear aa HT ae;go_wp2;have a:(λd:X=>El w b c (O ps+1) f (Ey s ps f k) d) {wr with drawn:=wr.drawn+1}:=o.next (Cq _ _).drew
     refine Ef (S:=λd=>El w b c (O ps+1) f (Ey s ps f k) d) B6 ?_;refine Ca 0 53 (T (Aa b) (O ps+1) (O ps+1)) a ?_;refine Ca 1 54 (C Y k) a ?_;refine Cf 2 55 (A9 b k) Z (λd j=>?y2) a ?_
     case y2=>(go_simp;intro hh;omega)
     refine Cf 3 56 (Ah AP) Z (λd j=>?y3) a ?_
     case y3=>(have l:=j.fr k R;rw[A]at l;go_simp)
     refine Ca 4 57 (Ah AP) a ?_;refine Ca 5 58 (C Y k) a ?_;refine Ca 6 59 (T (H ⟨q,r,Ao⟩) (O ps) pc) a ?_;refine Ca 7 60 (C Y (O ps)) a ?_;refine Cf 8 61 (Ah AP) Z (λd j=>?y8) a ?_
     case y8=>(go_simp)
     refine Ca 9 62 (Ah AP) a ?_;refine Ca 10 63 (Ah AP) a ?_;refine Ca 11 64 (T (H ⟨B,F,Ao⟩) (O ss) sc) a ?_;refine Ca 12 65 (C Y i) a ?_;refine Cf 13 66 (A9 B (F+i)) Z (λd j=>?y13) a ?_
     case y13=>(go_simp)
     refine Cf 14 67 (Ae ⟨Aw s⟩) Z (λd j=>?y14) a ?_
     case y14=>(have l:=(j.below.cell (p:=⟨B,F+i,Ao⟩) ad).trans cS;go_simp)
     refine Ca 15 68 (T (H ⟨q,r,Ao⟩) (O ps) pc) a ?_;refine Ca 16 69 (C Y k) a ?_;refine Cf 17 70 (A9 q (r+k*2)) Z (λd j=>?y17) a ?_
     case y17=>(go_simp)
     refine Cf 18 71 (Ag #[Ae ⟨Aw key⟩,Ah ix]) Z (λd j=>?y18) a ?_
     case y18=>(have l:=(j.below.cell (p:=⟨q,r+k*2,Ao⟩) h).trans W;have z2:=(j.below.cell (p:=⟨q,r+k*2+1,Ao⟩) h).trans y;go_simp)
     refine CC 19 (λan Q=>?_);go_simp;refine(v _).mono ?_;clear v;rintro ab w2 ⟨rfl,P⟩;have u:=C9 ((o.next (Cq _ _).drew).next P);refine Q.out _ _ u (λ_=>?_);clear Q P a;have a:=AE u;refine Ca 20 73 (Ah AP) a ?_;refine CG ?_;go_simp;obtain⟨cg,fg⟩:=u.gr (k+1) E;clear a;generalize Ey s ps f k (k+1)=v0 at cg;go_wp2;go_roundg N
     case measure=>omega
     case rel=>exact⟨k+1,Bb,B9,(u.set (k+1)).same λx _=>aq.out x⟩
    have ai:¬(k:J)<(O ps:J):=E;have L:D (El w b c (O ps+1) f (Ey s ps f (k+1)) wr):=o.same λx _=>by grind [D]
    clear o aa;go_wp2;have a:(λd:X=>El w b c (O ps+1) f (Ey s ps f (k+1)) d) {wr with drawn:=wr.drawn+1}:=L.next (Cq _ _).drew
    refine Ef (S:=λd=>El w b c (O ps+1) f (Ey s ps f (k+1)) d) B6 ?_;refine Ca 0 53 (T (Aa b) (O ps+1) (O ps+1)) a ?_;refine Ca 1 54 (C Y k) a ?_;refine Cf 2 55 (A9 b k) Z (λd j=>?y2) a ?_
    case y2=>(go_simp;intro hh;omega)
    refine Cf 3 56 (Ah AP) Z (λd j=>?y3) a ?_
    case y3=>(have l:=j.fr k R;rw[A]at l;go_simp)
    refine Ca 4 57 (Ah AP) a ?_;refine Ca 5 58 (C Y k) a ?_;refine Ca 6 59 (T pa (O ps) pc) a ?_;refine Ca 7 60 (C Y (O ps)) a ?_;refine Cf 8 61 (Ah AQ) Z (λd j=>?y8) a ?_
    case y8=>(go_simp)
    refine Ca 9 62 (Ah AQ) a ?_;refine Ca 10 63 (Ah AQ) a ?_;refine DR 11 64 a ?_;refine DR 12 65 a ?_;refine DR 13 66 a ?_;refine DR 14 67 a ?_;refine DR 15 68 a ?_;refine DR 16 69 a ?_;refine DR 17 70 a ?_;refine DR 18 71 a ?_;refine DR 19 72 a ?_;refine Ca 20 73 (Ah AQ) a ?_;refine CG ?_;go_simp;have af:=C9 (L.next (Cq _ _).drew);go_wp2;go_roundg N
    case measure=>omega
    case rel=>exact⟨k+1,Bb,B9,af⟩
   have aa:D (∀x,Ey s ps f (k+1) x=(Ey s ps f k x||decide (k<=x))):=by grind [D]
   clear HN;generalize Ey s ps f k=G at *;go_wp2
   go_loopg[9] (O ps+1-k) (λg3 aj V=>∃m:I,aj=C Y m/\D (m+g3=O ps+1/\k<=m)/\D (El w b c (O ps+1) f (λx=>G x||(AR (k<=x)&&AR (x<m))) V))
   case atStart=>exact⟨k,rfl,⟨E,Co _⟩,o.same λx _=>by grind [D]⟩
   case round =>
    clear o cf cs;obtain⟨m,rfl,ax,g⟩:=hrel;obtain _|g3:=gk
    .have a3:¬(m:J)<=(O ps:J):=by grind [D]
     have z:D (El w b c (O ps+1) f (Ey s ps f (k+1)) wr):=g.same λx hx=>by grind [D]
     have au:=g.fr k R;rw[A]at au;clear g;by_cases ac:k<O ps
     .have ai:(k:J)<(O ps:J):=E;obtain⟨q,r,rfl,h,W,y⟩:=HP.at_ k ac;have P0:=C9 W;have P1:=C9 y;clear W y;have v:=λV=>jA s ps[k].1 ps[k].2 V;have ht:I6 (Dw s) (ps[k].1,ps[k].2)=AQ:=by grind [I6,XY]
      rw[ht]at v;clear ht;generalize ps[k]=t at *;obtain⟨key,ix⟩:=t;have W:=AE P0;have y:=AE P1;clear P0 P1;go_wp2;have a:(λd:X=>El w b c (O ps+1) f (Ey s ps f (k+1)) d) {wr with drawn:=wr.drawn+1}:=z.next (Cq _ _).drew
      refine Ef (S:=λd=>El w b c (O ps+1) f (Ey s ps f (k+1)) d) B6 ?_;refine Ca 0 53 (T (Aa b) (O ps+1) (O ps+1)) a ?_;refine Ca 1 54 (C Y k) a ?_;refine Cf 2 55 (A9 b k) Z (λd j=>?y2) a ?_
      case y2=>(go_simp;intro hh;omega)
      refine Cf 3 56 (Ah AP) Z (λd j=>?y3) a ?_
      case y3=>(have l:=j.fr k R;rw[A]at l;go_simp)
      refine Ca 4 57 (Ah AP) a ?_;refine Ca 5 58 (C Y k) a ?_;refine Ca 6 59 (T (H ⟨q,r,Ao⟩) (O ps) pc) a ?_;refine Ca 7 60 (C Y (O ps)) a ?_;refine Cf 8 61 (Ah AP) Z (λd j=>?y8) a ?_
      case y8=>(go_simp)
      refine Ca 9 62 (Ah AP) a ?_;refine Ca 10 63 (Ah AP) a ?_;refine Ca 11 64 (T (H ⟨B,F,Ao⟩) (O ss) sc) a ?_;refine Ca 12 65 (C Y i) a ?_;refine Cf 13 66 (A9 B (F+i)) Z (λd j=>?y13) a ?_
      case y13=>(go_simp)
      refine Cf 14 67 (Ae ⟨Aw s⟩) Z (λd j=>?y14) a ?_
      case y14=>(have l:=(j.below.cell (p:=⟨B,F+i,Ao⟩) ad).trans cS;go_simp)
      refine Ca 15 68 (T (H ⟨q,r,Ao⟩) (O ps) pc) a ?_;refine Ca 16 69 (C Y k) a ?_;refine Cf 17 70 (A9 q (r+k*2)) Z (λd j=>?y17) a ?_
      case y17=>(go_simp)
      refine Cf 18 71 (Ag #[Ae ⟨Aw key⟩,Ah ix]) Z (λd j=>?y18) a ?_
      case y18=>(have l:=(j.below.cell (p:=⟨q,r+k*2,Ao⟩) h).trans W;have z2:=(j.below.cell (p:=⟨q,r+k*2+1,Ao⟩) h).trans y;go_simp)
      refine CC 19 (λan Q=>?_);go_simp;refine(v _).mono ?_;clear v;rintro ab w2 ⟨rfl,P⟩;have u:=C9 ((z.next (Cq _ _).drew).next P);refine Q.out _ _ u (λ_=>?_);clear Q P a;have a:=AE u;refine Ca 20 73 (Ah AQ) a ?_;refine CG ?_;go_simp;go_wp2;go_roundg N
      case measure=>omega
      case rel=>exact⟨k+1,Bb,B9,u⟩
     have ai:¬(k:J)<(O ps:J):=E;go_wp2;have a:(λd:X=>El w b c (O ps+1) f (Ey s ps f (k+1)) d) {wr with drawn:=wr.drawn+1}:=z.next (Cq _ _).drew
     refine Ef (S:=λd=>El w b c (O ps+1) f (Ey s ps f (k+1)) d) B6 ?_;refine Ca 0 53 (T (Aa b) (O ps+1) (O ps+1)) a ?_;refine Ca 1 54 (C Y k) a ?_;refine Cf 2 55 (A9 b k) Z (λd j=>?y2) a ?_
     case y2=>(go_simp;intro hh;omega)
     refine Cf 3 56 (Ah AP) Z (λd j=>?y3) a ?_
     case y3=>(have l:=j.fr k R;rw[A]at l;go_simp)
     refine Ca 4 57 (Ah AP) a ?_;refine Ca 5 58 (C Y k) a ?_;refine Ca 6 59 (T pa (O ps) pc) a ?_;refine Ca 7 60 (C Y (O ps)) a ?_;refine Cf 8 61 (Ah AQ) Z (λd j=>?y8) a ?_
     case y8=>(go_simp)
     refine Ca 9 62 (Ah AQ) a ?_;refine Ca 10 63 (Ah AQ) a ?_;refine DR 11 64 a ?_;refine DR 12 65 a ?_;refine DR 13 66 a ?_;refine DR 14 67 a ?_;refine DR 15 68 a ?_;refine DR 16 69 a ?_;refine DR 17 70 a ?_;refine DR 18 71 a ?_;refine DR 19 72 a ?_;refine Ca 20 73 (Ah AQ) a ?_;refine CG ?_;go_simp;have u:=C9 (z.next (Cq _ _).drew);go_wp2;go_roundg N
     case measure=>omega
     case rel=>exact⟨k+1,Bb,B9,u⟩
    have a1:(m:J)<=(O ps:J):=by grind [D]
    obtain⟨cg,fg⟩:=g.gr m E;have z:D (El w b c (O ps+1) f (λx=>G x||(AR (k<=x)&&AR (x<m+1))) (AB wr ⟨c,m,Ao⟩ (Ah AP))):=by have ao:=g.set m;rw[qst G ax.out.2]at ao;exact ao
    generalize(G m||(AR (k<=m)&&AR (m<m)))=v0 at cg;clear g;go_wp2;go_roundg g3
    case measure=>omega
    case rel=>exact⟨m+1,Bb,⟨by grind [D],by grind [D]⟩,z⟩
end
section
open Go.RowKit
structure RK(w:World)(a:A4)(rs:List (List A1×Int×Int)):Prop where
 at_:∀i (h:i<rs.length),∃b off pa pc,a=some ⟨b,off,none⟩/\b<w.heap.size/\w.cell? ⟨b,off+i*3,none⟩=some (.slice pa rs[i].1.length pc)/\w.cell? ⟨b,off+i*3+1,none⟩=some (.int .i64 rs[i].2.1)/\w.cell? ⟨b,off+i*3+2,none⟩=some (.int .i64 rs[i].2.2)/\PX w pa rs[i].1
theorem RK.below(h:RK w a rs)(hb:A0 w w'):RK w' a rs :=
 ⟨λi k=>by obtain⟨b,off,l,m,j,c,d,e,f,g⟩:=h.at_ i k;exact⟨b,off,l,m,j,CK c hb.size,(hb.cell (p:=⟨b,_,Ao⟩) c).trans d,(hb.cell (p:=⟨b,_,Ao⟩) c).trans e,(hb.cell (p:=⟨b,_,Ao⟩) c).trans f,g.below hb⟩⟩
structure ON(w:World)(arr:A3)(W:World):Prop where
 below:A0 w W
 box:W.heap[w.heap.size]?=some (.cells arr 40)
theorem ON.next{arr:A3}(h:ON w arr W)(hb:A0 W W'):ON w arr W' :=
 ⟨h.below.trans (hb.mono h.below.size),(hb.block _ (LQ.1 h.box).1).trans h.box⟩
theorem qpG(arr:A3)(d:J)(P:arr[2]?=H (C Y d)){ra:A4}(rc pc:I)(N:RK w ra rs)(L:JH w pa ps)(R:O ps<=4096)(hr:O rs<=1000)(S:∀i (h:i<O rs),rs[i].1.length<=1000):Ar As 73 #[.agg arr,T ra (O rs) rc,T pa (O ps) pc] w λe w'=>e=Ak (Af #[C Y (DC d (rs.map DX) ps).1,C Y (DC d (rs.map DX) ps).2])/\A0 w w':=by
 have y:=G N;have v:=G L;have ab:D (ON w arr (Az w (M arr 40))):=⟨(Cq _ _).alloc (Co _) _,Cj _⟩
 go_enter func73,ntmps73;go_wp2;generalize Az w (M arr 40)=V0 at *
 go_loopg[8] (O rs) (λg aa V=>∃i:I,aa=C Y i/\D (i+g=O rs)/\D (ON w arr V)/\D (DC d (rs.map DX) ps=DC d ((rs.drop i).map DX) ps))
 case atStart=>grind [D]
 case round =>
  obtain⟨i,rfl,m,a,o⟩:=hrel;obtain _|g:=gk
  .have Q:¬(i:J)<(O rs:J):=AY (AE m);have c:D (DC d (rs.map DX) ps=(d,1)):=by have h:=AE o;rw[OZ (AY (AE m))]at h;exact h
   have c2:=(Cb a.box 2).trans P;go_wp2
   go_ret2
   rw[AE c];exact⟨Z,a.below⟩
  have n:i<O rs:=AY (AE m);have Q:(i:J)<(O rs:J):=E;have x:=S i n;obtain⟨b,off,qa,qc,rfl,l,A,B,F,W⟩:=y.at_ i n;have u:D (DC d (rs.map DX) ps=if Nu (rs[i].1.map Dw) ps then rs[i].2 else DC d ((rs.drop (i+1)).map DX) ps):=by have h:=AE o;rw[KA n,GO,DC]at h;exact h
  have j:=qpI qc pc (W.below a.below) (v.below a.below) R x;have k0:=(a.below.cell (p:=⟨b,off+i*3,Ao⟩) l).trans A;have q:=G B;have s:=G F;generalize rs[i]=r at *;obtain⟨sg,lb,z⟩:=r;dsimp only at j k0 u q s;cases t:Nu (sg.map Dw) ps
  .rw[t]at j;have c:D (DC d (rs.map DX) ps=DC d ((rs.drop (i+1)).map DX) ps):=B9
   go_wp2_with(first
    |(go_at_call 105;refine j.mono ?_;rintro e w2 ⟨rfl,k⟩;have f:=G (a.next k)))
   go_roundg g
   case measure=>omega
   case rel=>exact⟨i+1,Bb,B9,f,c⟩
  rw[t]at j;have c:D (DC d (rs.map DX) ps=(lb,z)):=B9
  go_wp2_with(first
   |(go_at_call 105;refine j.mono ?_;rintro e w2 ⟨rfl,k⟩;have f:=G (a.next k);have k1:=(f.below.cell (p:=⟨b,off+i*3+1,Ao⟩) l).trans q;have k2:=(f.below.cell (p:=⟨b,off+i*3+2,Ao⟩) l).trans s))
  go_quiet (fail)
  go_wp2;refine CL (Fw results73 _ _ _) Z ⟨?_,f.below.trans ⟨Z,Z,Z,Co _,λ_ _=>rfl⟩⟩;rw[AE c];rfl
end
section
open Go.RowKit Go.Lib
def OS(r:AS (AI×AI) (AM Unit))(n:AH):AI:=match r with
 |.ok _=>0
 |.error (en,pl)=>if pl=n then 0 else en
def jP(W:Ap)(L base:AH)(g:Gt)(fed:Aq)(l:A1)(en:AI)(e:Ending)(W':Ap):Prop :=
 ∃fa fn fc,e=Ak (Ab .i64 en)/\Ck W' base (Ac fa fn fc) l/\W'.heap[L]?=An (.cells (Da g (Ac fa fn fc) AQ) 135)/\(W'.os=W.os/\W'.tape=W.tape/\W'.output=W.output)/\Au (Av W)<=Au (Av W')/\(∀k,k<Au (Av W)->k≠L->An k≠Ax fed->W'.heap[k]?=W.heap[k]?)/\∀j,Ax (Go.Value.slice fa fn fc)=An j->Ax fed=An j\/Au (Av W)<=j
theorem qxA(k:I){L:I}{g:Gt}(s:g.rc.size=40){fed:Aq}{ia:A4}(l:A1)(hl:l=acc++bs.take (g.bytes+1-O acc))(z:A7 W L (Da g fed AQ) 135)(F:Ck W base fed acc)(hL:L<base)(hb:Fi W ia bs)(b:ia=Ao->cap=0)(ah:O bs<=cap)(ag:g.bytes<=4096)(ad:O acc<=g.bytes+1){r:AS (J×J) (AM Unit)}(ae:∀f o,r=.error (f,o)->f≠0)(N:∀n i m,(∀j,j<L->n.heap[j]?=W.heap[j]?)->Fi n i l->Ar As 43 #[C Y g.inF,Ag #[C Y g.depth,C Y g.bytes],T i (O l) m] n (Mc k n r)):Ar As 36 #[A8 L,T ia (O bs) cap] W (jP W L base g fed l (OS r (O l))):=by
 have A:=qy5 s z F hL hb b ah ag ad;rw[<-hl]at A;have aj:A6 W L 46 (Ah AQ):=(Cb z 46).trans (Lb s 2);have c:D (∀j,j<L->H j≠Ax fed):=λj t e=>AY (DK F.1 e.symm);have am:=Cc z;have ac:Ar As 74 #[A8 L,T ia (O bs) cap] W λe u=>∃i m,e=Ak (Af #[])/\D (∀p,A0 u p->(∀f,jP W L base g fed l f (Ak (C Y f)) p)/\A6 p L 45 (T i (O l) m))/\Ar As 75 #[A8 L] u (RH k u r):=A.mono (by rintro e u ⟨i,fn,m,rfl,Q,q,B,R,S,h6⟩;obtain⟨ak,al,v,af⟩:=PS Q;injection v with v P w;subst v;subst P;subst w;refine⟨i,m,Z,λp h=>⟨λf=>⟨i,_,m,Z,Nf Q h,(h.block L (Cc q)).trans q,⟨h.os.trans B.1,h.tape.trans B.2.1,h.output.trans B.2.2⟩,Cy R h.size,λj a aa ab=>(h.block j (CK a R)).trans (S j a aa ab),h6⟩,(Cb ((h.block L (Cc q)).trans q) 45).trans (Lb s 1)⟩,jO s q (λn V=>N n i m (λj t=>?_) (af.below V))⟩;exact(V.block j E).trans (S j E E (c j t)));clear A N z F hb b s hl;cases r
 case' error x =>
  obtain⟨f,o⟩:=x;have y:=ae f o Z;have v:(f==0)=AQ:=ke9;have P:(f != 0)=AP:=ke9;cases w:(o==(O l:J))
  case' false=>rw[show OS (.error (f,o)) (O l)=f from Ci kee]
  case' true =>
   obtain rfl:o=O l:=kee;rw[show OS (.error (f,(O l:J))) (O l)=0 from Cn rfl]
 case' ok d=>rw[show OS (.ok d) (O l)=0 from rfl]
 all_goals
  go_enter func36,ntmps36
  go_wp2_with(first
   |(go_at_call 74;refine ac.mono ?_;rintro e w3 ⟨i,m,rfl,H1,cR⟩)
   |(go_at_call 75;refine cR.mono ?_;rintro e p ⟨h,hF⟩;(first|obtain rfl:=hF|obtain⟨an,ao,rfl,_⟩:=hF);obtain⟨hz,ai⟩:=H1.out p h;have HZ:=G hz))
  go_ret;exact HZ _
theorem qp3(W:X)(L:I)(g:Gt)(f:g.rc.size=40)(c b:Aq)(d:A7 W L (Da g c AP) 135):Ar As 36 #[A8 L,b] W λe a=>e=Ak (C Y 15)/\a=W:=by have h:A6 W L 46 (Ah AP):=(Cb d 46).trans (Lb f 2);go_enter func36,ntmps36;go_wp2;go_ret;exact⟨Z,Z⟩
theorem NG{P:Program}{fn:Func}{p u u2 u3:Tmp}{ty:AN}(h:fn.results=#[.tmp u,.cell p ty,.tmp u2,.tmp u3]){tmps:A3}{w:X}{g:I}{t:AN}{cs:A3}{fr:I×I}{d:TypeDesc}(f:tmps.getD p AO=A8 g)(c:w.heap[g]?=H (M cs t fr))(i:P.underlying ty=H d)(b:(match d with|.struct _|.array _ _=>AP|_=>AQ)=AP)(hi:(P.info? ty).map (·.size)=H cs.size){v v2 v3:Aq}(j:tmps.getD u AO=v)(k:tmps.getD u2 AO=v2)(l:tmps.getD u3 AO=v3):(results fn tmps).run P w=.ok (Af #[v,.agg cs,v2,v3]) w:=by have e:(results fn tmps).run P w=((asAddr (tmps.getD p AO)).run P w).andThen λa m=>((loadVar ty a).run P m).andThen λv n=>.ok (Af #[tmps.getD u AO,v,tmps.getD u2 AO,tmps.getD u3 AO]) n:=Bk;subst j;subst k;subst l;rw[e,f];simp only[asAddr,Ga,FT,Jd w g t ty cs fr d c i b hi]
theorem MI:(prog.info? 82).map (·.size)=H (#[Value.int Y 0,C Y 0,C Y 0,C Y 0]).size:=B6
theorem qmW(W:X)(L:I)(g:Gt)(h:g.rc.size=40)(d:Aq)(a:A7 W L (Da g d AP) 135):Ar As 38 #[A8 L] W λe c=>e=Ak (Af #[T Ao 0 0,Ag #[C Y 0,C Y 0,C Y 0,C Y 0],C Y 15,C Y 0])/\A0 W c:=by
 have f:=Cc a;have i:(Az W (M #[C Y 0,C Y 0,C Y 0,C Y 0] 82)).cell? ⟨L,46,Ao⟩=H (Ah AP):=(Cb ((Cx _ _ _ f).trans a) 46).trans (Lb h 2);have b:D ((Az W (M #[C Y 0,C Y 0,C Y 0,C Y 0] 82)).heap[K (U W)]?=H (M #[C Y 0,C Y 0,C Y 0,C Y 0] 82)):=Cj W;go_enter func38,ntmps38
 go_wp2_with(first
  |(refine Db Z 82 _ _ Z (K (U W)) #[C Y 0,C Y 0,C Y 0,C Y 0] Z Z 82 _ b MI Z Z ?_))
 refine CL (NG results38 (t:=82) (fr:=(0,0)) Z ?hh underlying82 Z MI Z Z Z) Z ⟨Z,?hb⟩<;>grind [D,Cl]
end
end Go.Proofs.YtihfjkjbfaneeaaGreatDoor
