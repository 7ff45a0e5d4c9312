import Derived.Lib.MapLaws
import Derived.Test.YtihfjkjbfaneeaaGreatDoorGq05
set_option maxRecDepth 100000
set_option maxHeartbeats 8000000
set_option linter.all false
namespace Go.Proofs.YtihfjkjbfaneeaaGreatDoor
open Go.Proofs.Tryz
open _root_ renaming Nat->I,Int->J
open Go.Value renaming int->C,slice->T
open _root_.List renaming length->O
open Go.World renaming heap->U
open _root_.Array renaming size->K
open Go.IntKind renaming i64->Y
open Go.RowKit renaming Hid->D
open Go renaming World->X
open Option renaming some->H
open Go.Obj renaming cells->M
open Go.Value renaming int->Ab,slice->Ac,string->Ae,tuple->Af,agg->Ag,bool->Ah,iface->Ai,ownBlock->Ax
open Go.Ending renaming returned->Ak
open Go.IntKind renaming i64->Al,u8->Am
open Option renaming some->An,none->Ao
open Go renaming DataW->AM,TypeId->AN,undef->AO,World->Ap,Value->Aq,Calls->Ar
open Go.Proofs.Tryz renaming prog->As
open _root_.List renaming length->At,toArray->Aw
open _root_.Array renaming size->Au,setIfInBounds->Ay
open Go.World renaming setCell->AB,cell?->AC,setRow->AD,heap->Av,alloc->Az
open Go.RowKit.Hid renaming out->AE
open Or renaming inl->AF,inr->AG
open _root_ renaming Nat->AH,Int->AI,List->AJ,Bool->AK,Except->AS,ByteArray->AT,UInt8->AU
open _root_.Bool renaming true->AP,false->AQ
open _root_.Decidable renaming decide->AR
open _root_.UInt8 renaming ofNat->AW
variable{P:Program}{V V' W W' w w2 w5:X}{B L N b base fuel g i j k last n num p q:I}{kv u v v':Aq}{s:AT}{ops:Array Oper}{Q:Exit->Act->X->Prop}{md:Region.Mode}{S:X->Prop}{listed:Array AK}{a:Act}{o:Oper}{t ty:AN}{x:Operand}{A args cells cs old y:A3}{F ex:I->Prop}{rest:AJ Oper}{f:A2->A1}{r:Ending}{bs cur h0 l tl:A1}{dp fm kd lim z:J}{d dd:A2}{xs:AJ Aq}{c:AU}{R:AS (J×J) (AM Unit×I)}{ds:AJ (AM Unit)}{es:AJ (Lit×AM Unit)}
section
open Go.RowKit Go.Lib
theorem oh(g j:I):(⟨g,0,Ao⟩:Addr).add j=⟨g,j,Ao⟩:=BR
theorem oj(h:Cg g W V):Cg g W (AB V ⟨g,k,Ao⟩ v):=⟨h.os,h.tape,h.output,by have:=h.size;grind [World.setCell],λj b a=>(CY V _ _ _ Bl).trans (h.block j b a)⟩
theorem om{s:A1}(h:A7 W g (Is (s++J0)) 5)(Q:O s<=200000000):Ar As 21 #[T (Aa g) (O s) (O s+8),Ae ⟨Aw s⟩] W λe t=>e=Ak (Ah AP)/\Cg g W t:=by
 have R:(⟨Aw s⟩:AT).size=O s:=by simp[ByteArray.size]
 have w:O (s++J0)=O s+8:=by simp[J0]
 have F:(convert 50 9 (T (Aa g) (O s) (O s+8))).run As W=.ok (Ae ⟨Aw s⟩) W:=by refine Q9 W 50 9 5 ⟨g,0,Ao⟩ (O s+8) s underlying50 underlying5 underlying9 ?_;intro j d;have:=Cb h j;rw[Qy,GM d,D3 d]at this;rw[oh];exact this
 have r:=G h;go_enter func21,ntmps21;go_wp2
 go_loopg[7,8] (O s+8) (λb y z wr=>∃k:I,y=Ah AP/\z=C Y k/\D (k+b=O s+8)/\D (Cg g W wr)/\∃a,D (A7 wr g a 5)/\D (a.size=O s+8/\∀j,k<=j->a[j]?=(Is (s++J0))[j]?))
 case atStart=>exact⟨0,rfl,rfl,Bg,⟨rfl,rfl,rfl,Co _,λ_ _ _=>rfl⟩,_,r,by rw[ZX,w],λ_ _=>rfl⟩
 case round =>
  obtain⟨k,rfl,rfl,o,f,a,i,q⟩:=hrel;obtain _|b:=gk
  .have L:¬(k:J)<(O s:J)+8:=AY (AE o);go_wp2;go_ret;exact⟨Z,f⟩
  have P:(k:J)<(O s:J)+8:=AY (AE o);obtain⟨A,p⟩:∃v,a[k]?=H v:=⟨_,RT (by grind [D])⟩
  have S:=(Cb i k).trans p;have B:=Dq wr g k _ _ i;have l:D ((AB wr ⟨g,k,Ao⟩ (C Am 1)).heap[g]?=H (M (Ay a k (C Am 1)) 5)):=by grind [D,heap_setCell_same]
  have m:D (Cg g W (AB wr ⟨g,k,Ao⟩ (C Am 1))):=oj f;have n:D ((Ay a k (C Am 1)).size=O s+8/\∀j,k+1<=j->(Ay a k (C Am 1))[j]?=(Is (s++J0))[j]?):=⟨by grind [D],λj d=>by grind [D]⟩
  by_cases N:k<O s
  .have u:(k:J)<(O s:J):=E;go_wp2;go_roundg b
   case measure=>omega
   case rel=>exact⟨k+1,rfl,Bb,B9,m,_,l,n⟩
  have u:¬(k:J)<(O s:J):=E;have x:A=C Am 77:=by have c:=q.2 k (Co _);rw[p,Qy,IU E]at c;unfold J0 at c;rw[List.getElem?_replicate,Cn E]at c;injection c
  subst x;go_wp2;go_roundg b
  case measure=>omega
  case rel=>exact⟨k+1,rfl,Bb,B9,m,_,l,n⟩
end
section
open Go.RowKit
theorem pN{K':Act->X->Prop}(c:Shut (∀a w,S w->(S w->wpAnyH P md ops Q S fuel listed a w)->K' a w))(k:Region.wanted o (yielded ops a.tmps)=AP){y:Operand}(i:o.op=.store ty x y)(e:o.dst=Ao)(hx:a.eval x=A8 g)(hy:a.eval y=.agg cells)(f:w.heap[g]?=H (M old t (0,0)))(hi:(P.info? ty).map (·.size)=H cells.size)(j:old.size=cells.size)(b:cells.all (·.oneCell')=AP)(d:S (AD w g cells))(h:wpAnyH P md ops Q S fuel listed a (AD w g cells)):if Region.wanted o (yielded ops a.tmps)=AP then Oper.wp P o a w K' Q else K' (a.put o.dst AO) w:=by rw[Cn k];apply IW ty x y i g cells hx hy t old f hi j b;rw[e];exact c _ _ d (λ_=>h)
theorem QM(l:Region.ready md ops listed=[i])(hi:ops[i]?=H o)(m:Region.wanted o (yielded ops a.tmps)=AP){y:Operand}(j:o.op=.store ty x y)(e:o.dst=Ao)(hx:a.eval x=A8 g)(hy:a.eval y=.agg cells)(f:w.heap[g]?=H (M old t (0,0)))(n:(P.info? ty).map (·.size)=H cells.size)(k:old.size=cells.size)(b:cells.all (·.oneCell')=AP)(d:S (AD w g cells))(h:wpAnyH P md ops Q S fuel (Ay listed i AP) a (AD w g cells)):wpAnyH P md ops Q S (fuel+1) listed a w :=
 S1 l Ba (NX hi (λ_ c=>pN c m j e hx hy f n k b d h) RY)
theorem sF(i x y:I){F:J×J}(d:(Region.ready md ops listed,ops[i]?.map λo=>(Region.wanted o (yielded ops a.tmps),o.op,o.dst),a.eval (.tmp x),a.eval (.tmp y))=([i],H (AP,.store 103 (.tmp x) (.tmp y),Ao),A8 g,.agg (Cd F)))(c:A7 w g (Cd (0,0)) 103)(b:S (AD w g (Cd F)))(h:wpAnyH As md ops Q S fuel (Ay listed i AP) a (AD w g (Cd F))):wpAnyH As md ops Q S (fuel+1) listed a w:=by grind [QM,Ke,Pr]
theorem Hy(i x y:I){T:A3}(p:(Region.ready md ops listed,ops[i]?.map λo=>(Region.wanted o (yielded ops a.tmps),o.op,o.dst),a.eval (.tmp x),a.eval (.tmp y))=([i],H (AP,.store 101 (.tmp x) (.tmp y),Ao),A8 g,.agg T))(n:A7 w g Cr 101)(f:SA T)(m:S (AD w g T))(h:wpAnyH As md ops Q S fuel (Ay listed i AP) a (AD w g T)):wpAnyH As md ops Q S (fuel+1) listed a w:=by obtain⟨j,b⟩:=KJ p;obtain⟨b,c⟩:=KJ b;obtain⟨c,k⟩:=KJ c;obtain⟨o,q,d⟩:=OY.1 b;obtain⟨d,e⟩:=KJ d;obtain⟨e,l⟩:=KJ e;exact QM j q d e l c k n (by rw[f.1];exact Kf) (by rw[f.1];rfl) f.2 m h
theorem zF(x y:I)(c:o.guard=Ao)(d:o.op=.store 103 (.tmp x) (.tmp y))(g:I)(F:J×J)(b:a.eval (.tmp x)=A8 g/\a.eval (.tmp y)=.agg (Cd F)/\A7 w g (Cd (0,0)) 103)(h:wpList As ops Q rest (a.put o.dst AO) (AD w g (Cd F))):wpList As ops Q (o::rest) a w:=EW x y c d g F b.1 b.2.1 b.2.2 h
theorem zT(x y:I)(c:o.guard=Ao)(d:o.op=.store 101 (.tmp x) (.tmp y))(g:I)(T:A3)(b:a.eval (.tmp x)=A8 g/\a.eval (.tmp y)=.agg T/\A7 w g Cr 101/\SA T)(h:wpList As ops Q rest (a.put o.dst AO) (AD w g T)):wpList As ops Q (o::rest) a w:=QE x c d g T b.1 b.2.1 b.2.2.1 b.2.2.2 h
theorem J1.ck{f:FuncId}{Q:Ending->X->Prop}{d l:J}(h:J1 W (Cp bs fm d l) V)(c:Ar P f args V λe a=>e=r/\A0 V a)(k:∀w,D (J1 W (Cp bs fm d l) w)->AC w ⟨K (U W),0,Ao⟩=(#[Ae ⟨Aw bs⟩,C Y fm,C Y d,C Y l]:A3)[0]?->AC w ⟨K (U W),1,Ao⟩=(#[Ae ⟨Aw bs⟩,C Y fm,C Y d,C Y l]:A3)[1]?->AC w ⟨K (U W),2,Ao⟩=(#[Ae ⟨Aw bs⟩,C Y fm,C Y d,C Y l]:A3)[2]?->AC w ⟨K (U W),3,Ao⟩=(#[Ae ⟨Aw bs⟩,C Y fm,C Y d,C Y l]:A3)[3]?->Q r w):Ar P f args V Q:=DW c h.next (λ_ h=>h.box) k
theorem Iu.ck{f:FuncId}{Q:Ending->X->Prop}{d l:J}(h:Iu W (Cp bs fm d l) N V)(c:Ar P f args V λe a=>e=r/\A0 V a)(k:∀w,D (Iu W (Cp bs fm d l) N w)->AC w ⟨K (U W),0,Ao⟩=(#[Ae ⟨Aw bs⟩,C Y fm,C Y d,C Y l]:A3)[0]?->AC w ⟨K (U W),1,Ao⟩=(#[Ae ⟨Aw bs⟩,C Y fm,C Y d,C Y l]:A3)[1]?->AC w ⟨K (U W),2,Ao⟩=(#[Ae ⟨Aw bs⟩,C Y fm,C Y d,C Y l]:A3)[2]?->AC w ⟨K (U W),3,Ao⟩=(#[Ae ⟨Aw bs⟩,C Y fm,C Y d,C Y l]:A3)[3]?->Q r w):Ar P f args V Q:=DW c h.next (λ_ h=>h.box) k
def Ha(xs:AJ Aq)(i:AH)(a:A3):Prop:=(xs.drop (5*i)).take 5=a.toList
def N9(e:Lit×AM Unit):Aq:=match e.1 with
 |.string l=>CQ l
 |_=>AO
def CP:AH->Ap->(AH->Prop)->Aq->A2->Prop
 |0,_,_,_,_=>False
 |k+1,V,F,v,d=>match d with
  |.nil=>v=.agg (Ce 0 0 ⟨#[]⟩ Cm Cm)
  |.lit (.bool b)=>v=.agg (Ce (if b=AP then 2 else 1) 0 ⟨#[]⟩ Cm Cm)
  |.lit (.int Al z)=>v=.agg (Ce 3 z ⟨#[]⟩ Cm Cm) /\ -9223372036854775808<=z/\z<=9223372036854775807
  |.lit (.string l)=>v=.agg (Ce 4 0 ⟨Aw l⟩ Cm Cm)
  |.ptr (.lit (.string l))=>v=.agg (Ce 5 0 ⟨Aw l⟩ Cm Cm)
  |.agg ds=>∃u xs,v=.agg (Ce 6 0 ⟨#[]⟩ Cm u)/\DH V 101 5 F u (At ds) xs/\∀(i:AH) (d:A2),ds[i]?=An d->∃a,Ha xs i a/\CP k V F (.agg a) d
  |.map es=>∃kv u xs,v=.agg (Ce 7 0 ⟨#[]⟩ kv u)/\DH V 9 1 F kv (At es) (es.map N9)/\DH V 101 5 F u (At es) xs/\∀(i:AH) (key:Lit) (d:A2),es[i]?=An (key,d)->∃l a,key=.string l/\Ha xs i a/\CP k V F (.agg a) d
  |_=>False
theorem CP.same{G:I->Prop}(b:∀k,F k->G k)(c:∀k,F k->V'.heap[k]?=V.heap[k]?):∀{k:I} {v:Aq} {d:A2},CP k V F v d->CP k V' G v d
 |0,_,_,h=>h
 |k+1,v,d,h=>by
  unfold CP at h ⊢;split at h
  .exact h
  .exact h
  .exact h
  .exact h
  .exact h
  .obtain⟨u,o,e,n,m⟩:=h;refine⟨u,o,e,n.same b c,λi d j=>?_⟩;obtain⟨a,f,g⟩:=m i d j;exact⟨a,f,CP.same b c g⟩
  .obtain⟨r,u,o,e,q,n,m⟩:=h;refine⟨r,u,o,e,q.same b c,n.same b c,λi key d j=>?_⟩;obtain⟨l,a,f,g,p⟩:=m i key d j;exact⟨l,a,f,g,CP.same b c p⟩
  exact h
theorem CP.more:∀{k m:I} {v:Aq} {d:A2},k<=m->CP k V F v d->CP m V F v d
 |0,_,_,_,_,h=>h.elim
 |k+1,0,_,_,hm,_=>absurd hm E
 |k+1,m+1,v,d,hm,h=>by
  unfold CP at h ⊢;split at h
  .exact h
  .exact h
  .exact h
  .exact h
  .exact h
  .obtain⟨u,n,e,j,g⟩:=h;refine⟨u,n,e,j,λi d f=>?_⟩;obtain⟨a,b,c⟩:=g i d f;exact⟨a,b,CP.more E c⟩
  .obtain⟨q,u,n,e,p,j,g⟩:=h;refine⟨q,u,n,e,p,j,λi key d f=>?_⟩;obtain⟨l,a,b,c,o⟩:=g i key d f;exact⟨l,a,b,c,CP.more E o⟩
  exact h
theorem DH.slice{size:I}(h:DH V t size F v n xs):∃a m c,v=T a m c:=by rcases h.2 with⟨e,_⟩|⟨g,b,d,e,_⟩<;>grind
theorem CP.shape(h:CP k V F v d):∃l n s a i j b p q,v=.agg (Ce l n s (T a i j) (T b p q)):=by
 obtain _|k:=k
 .exact h.elim
 unfold CP at h;split at h
 .exact⟨_,_,_,_,_,_,_,_,_,h⟩
 .exact⟨_,_,_,_,_,_,_,_,_,h⟩
 .exact⟨_,_,_,_,_,_,_,_,_,h.1⟩
 .exact⟨_,_,_,_,_,_,_,_,_,h⟩
 .exact⟨_,_,_,_,_,_,_,_,_,h⟩
 .obtain⟨u,o,e,f,_⟩:=h;obtain⟨a,m,c,rfl⟩:=f.slice;exact⟨_,_,_,_,_,_,_,_,_,e⟩
 .obtain⟨t,u,o,e,g,f,_⟩:=h;obtain⟨a,m,c,rfl⟩:=f.slice;obtain⟨r,w,c2,rfl⟩:=g.slice;grind
 exact h.elim
theorem Oi{size:I}(h:W.ownsRow base t size v n xs)(hF:∀g,base<=g->g<K (U W)->F g):DH W t size F v n xs:=by
 refine⟨h.1,?_⟩;rcases h.2 with d|⟨g,b,c,e,f,a,k,j,i,l⟩
 .exact AF d
 exact AG ⟨g,b,c,e,hF g f (Cc a),a,k,j,i,l⟩
def F5(k:AH)(bs:A1)(lim:AI)(W:Ap)(r:AS (AI×AI) (AM Unit×AH))(e:Ending)(W':Ap):Prop :=
 A0 W W'/\∃r',Gh bs lim r r'/\match r' with
 |.ok (d,q)=>Ct bs lim q/\∃kd n s a i j b p m,e=Ak (Af #[.agg (Ce kd n s (Ac a i j) (Ac b p m)),Ab Al q,.agg (Cd (0,0))])/\CP k W' (λj=>Au (Av W)<=j/\j<Au (Av W')) (.agg (Ce kd n s (Ac a i j) (Ac b p m))) d
 |.error f=>∃kd n s a i j b p m z,e=Ak (Af #[.agg (Ce kd n s (Ac a i j) (Ac b p m)),Ab Al z,.agg (Cd f)])
theorem aV{α:Type}{r r':A5 α}(h:Gh bs lim r r')(hb:Dz r):Dz r':=by
 intro a c b;rcases h with h|⟨q,_,_,_,x,d⟩
 .exact hb a c (h.trans b)
 grind
end
section
open Go.RowKit Go.Lib
theorem qK{x:AU}{xs:A1}(a:bs[i]?=H c)(b:¬(i:J)=lim)(hx:c=x):Dn bs lim (x::xs) i=Dn bs lim xs (i+1):=kfd
theorem SQ:∀(g p:I) (a:A1) (e:I) (x:A1) (q:I),Ct bs lim p->Dr bs lim g p a e=.ok (x,q)->Ct bs lim q
 |0,p,a,e,x,q,_,h=>by rw[Dr]at h;cases h
 |g+1,p,a,e,x,q,hi,h=>by
  rw[Dr]at h;rcases hc:bs[p]? with _|c
  .rw[hc]at h;cases h
  rw[hc]at h;simp only[]at h;by_cases d:(p:J)=lim
  .rw[Cn d]at h;cases h
  rw[Ci d]at h;have b:=Ed hi hc d;split at h
  .injection h with h;injection h with _ h;subst h;exact b
  split at h
  .rcases he:Hp bs lim (p+1)with f|y
   .rw[he]at h;cases h
   obtain⟨r,q1⟩:=y;rw[he]at h;exact SQ g q1 _ _ x q (bH b he).1 h
  split at h
  .cases h
  split at h
  .cases h
  exact SQ g _ _ _ x q b h
theorem bN{w3:X}{x:J×J}(h:CP k w3 (λj=>K (U w2)<=j/\j<K (U w3)) v d)(e:B<=K (U w2))(f:N+2<K (U w2)):CP k (AD (AD w3 (N+1) y) (N+2) (Cd x)) (λj=>B<=j/\j<K (U (AD (AD w3 (N+1) y) (N+2) (Cd x)))) v d:=by
 refine h.same (λj c=>⟨E,?a⟩) (λj c=>?b)
 case a =>
  simp_all
 grind [setRow_other]
def bO(r:A5 AI):AS (AI×AI) (AM Unit×AH):=match r with
 |.error e=>.error e
 |.ok (z,q)=>.ok (.lit (.int Al z),q)
theorem qL{r:A5 J}{f:J×J}(h:Gh bs lim r (.error f)):Gh bs lim (bO r) (.error f):=by
 rcases h with h|⟨q,_,_,_,x,a⟩
 .rw[h];exact AF Z
 cases a
theorem qM{r:A5 J}(h:Gh bs lim r (.ok (z,q))):Gh bs lim (bO r) (.ok (.lit (.int Y z),q)):=by
 rcases h with h|⟨e,b,c,d,x,a⟩
 .rw[h];exact AF Z
 injection a with a;injection a with h5 h6;subst h6;rw[b];exact AG ⟨q,Z,c,d,_,Z⟩
theorem Nh(h:CP 1 V F v d):CP (k+1) V F v d:=h.more E
theorem Ni{r:AS (J×J) (AM Unit×I)}{e:Ending}(h:F5 k bs lim W r e W'):A0 W W'/\∃c g n s a i j b p m z F,Gh bs lim r c/\e=Ak (Af #[.agg (Ce g n s (T a i j) (T b p m)),C Y z,.agg (Cd F)])/\(∀d q,c=.ok (d,q)->Ct bs lim q/\z=(q:J)/\F=(0,0)/\CP k W' (λj=>K (U W)<=j/\j<K (U W')) (.agg (Ce g n s (T a i j) (T b p m))) d)/\(∀f,c=.error f->F=f):=by obtain⟨l,c,o,t⟩:=h;grind
def QT(k:AH)(bs:A1)(lim:AI)(W:Ap)(r:AS (AI×AI) (AM Unit×AH))(T:A3)(z:AI)(F:AI×AI):Prop :=
 ∀W',A0 W W'->F5 k bs lim W r (Ak (Af #[.agg T,Ab Al z,.agg (Cd F)])) W'
theorem QU{n:J}{f:J×J}:QT k bs lim W (.error f) (Ce kd n s Cm Cm) z f :=
 λ_ h=>⟨h,.error f,AF rfl,_,_,_,_,_,_,_,_,_,_,rfl⟩
theorem bP{n:J}(c:Ct bs lim q)(h:∀a,CP 1 a (λj=>K (U W)<=j/\j<K (U a)) (.agg (Ce kd n s Cm Cm)) dd):QT (k+1) bs lim W (.ok (dd,q)) (Ce kd n s Cm Cm) q (0,0) :=
 λa b=>⟨b,.ok (dd,q),AF rfl,c,_,_,_,_,_,_,_,_,_,rfl,Nh (h a)⟩
theorem Wj(fm d:J){l:J}(dp:J){x:J×J}(q:CU bs l i 9=x)(r:QT (k+1) bs lim W R Cr 0 x)(b:CH bs l i=AQ\/(CH bs l i=AP/\∃c,bs[i]?=H c/\(∀x,x∈[110,102,116,34,91,123,45]->¬c.toNat=x)/\((c.toNat:J)<48\/57<(c.toNat:J)))):Ar As 90 #[.agg (Cp bs fm d l),C Y i,C Y dp] W (F5 (k+1) bs lim W R):=by
 have o:=N2 fm d q;have g:=KV W bs fm d l;have f:=G r;unfold Cp;rcases b with e|⟨e,c,s,t,b|b⟩
 all_goals
  have p:=Gi fm d e
  try
   have y:=Ej s;simp only[If,LT,LY,Z1,forall_eq]at t;have A:=D7 (c:=c) 110 E;have z:=D7 (c:=c) 102 E;have B:=D7 (c:=c) 116 E;have L:=D7 (c:=c) 34 E;have P:=D7 (c:=c) 91 E;have F:=D7 (c:=c) 123 E;have N:=D7 (c:=c) 45 E
   first
    |have v:AR (48<=(c.toNat:J))=AQ:=B7
    |(have u:48<=(c.toNat:J):=E;have w:AR ((c.toNat:J)<=57)=AQ:=B7)
  go_enter func90,ntmps90
  go_wp2_with(first
   |(go_at_call 116;apply g.ck (p _);intro Q h j m c2 n)
   |(go_at_call 84;apply h.ck (o _);intro S a j m c2 n)
   |((with_reducible refine zT 6 _ rfl rfl (K (U W)+1) (Cr) ?_ ?_);exact⟨Z,Z,a.th,thg⟩)
   |((with_reducible refine zF 8 _ rfl rfl (K (U W)+2) x ?_ ?_);exact⟨Z,Z,FZ a CO⟩))
  refine ER results90 (EB a CO _ _) _ Z Z Z Z (f _ (EB a CO _ _).2.2)
theorem bQ{d l:J}(P:bs[i]?=H c)(L:CH bs l i=AP){v:I}{a:Array AU}{q:J}{F:J×J}(Q:c.toNat=v)(t:(v,a,kd)∈([(110,#[110,117,108,108],0),(102,#[102,97,108,115,101],1),(116,#[116,114,117,101],2)]:AJ (I×Array AU×J)))(B:∀V,Ar As 127 #[.agg (Cp bs fm d l),C Y i,Ae ⟨a⟩] V λe z=>e=Ak (Af #[C Y q,.agg (Cd F)])/\A0 V z)(N:QT (k+1) bs lim W R (Ce kd 0 ⟨#[]⟩ Cm Cm) q F):Ar As 90 #[.agg (Cp bs fm d l),C Y i,C Y dp] W (F5 (k+1) bs lim W R):=by
 have aa:=Lv P Q;have A:=Gi fm d L;have x:=KV W bs fm d l;have u:=G N;unfold Cp at *;simp only[If,LX,LT,LY]at t;rcases t with h|h|h
 all_goals
  obtain⟨rfl,rfl,rfl⟩:=h
 let kd:J:=0;let b:I:=40;rotate_left
 let kd:J:=1;let b:I:=52;rotate_left
 let kd:J:=2;let b:I:=64;rotate_left
 all_goals
  go_enter func90,ntmps90
  go_wp2_with(first
   |(go_at_call 116;apply x.ck (A _);intro w2 y c0 c1 c2 c3)
   |(go_at_call 127;apply ck (B _) y.next;intro n r)
   |((with_reducible refine zF _ _ rfl rfl (K (U n)) F ?_ ?_);exact⟨Z,Z,Cj n⟩;apply Gx;intro V4 o;have f:=G (o▸r.next (Kl));have w:=G (o▸CM _ _ _ _ _ _ (Cj _));have p:=G (Cc r.flt);generalize K (U n)=M at *))
  apply Dl (S:=λj=>A7 j M _ 103) (w) B6;intro g;refine tk 0 b (.agg (Ce kd 0 ⟨#[]⟩ Cm Cm)) Z B6 Gb (λj s=>?y0) g ?_
  case y0=>(unfold Ce Cm;dsimp only[kd];go_simp)
  apply Ob 1 (dst:=(b+1)) (v:=(C Y q)) B6 Gb g;apply tk 2 (b+2) _ Z B6 Gb (λj s=>yF _ s Z Z) g;have m:=(Dg _ (K (U W)+1) M (Ce kd 0 ⟨#[]⟩ Cm Cm) (AY (AE p))).trans g;refine Hy 3 6 b B6 (f.drew.th) thg m ?_;apply Ca 4 7 (C Y q) m;refine sF 5 8 (b+2) (F:=F) B6 (FZ f.drew CO) (sx (AY (AE p)) m) ?_;refine CG ?_;dsimp only[b];go_simp;go_wp2;refine ER results90 (EB f.drew CO _ _) _ Z Z Z Z (u _ (EB f.drew CO _ _).2.2)
theorem bR{d l:J}(A:bs[i]?=H c)(y:CH bs l i=AP){q:J}{F:J×J}(B:c.toNat=34)(x:∀V,Ar As 128 #[.agg (Cp bs fm d l),C Y i] V λe v=>e=Ak (Af #[.string s,C Y q,.agg (Cd F)])/\A0 V v)(z:QT (k+1) bs lim W R (Ce 4 0 s Cm Cm) q F):Ar As 90 #[.agg (Cp bs fm d l),C Y i,C Y dp] W (F5 (k+1) bs lim W R):=by
 have aa:=Lv A B;have w:=Gi fm d y;have t:=KV W bs fm d l;have p:=G z;unfold Cp at *;go_enter func90,ntmps90
 go_wp2_with(first
  |(go_at_call 116;apply t.ck (w _);intro w2 u N P c2 Q)
  |(go_at_call 128;apply ck (x _) u.next;intro h n)
  |((with_reducible refine zF _ _ rfl rfl (K (U h)) F ?_ ?_);exact⟨Z,Z,Cj h⟩;apply Gx;intro L j;have b:=G (j▸n.next (Kl));have r:=G (j▸CM _ _ _ _ _ _ (Cj _));have m:=G (Cc n.flt);generalize K (U h)=M at *))
 apply Dl (S:=λf=>A7 f M _ 103) (r) B6;intro a;refine Ca 0 77 (.string s) a <| Cf 1 78 (.agg (Ce 4 0 s Cm Cm)) Z (λf o=>?y0) a ?_
 case y0=>(unfold Ce Cm;go_simp)
 refine Ca 2 79 (C Y q) a <| Cf 3 80 (.agg (Cd F)) Z (λf o=>yF _ o Z Z) a ?_;have g:=(Dg _ (K (U W)+1) M (Ce 4 0 s Cm Cm) (AY (AE m))).trans a;refine Hy 4 6 78 (T:=(Ce 4 0 s Cm Cm)) B6 (b.drew.th) thg g <| Ca 5 7 (C Y q) g <| sF 6 8 80 (F:=F) B6 (FZ b.drew CO) (sx (AY (AE m)) g) <| CG ?_;go_simp;go_wp2;refine ER results90 (EB b.drew CO _ _) _ Z Z Z Z (p _ (EB b.drew CO _ _).2.2)
theorem Wk{d:J}{l:J}(n:bs[i]?=H c)(a:CH bs l i=AP)(b:((c.toNat=91\/c.toNat=123)/\∀V,Ar As 129 #[.agg (Cp bs fm d l),C Y i,C Y dp] V (F5 (k+1) bs lim V R))\/((c.toNat=45\/(48<=(c.toNat:J)/\(c.toNat:J)<=57))/\∀V,Ar As 130 #[.agg (Cp bs fm d l),C Y i] V (F5 (k+1) bs lim V R))):Ar As 90 #[.agg (Cp bs fm d l),C Y i,C Y dp] W (F5 (k+1) bs lim W R):=by
 have A:=Gi fm d a;have t:=KV W bs fm d l;unfold Cp at *;rcases b with⟨b|b,m⟩|⟨b|⟨ac,ad⟩,m⟩
 all_goals
  have q:=G m
  first
   |(have N:=Lv n b)
   |(have N:=Ej n;have ag:=D7 (c:=c) 110 E;have af:=D7 (c:=c) 102 E;have ah:=D7 (c:=c) 116 E;have aj:=D7 (c:=c) 34 E;have al:=D7 (c:=c) 91 E;have ai:=D7 (c:=c) 123 E;have ak:=D7 (c:=c) 45 E)
  go_enter func90,ntmps90
  go_wp2_with(first
   |(go_at_call 116;apply t.ck (A _);intro w2 j c0 c1 c2 c3))
  apply (q _).mono;rintro aa w3 o;have P:=Cc j.flt;obtain⟨L,r',kk,nn,s,v,S,f,x,p1,m1,z,F,ae,rfl,hA,hF⟩:=Ni o;have g:=G (j.next L);have r:=G o.2;simp only[]
  go_wp2_with(first
   |((with_reducible refine zT 6 _ rfl rfl (K (U W)+1) (Ce kk nn s (T v S f) (T x p1 m1)) ?_ ?_);exact⟨Z,Z,g.th,thg⟩)
   |((with_reducible refine zF 8 _ rfl rfl (K (U W)+2) F ?_ ?_);exact⟨Z,Z,FZ g CO⟩))
  refine ER results90 (EB g CO _ _) (.int _ z) Z Z Z Z ⟨(EB g CO _ _).2.2,?_⟩;obtain⟨p,a,h⟩:=AE r;refine⟨p,a,?_⟩;obtain ab|am:=p
  .exact h
  obtain⟨a,y,n',s',u,Q,e,w,p',m',h,B⟩:=h;exact⟨a,y,n',s',u,Q,e,w,p',m',h,bN B j.below.size P⟩
def Iw(k:AH)(V:Ap)(b:AH)(u:Aq)(ex:AH->Prop)(ds:AJ (AM Unit)):Prop :=
 ∃xs,V.ownsRow b 101 5 u (At ds) xs/\∀(i:AH) (d:A2),ds[i]?=An d->∃a,Ha xs i a/\CP k V (λj=>b<=j/\j<Au (Av V)/\An j≠Ax u/\¬ex j) (.agg a) d
theorem Ek{e:AN}{size:I}(c:W.ownsRow base e size v n xs)(h:Ax v=H g):g<K (U W):=by
 rcases c.2 with⟨a,_⟩|⟨i,d,f,rfl,_,b,_⟩
 .subst a;cases h
 cases h;exact Cc b
theorem SR{size:I}(h:V.ownsRow b t size u n xs)(l:∀j,b<=j->j<K (U V)->V'.heap[j]?=V.heap[j]?):V'.ownsRow b t size u n xs:=by
 refine⟨h.1,?_⟩;rcases h.2 with i|⟨g,d,f,e,a,c,k⟩
 .exact AF i
 exact AG ⟨g,d,f,e,a,(l g a (Cc c)).trans c,k⟩
theorem Iw.next(h:Iw k V b u ex ds)(p:K (U V)<=K (U V'))(e:∀j,b<=j->j<K (U V)->V'.heap[j]?=V.heap[j]?):Iw k V' b u ex ds:=by obtain⟨o,l,m⟩:=h;refine⟨o,SR l e,λi d n=>?_⟩;obtain⟨a,f,g⟩:=m i d n;exact⟨a,f,g.same (λj c=>⟨c.1,AY c.2.1,c.2.2⟩) (λj c=>e j c.1 c.2.1)⟩
theorem Wl{ys:AJ Aq}{a:A3}(b:O xs=n*5)(hi:i<n)(h:Ha xs i a):Ha (xs++ys) i a:=by grind [Ha]
theorem Wm{a:A3}(c:O xs=n*5)(b:a.size=5):Ha (xs++a.toList) n a:=by grind [Ha,List.take_of_length_le]
theorem Iw.push{a:A3}{o:Obj}(m:V.ownsRow b 101 5 u (O ds) xs)(y:∀(i:I) (d:A2),ds[i]?=H d->∃a,Ha xs i a/\CP k V (λj=>b<=j/\j<K (U V)/\H j≠Ax u/\¬ex j) (.agg a) d)(B:CP k V (λj=>L<=j/\j<K (U V)) (.agg a) d)(F:∀g,Ax u=H g->g<L)(hb:b<=L)(A:∀j,L<=j->¬ex j)(z:a.size=5)(P:w5.ownsRow b 101 5 v' (O ds+1) (xs++a.toList))(n:(Az V o).grownBy w5 (Ax u))(h:Ax v'=Ax u\/Ax v'=H (K (U (Az V o)))):Iw k w5 b v' ex (ds++[d]):=by
 have N:K (U V)+1<=K (U w5):=BQ;have q:=λj c l=>(n.block j B7 l).trans (Cx _ _ _ c);have r:∀j,j<K (U V)->H j≠Ax u->H j≠Ax v':=λj c l=>by
  rcases h with h|h
  .rw[h];exact l
  rw[h];intro e;injection e with e;simp at e;omega
 refine⟨xs++a.toList,B9,λi v f=>?_⟩;by_cases p:i<O ds
 .rw[GM p]at f;obtain⟨t,w,x⟩:=y i v f;exact⟨t,Wl m.1 p w,x.same (λj c=>⟨c.1,AY c.2.1,r j c.2.1 c.2.2.1,c.2.2.2⟩) (λj c=>q j c.2.1 c.2.2.1)⟩
 have e:i=O ds:=B9;subst e;rw[IU (Co _),Ql]at f;injection f with f;subst f;have s:∀j,L<=j->H j≠Ax u:=λj c e=>B9;exact⟨a,Wm m.1 z,B.same (λj c=>⟨AY c.1,AY c.2,r j c.2 (s j c.1),A j c.1⟩) (λj c=>q j c.2 (s j c.1))⟩
theorem Iw.list(h:Iw k V b u ex ds)(q:B<=b):CP (k+1) V (λj=>B<=j/\j<K (U V)) (.agg (Ce 6 0 ⟨#[]⟩ Cm u)) (.agg ds):=by obtain⟨p,l,m⟩:=h;refine⟨u,p,Z,Oi l (λg r o=>⟨E,o⟩),λi d n=>?_⟩;obtain⟨a,e,f⟩:=m i d n;exact⟨a,e,f.same (λj c=>⟨AY c.1,c.2.1⟩) (λ_ _=>rfl)⟩
theorem Wn:Iw k V b Cm ex []:=⟨[],Fa _ _ _ _,λi d h=>Bx⟩
def Py{α:Type}(bs:A1)(lim:AI)(itF:α->AH->A5 α)(last g p1:AH)(acc:α):A5 α:=match itF acc p1 with
   |.error e=>.error e
   |.ok (acc',p2)=>match DL bs lim (At bs+1-p2) p2 with
    |.error e=>.error e
    |.ok (_,p3)=>match bs[p3]? with
     |none=>.error (9,p3)
     |some c=>if(p3:AI)=lim then .error (8,p3)else if c.toNat=last then .ok (acc',p3+1)else if c.toNat=44 then Fy bs lim itF last g (p3+1) acc' else .error (9,p3)
theorem bS{α:Type}(bs:A1)(lim:J)(itF:α->I->A5 α)(last g p:I)(acc:α):Fy bs lim itF last (g+1) p acc=match DL bs lim (O bs+1-p) p with
  |.error e=>.error e
  |.ok (_,p1)=>Py bs lim itF last g p1 acc:=by
 rw[Fy];rfl
def Om{α:Type}(bs:A1)(lim:AI)(itF:α->AH->A5 α)(last g p:AH)(acc:α)(R:A5 α):Prop :=
 Ct bs lim p/\((∃g',g=g'+1/\Py bs lim itF last g' p acc=R)\/((p:AI)=lim/\p<At bs/\R=.error (8,(p:AI))))
theorem bT{α:Type}{l:J}(hl:Lm bs l lim){itF:α->I->A5 α}{acc:α}{R:A5 α}(hi:Ct bs lim p)(a:Fy bs lim itF last (g+1) p acc=R):Om bs lim itF last (g+1) (Es bs l (O bs+1-p) p) acc R:=by
 rw[bS]at a;rcases Ma hl (O bs+1-p) p hi with⟨q,b,c,d,e,_⟩|⟨q,b,c,d,e⟩
 .rw[b]at a;rw[c];exact⟨d,AF ⟨g,Z,a⟩⟩
 rw[b]at a;rw[c];exact⟨⟨E,E⟩,AG ⟨d,e,a.symm⟩⟩
def Mg(r:A5 AH):Aq:=match r with
 |.ok (x,_)=>if 9223372036854775807<x then Af #[Ab Al 9223372036854775807,Ah AP,.agg (Cd (0,0))]else Af #[Ab Al x,Ah AQ,.agg (Cd (0,0))]
 |.error f=>Af #[Ab Al 0,Ah AQ,.agg (Cd f)]
theorem PA:∀(k p a x q:I),Ct bs lim p->CR bs lim k p a=.ok (x,q)->q=p+k/\Ct bs lim q
 |0,p,a,x,q,hi,h=>keI
 |k+1,p,a,x,q,hi,h=>by
  rw[CR]at h;rcases hc:bs[p]? with _|c
  .rw[hc]at h;cases h
  rw[hc]at h;simp only[]at h;by_cases b:(p:J)=lim
  .grind
  rw[Ci b]at h;obtain⟨e,d⟩:=PA k _ _ x q (Ed hi hc b) h;grind
theorem qV(h:(num+1)*256^(g+1)<=18446744073709551616)(c:36028797018963967<num):g=0:=by
 obtain _|g:=g
 .rfl
 have a:(num+1)*256^(g+2)<=18446744073709551616:=h;have b:36028797018963968*256^(g+2)<=(num+1)*256^(g+2):=P2 _ E;grind
theorem qW{c:I}(h:(num+1)*256^(g+1)<=18446744073709551616)(a:c<256):(num*256+c+1)*256^g<=18446744073709551616:=by apply Cy (P2 _ (show num*256+c+1<=(num+1)*256 by omega));grind
theorem qX(a:k<=8):(0+1)*256^k<=18446744073709551616:=by have:256^k<=256^8:=NP B8 a;omega
theorem SU(W:X)(fm d:J){l:J}(k:I)(hk:k<=8)(hl:Lm bs l lim)(hi:Ct bs lim i)(hb:O bs<=281474976710656):Ar As 191 #[.agg (Cp bs fm d l),C Y i,C Y k] W λab W'=>ab=Ak (Mg (CR bs lim k i 0))/\A0 W W':=by
 obtain⟨R,s⟩:=CA (CR bs lim k i 0);rw[AE s];have ag:=hi.1;have HL:=G hl;have o:=G hi;have cH:=N5 bs fm d l;have cB:=Oa bs fm d l;unfold Cp;go_enter func191,ntmps191;go_wp2
 go_loopg[9,10,11] k (λg e zo zj wr=>∃j a:I,zj=C Y j/\D (j+g=i+k)/\((e=C Y a/\zo=Ah AQ/\D (a<=9223372036854775807))\/(∃z,g=0/\e=C Y z/\zo=Ah AP/\D (9223372036854775807<a)))/\D ((a+1)*256^g<=18446744073709551616)/\D (Iu W (Cp bs fm d l) (K (U W)+1) wr)/\D (CR bs lim g j a=R)/\D (Ct bs lim j))
 case atStart=>exact⟨i,0,rfl,rfl,AF ⟨rfl,rfl,En _⟩,qX hk,O9,s,o⟩
 case round =>
  obtain⟨j,a,rfl,N,Q,L,b,s,o⟩:=hrel;have aj:=o.1;obtain⟨t,u,c2,v⟩:=DV b.box;have q:=λV=>cH V j;have aa:=λV=>cB V j 9;have m:=AE s;obtain _|g:=gk
  .rw[CR]at m;have ad:¬j<i+(k:J):=AY (AE N);rcases Q with⟨rfl,rfl,P⟩|⟨z,_,rfl,rfl,P⟩
   .have n:D (Mg R=Af #[C Y a,Ah AQ,.agg (Cd (0,0))]):=by grind [D,Mg]
    go_wp2_with(first
     |((with_reducible refine EW 8 40 rfl rfl (K (U W)+1) (0,0) ?_ ?_ ?_ ?_);exact Z;exact Z;exact b.flt))
    have f:=GX b CO (0,0);refine Hz results191 f (.int _ a) (Ah AQ) Z Z Z Z ⟨?_,f.2⟩;rw[AE n]
   have n:D (Mg R=Af #[C Y 9223372036854775807,Ah AP,.agg (Cd (0,0))]):=by grind [D,Mg]
   go_wp2_with(first
    |((with_reducible refine EW 8 38 rfl rfl (K (U W)+1) (0,0) ?_ ?_ ?_ ?_);exact Z;exact Z;exact b.flt))
   have f:=GX b CO (0,0);refine Hz results191 f (.int _ _) (Ah AP) Z Z Z Z ⟨?_,f.2⟩;rw[AE n]
  rw[CR]at m;have ad:j<i+(k:J):=AY (AE N);obtain⟨rfl,rfl,P⟩:_/\_/\D _:=by
   rcases Q with h|⟨z,h,_⟩
   .exact h
   omega
  rcases QC (bs:=bs) (lim:=lim) j with al|⟨c,r,w⟩
  .obtain⟨hE,hh⟩:R=.error (CU bs l j 9)/\CH bs l j=AQ:=by grind [D,It,Hs,FY,GW]
   rw[hh]at q;have n:=G hE;generalize CU bs l j 9=F at *
   go_wp2_with(first
    |(go_at_call 116;apply DW (q _) b.next (λ_ h=>h.box);intro S p t u c2 v)
    |(go_at_call 84;apply DW (aa _) p.next (λ_ h=>h.box);intro w3 B t u c2 v)
    |((with_reducible refine EW 8 26 rfl rfl (K (U W)+1) F ?_ ?_ ?_ ?_);exact Z;exact Z;exact B.flt))
   have f:=GX B CO F;refine Hz results191 f (.int _ 0) (Ah AQ) Z Z Z Z ⟨?_,f.2⟩;rw[AE n];rfl
  rw[r]at m;simp only[]at m;have ah:=λV=>Ej r V;have ai:=Dh r;rw[Ci w]at m;rw[IM HL o r w]at q;have y:=G m;have A:=G (Ed o r w);have af:=c.toNat_lt;have x:=G (qW L.out E);by_cases ae:36028797018963967<a
  .have ac:=qV L.out ae;subst ac;have d1:AR (36028797018963967<(a:J))=AP:=B7;have HO:D (9223372036854775807<a*256+c.toNat):=by show _<_;omega
   go_wp2_with(first
    |(go_at_call 116;apply DW (q _) b.next (λ_ h=>h.box);intro S p t u c2 v))
   go_roundg 0
   case measure=>omega
   case rel=>exact⟨_,_,Bb,E,AG ⟨_,rfl,rfl,rfl,HO⟩,x,p,y,A⟩
  have d1:AR (36028797018963967<(a:J))=AQ:=B7;have ak:(a:J)<=36028797018963967:=E
  go_wp2_with(first
   |(go_at_call 116;apply DW (q _) b.next (λ_ h=>h.box);intro S p t u c2 v))
  go_roundg g
  case measure=>omega
  case rel=>exact⟨_,_,Bb,B9,AF ⟨Bb,rfl,Bp⟩,x,p,y,A⟩
theorem bX{a b:AK}(h:a=b):Ending.returned (Ah a)=Ak (Ah b):=by rw[h]
theorem qY:(List.range 256).all (λc=>AR (((E2 c).1=8↔(c/32=3/\c%32<=27))/\(((E2 c).1=9\/(E2 c).1=10)↔((c/32=4\/c/32=5)/\c%32<=27))))=AP:=B6
theorem bY(c:AU):((E2 c.toNat).1=8↔(c.toNat/32=3/\c.toNat%32<=27))/\(((E2 c.toNat).1=9\/(E2 c.toNat).1=10)↔((c.toNat/32=4\/c.toNat/32=5)/\c.toNat%32<=27)):=Dk (GN.1 qY c.toNat (Hn.2 c.toNat_lt))
theorem qZ:(List.range 256).all (λc=>AR (((Dy c).1=8↔((160<=c/\c<=191)\/(217<=c/\c<=219)))/\(((Dy c).1=9\/(Dy c).1=10)↔((128<=c/\c<=159)\/(220<=c/\c<=223)))))=AP:=B6
theorem bZ(c:AU):((Dy c.toNat).1=8↔((160<=c.toNat/\c.toNat<=191)\/(217<=c.toNat/\c.toNat<=219)))/\(((Dy c.toNat).1=9\/(Dy c.toNat).1=10)↔((128<=c.toNat/\c.toNat<=159)\/(220<=c.toNat/\c.toNat<=223))):=Dk (GN.1 qZ c.toNat (Hn.2 c.toNat_lt))
def DI(fm:AI)(c:AH):AH×AH×AH:=if fm=2 then E2 c else Dy c
theorem Wq(c:AU)(k:I):((c.toNat:J)/32%256==k)=AR (c.toNat/32=k)/\((c.toNat:J)/32==k)=AR (c.toNat/32=k)/\AR ((c.toNat:J)%32<=27)=AR (c.toNat%32<=27):=by have:=c.toNat_lt;grind
theorem r7(W:X)(d l:J)(g:bs[i]?=H c)(h:fm=2\/fm=3):Ar As 168 #[.agg (Cp bs fm d l),C Y i] W λe f=>e=Ak (Ah (AR ((DI fm c.toNat).1=8)))/\A0 W f:=by
 have s:=Ej g;have k:=(bY c).1;have j:=(bZ c).1;obtain⟨n,m,o⟩:((c.toNat:J)/32%256==3)=_/\((c.toNat:J)/32==3)=_/\_:=Wq c 3;have r:=c.toNat_lt;rcases h with rfl|rfl;cases a:AR (c.toNat/32=3)<;>cases b:AR (c.toNat%32<=27)<;>rw[a]at n m<;>rw[b]at o
 rotate_left 4
 rcases(by omega:(0<=(c.toNat:J)/\(c.toNat:J)<=159)\/(160<=(c.toNat:J)/\(c.toNat:J)<=191)\/(192<=(c.toNat:J)/\(c.toNat:J)<=216)\/(217<=(c.toNat:J)/\(c.toNat:J)<=219)\/220<=(c.toNat:J)/\(c.toNat:J)<=255)with⟨a,b⟩|⟨a,b⟩|⟨a,b⟩|⟨a,b⟩|⟨a,b⟩
 all_goals(obtain⟨q,p⟩:D _/\D _:=⟨k,j⟩;unfold Cp;go_enter func168,ntmps168;go_wp2;go_ret;exact⟨bX (by grind [D,DI]),Cl⟩)
theorem r8(W:X)(d l:J)(k:bs[i]?=H c)(m:fm=2\/fm=3):Ar As 131 #[.agg (Cp bs fm d l),C Y i] W λe h=>e=Ak (Ah (AR ((DI fm c.toNat).1=9\/(DI fm c.toNat).1=10)))/\A0 W h:=by
 have v:=Ej k;have o:=(bY c).2;have n:=(bZ c).2;obtain⟨r,p,t⟩:((c.toNat:J)/32%256==4)=_/\((c.toNat:J)/32==4)=_/\_:=Wq c 4;obtain⟨s,q,_⟩:((c.toNat:J)/32%256==5)=_/\((c.toNat:J)/32==5)=_/\_:=Wq c 5;have u:=c.toNat_lt;rcases m with rfl|rfl;cases a:AR (c.toNat/32=4)<;>cases b:AR (c.toNat%32<=27)<;>cases j:AR (c.toNat/32=5)<;>rw[a]at r p<;>rw[b]at t<;>rw[j]at s q
 rotate_left 8
 rcases(by omega:(0<=(c.toNat:J)/\(c.toNat:J)<=127)\/(128<=(c.toNat:J)/\(c.toNat:J)<=159)\/(160<=(c.toNat:J)/\(c.toNat:J)<=219)\/(220<=(c.toNat:J)/\(c.toNat:J)<=223)\/224<=(c.toNat:J)/\(c.toNat:J)<=255)with⟨a,b⟩|⟨a,b⟩|⟨a,b⟩|⟨a,b⟩|⟨a,b⟩
 all_goals(obtain⟨g,f⟩:D _/\D _:=⟨o,n⟩;unfold Cp;go_enter func131,ntmps131;go_wp2;go_ret;exact⟨bX (by have:=AE g;have:=AE f;grind [DI]),Cl⟩)
theorem Tryz.infoThR:(prog.info? 101).map (λi=>(i.zero,i.size,i.bytes))=H (H (.agg Cr),5,80):=B6
structure Fz(W:World)(A:A3)(y:A3)(V:World):Prop where
 box:V.heap[W.heap.size]?=some (.cells A 115)
 th:V.heap[W.heap.size+1]?=some (.cells Cr 101)
 flt:V.heap[W.heap.size+2]?=some (.cells (Cd (0,0)) 103)
 tv:V.heap[W.heap.size+3]?=some (.cells y 101)
 below:A0 W V
theorem Fz.rth(h:Fz W A y V):J1 W A V:=⟨h.box,h.th,h.flt,h.below⟩
theorem Fz.next(h:Fz W A y V)(hb:A0 V V'):Fz W A y V' :=
 ⟨(hb.block _ (Cc h.box)).trans h.box,(hb.block _ (Cc h.th)).trans h.th,(hb.block _ (Cc h.flt)).trans h.flt,(hb.block _ (Cc h.tv)).trans h.tv,h.below.trans (hb.mono h.below.size)⟩
theorem Fz.size(h:Fz W A y V):K (U W)+4<=K (U V):=Cc h.tv
theorem rZ(W:X)(y:A3):Fz W A y ((Az (Az (Az (Az W (M A 115)) (M Cr 101)) (M (Cd (0,0)) 103)) (M Cr 101)).setRow (K (U W)+3) y):=by
 have h:=aa (W:=W) (A:=A);have c:K (U (Az (Az (Az W (M A 115)) (M Cr 101)) (M (Cd (0,0)) 103)))=K (U W)+3:=Ba;have b:=Cj (Az (Az (Az W (M A 115)) (M Cr 101)) (M (Cd (0,0)) 103)) (o:=(M Cr 101));rw[c]at b;generalize(Az (Az (Az W (M A 115)) (M Cr 101)) (M (Cd (0,0)) 103))=V at *;have a:=h.next (Cl (o:=(M Cr 101)))
 exact⟨sx E a.box,sx E a.th,sx E a.flt,CM _ _ _ _ _ _ b,Dj a.below E⟩
theorem s7(W:X):(Az (Az (Az (Az W (M A 115)) (M Cr 101)) (M (Cd (0,0)) 103)) (M Cr 101)).heap[K (U W)+3]?=H (M Cr 101):=by have a:K (U (Az (Az (Az W (M A 115)) (M Cr 101)) (M (Cd (0,0)) 103)))=K (U W)+3:=Ba;grind [Cj]
theorem s8{wr:X}(a:A3)(f:A3)(b:Below (K (U wr)+2) (Az (Az wr (M (Cd (0,0)) 103)) (M Cr 101)) w2):A0 wr (AD (AD w2 (K (U wr)+1) a) (K (U wr)) f) :=
 Dj (Dj (((Cl).alloc Ba _).trans (b.mono E)) E) (Co _)
def Wu(r:AS (AI×AI) (AJ (AM Unit)×AH)):AS (AI×AI) (AM Unit×AH):=match r with
 |.error e=>.error e
 |.ok (ds,q)=>.ok (.agg ds,q)
theorem di(h:∀a,DL bs lim a q=.ok ((),q))(b:bs[q]?=H c):¬(q:J)=lim:=λe=>by have:=h 1;grind [DL]
theorem dj{α:Type}{l:J}(hl:Lm bs l lim){itF:α->I->A5 α}{p1:I}{acc:α}{R:A5 α}(hi:Ct bs lim p)(e:p1=Es bs l (O bs+1-p) p)(a:G3 bs lim itF last p acc=R):Ct bs lim p1/\((∃c,bs[p1]?=H c/\CH bs l p1=AP/\c.toNat=last/\R=.ok (acc,p1+1)/\Ct bs lim (p1+1))\/((CH bs l p1=AQ\/∃c,bs[p1]?=H c/\CH bs l p1=AP/\¬c.toNat=last)/\Om bs lim itF last (O bs+1-p1) p1 acc R)):=by
 unfold G3 at a;rcases Ma hl (O bs+1-p) p hi with⟨q,h,i,b,j,r⟩|⟨q,h,i,b,j⟩
 .rw[i]at e;subst e;rw[h]at a;simp only[]at a;have o:=r (AY hi.1);refine⟨b,?_⟩;have s:∀f,Fy bs lim itF last (O bs+1-p1) p1 acc=f->Om bs lim itF last (O bs+1-p1) p1 acc f:=λf k=>by
   obtain⟨g,n⟩:∃g,O bs+1-p1=g+1:=⟨O bs-p1,AY b.1⟩
   rw[n]at k ⊢;rw[bS,n,o _]at k;exact⟨b,AF ⟨g,Z,k⟩⟩
  rcases d:bs[p1]? with _|c
  .grind [Hs]
  rw[d]at a;simp only[]at a;have t:=di o d;grind [IM,Ed]
 rw[i]at e;subst e;rw[h]at a;simp only[]at a;obtain⟨c,d⟩:∃c,bs[p1]?=H c:=⟨_,D3 j⟩
 have m:Ct bs lim p1:=⟨E,E⟩
 exact⟨m,AG ⟨AF (GW hl d b),m,AG ⟨b,j,a.symm⟩⟩⟩
theorem s9{α:Type}{l:J}(hl:Lm bs l lim){itF:α->I->A5 α}{p2 p3:I}{acc acc':α}{R:A5 α}(hi:Ct bs lim p2)(e:p3=Es bs l (O bs+1-p2) p2)(k:itF acc p=.ok (acc',p2))(a:Py bs lim itF last g p acc=R):Ct bs lim p3/\p2<=p3/\((CH bs l p3=AQ/\R=.error (CU bs l p3 9))\/∃c,bs[p3]?=H c/\CH bs l p3=AP/\((c.toNat=last/\R=.ok (acc',p3+1)/\Ct bs lim (p3+1))\/(¬c.toNat=last/\c.toNat=44/\Ct bs lim (p3+1)/\Fy bs lim itF last g (p3+1) acc'=R)\/(¬c.toNat=last/\¬c.toNat=44/\R=.error (CU bs l p3 9)))):=by
 unfold Py at a;rw[k]at a;simp only[]at a;rcases Ma hl (O bs+1-p2) p2 hi with⟨q,f,h,d,i,j⟩|⟨q,f,h,d,i⟩
 .rw[h]at e;subst e;rw[f]at a;simp only[]at a;refine⟨d,i,?_⟩;rcases b:bs[p3]? with _|c
  .rw[b]at a;exact AF ⟨Hs b,by rw[It d.1 b];exact a.symm⟩
  rw[b]at a;simp only[]at a;have m:=di (j (AY hi.1)) b;grind [IM,Ed,Ht]
 rw[h]at e;subst e;rw[f]at a;simp only[]at a;obtain⟨c,b⟩:∃c,bs[p3]?=H c:=⟨_,D3 i⟩
 refine⟨⟨E,E⟩,AY hi.2,AF ⟨GW hl b d,?_⟩⟩;grind [FY]
theorem sd{l:J}(hl:Lm bs l lim)(b:(q:J)=lim)(g:q<O bs):Es bs l (O bs+1-q) q=q/\CH bs l q=AQ/\CU bs l q 9=(8,(q:J)):=by
 obtain⟨c,e⟩:∃c,bs[q]?=H c:=⟨_,D3 g⟩
 refine⟨?_,GW hl e b,FY hl e b 9⟩;rcases Ma hl (O bs+1-q) q ⟨E,E⟩with⟨i,f,a,d,h,_⟩|⟨i,f,a,d,h⟩
 .have:=d.2;rw[a];omega
 rw[a];omega
theorem sm{V2:X}{m:I}{o:Obj}(h:Fz W A y V2)(d:V2.ownsRow (K (U W)+4) 101 5 u m xs)(a:(Az V2 o).grownBy w5 (Ax u)):Fz W A y w5:=by have g:=h.size;have b:∀j,j<K (U W)+4->w5.heap[j]?=V2.heap[j]?:=λj c=>(a.block j B7 (λe=>AY (DK d e.symm))).trans (Cx _ _ _ E);have f:K (U V2)+1<=K (U w5):=C3;exact⟨(b _ E).trans h.box,(b _ E).trans h.th,(b _ E).trans h.flt,(b _ E).trans h.tv,h.below.trans ⟨a.os,a.tape,a.output,E,λj c=>b j E⟩⟩
theorem sq{n:J}(h:Fz W A (Ce kd n s kv u) V):Fz W A (Ce kd n s kv v') (AB V ⟨K (U W)+3,4,Ao⟩ v'):=by have a:∀j,j≠K (U W)+3->(AB V ⟨_,4,Ao⟩ v').heap[j]?=V.heap[j]?:=λj b=>CY V _ _ _ BB;refine⟨(a _ E).trans h.box,(a _ E).trans h.th,(a _ E).trans h.flt,?_,h.below.trans ⟨Z,Z,Z,Bd,λj b=>a j E⟩⟩;rw[DQ _ _ _ _ _ _ h.tv];rfl
theorem T5{n:J}{a b:A4}:∀u∈[Value.int Y kd,C Y n,.string s,T a i j,T b p q],u.oneCell'=AP:=λu c=>by simp at c;rcases c with rfl|rfl|rfl|rfl|rfl<;>rfl
theorem Jv(w:X)(v:J)(b:AU)(a:v=b.toNat):(convert 50 9 (T (Aa (K (U w))) 1 1)).run As (Az w (M #[C Am v] 5))=.ok (Ae ⟨#[b]⟩) (Az w (M #[C Am v] 5)):=by subst a;exact eC (Cb (Cj w) 0)
theorem tU(s:I)(h:¬n<24):D4 s n=AW (32*s+24+F6 n)::CE n (2^F6 n):=by
 unfold D4 F6;rw[Ci h];by_cases a:n<256
 .rw[Cn E,Cn a]
 rw[Ci E,Ci a];by_cases b:n<65536
 .rw[Cn E,Cn b]
 rw[Ci E,Ci b];by_cases c:n<4294967296
 .rw[Cn E,Cn c]
 rw[Ci E,Ci c]
theorem PH(W:World)(s n:Nat)(hs:s<=7)(hn:n<=9223372036854775807):Calls prog 120 #[.int .i64 s,.int .i64 n] W λe F=>e=.returned (CQ (D4 s n))/\Below W.heap.size W F:=by
 by_cases v:n<24
 .obtain⟨u,f⟩:=Dx (UInt8.ofNat (32*s+n));have k:Hid (D4 s n=[u]):=by show _=_;unfold D4;rw[Cn v,f]
  rw[k.out];have hc:=Jv W ((s:Int)*32+n) u (by rw[<-f,Hf E];omega);have R:(n:Int)<24:=E;go_enter func120,ntmps120;go_wp2;go_ret;exact⟨Z,Cl⟩
 obtain⟨m,r⟩:=Dx (F6 n);have w:=r▸Rb n;obtain⟨u,f⟩:=Dx (UInt8.ofNat (32*s+24+m));have x:Hid ((u.toNat:Int)=(s:Int)*32+(24+m:Nat)):=by show _=_;rw[<-f,Hf E];omega
 have k:Hid (D4 s n=[u]++CE n (2^m)):=by show _=_;rw[tU s v,r,f];rfl
 rw[k.out];have q:=λV=>Rd V (n:Int);rw[NV,r]at q;have t:=λV=>Ou (2^m) n V hn (LB (Co m) w).2;have Q:¬(1+(CE n (2^m)).length>9223372036854775807):=by rw[I1];have:=(LB (Co m) w).2;omega
 obtain⟨c,o⟩:∃c:Nat,Hid (2^m=c):=⟨_,show _=_ from rfl⟩
 rw[o.out]at q t Q ⊢;have R:¬(n:Int)<24:=E;go_enter func120,ntmps120
 go_wp2_with(first|(go_at_call 123;refine(q _).mono ?_;rintro e w2 ⟨rfl,N⟩))
 go_loopg[6,7] m (λg zi zw wr=>∃j d:Nat,zi=.int .i64 ((24+j:Nat):Int)/\zw=.int .i64 d/\wr=w2/\Hid (j+g=m)/\Hid (d=2^j))
 case atStart=>exact⟨0,1,rfl,rfl,rfl,Bg,rfl⟩
 case round =>
  obtain⟨j,d,rfl,rfl,rfl,h,i⟩:=hrel;have P:j<=3:=AY h.out;have h8:d<=8:=by rw[i.out];exact(LB (Co j) P).2
  obtain _|g:=gk
  .obtain rfl:j=m:=h.out;have y:¬(d:Int)<(c:Int):=B3 i.out o.out;have z:Hid (IntKind.i64.wrap ((s:Int)*32)=(s:Int)*32):=Hu E;have A:Hid (IntKind.i64.wrap ((s:Int)*32+(24+j:Nat))=u.toNat):=by show _=_;rw[x.out];exact Hu E
   have B:Hid (IntKind.u8.wrap (u.toNat:Int)=u.toNat):=w8 _ (AY u.toNat_lt)
   go_wp2_with fail
   refine Dl (S:=λ_=>True) trivial B6 ?_;intro b;refine Ca 0 26 (.int .i64 s) b ?_;refine Cf 1 27 (.int .i64 ((s:Int)*32)) Z (λp _=>?y1) b ?_
   case y1=>(go_simp<;>exact z.out)
   refine Ca 2 28 (.int .i64 ((24+j:Nat):Int)) b ?_;refine Cf 3 29 (.int .i64 u.toNat) Z (λp _=>?y2) b ?_
   case y2=>(go_simp<;>exact A.out)
   refine Cf 4 30 (.int .u8 u.toNat) Z (λp _=>?y3) b ?_
   case y3=>(go_simp<;>exact B.out)
   refine Ca 7 33 (.int .i64 n) b ?_;refine Ca 8 34 (.int .i64 c) b ?_;refine Nq 9 5 6 35 31 32 u ⟨Z,Z,Z⟩ Z B6 (λ_ _ _=>⟨B6,B6,B6⟩) (λ_=>⟨B6,B6⟩) t (λ_ _=>trivial) (λV aa L=>?_);refine Cf 10 36 (CQ ([u]++CE n c)) Z (λp _=>?y5) b ?_
   case y5=>(unfold CQ;go_simp;exact EL (l:=[u]))
   refine Ca 11 4 (CQ ([u]++CE n c)) b ?_;refine CG ?_;go_simp;go_wp2;go_ret;exact⟨Z,WN N L⟩
  have y:(d:Int)<(c:Int):=by have e:=h.out;have:=YI (a:=2) B8 (show j<m by omega);rw[o.out,<-i.out]at this;omega
  go_wp2;go_roundg g
  case measure=>omega
  case rel=>exact⟨j+1,d*2,Bb,Bb,rfl,AZ h.out,by show _=_;rw[i.out,UT]⟩
structure ED(W:World)(A:A3)(V:World):Prop where
 box:V.heap[W.heap.size]?=some (.cells A 101)
 below:A0 W V
theorem ED.next(h:ED W A V)(hb:A0 V V'):ED W A V' :=
 ⟨(hb.block _ (Cc h.box)).trans h.box,h.below.trans (hb.mono h.below.size)⟩
theorem ED.drew(h:ED W A V):ED W A V.drew:=⟨h.box,h.below.drew⟩
theorem K1:ED W A (Az W (M A 101)):=⟨Cj _,Cl⟩
theorem Mk(h:DH V 101 5 F u n xs):n<=9223372036854775807/\∃a c,u=T a n c/\∀(i:I) (A:A3),i<n->Ha xs i A->∃g,a=Aa g/\F g/\∀b:X,b.heap[g]?=V.heap[g]?->∀j,j<5->AC b ⟨g,i*5+j,Ao⟩=A[j]?:=by
 obtain⟨r,e⟩:=h;rcases e with⟨rfl,rfl⟩|⟨g,c,q,rfl,hF,o,f,k,s,l⟩
 .grind
 refine⟨Cy f (Cy k B8),_,_,Z,λi A t d=>⟨g,Z,hF,λb m j p=>?_⟩⟩;rw[Cb (m.trans o)];unfold Ha at d;rw[<-NN,<-NN,<-d,Qb p,YO,<-l,Qb E,UU]
theorem WO(h:DH V 9 1 F u (O es) (es.map N9)):∃a c,u=T a (O es) c/\∀(i:I) (l:A1) (d:A2),es[i]?=H (.string l,d)->∃g,a=Aa g/\F g/\∀b:X,b.heap[g]?=V.heap[g]?->AC b ⟨g,i,Ao⟩=H (Ae ⟨Aw l⟩):=by
 obtain⟨p,j⟩:=h;rcases j with⟨rfl,o⟩|⟨g,c,f,rfl,hF,n,q,r,s,k⟩
 .simp_all
 refine⟨_,_,Z,λi l d e=>⟨g,Z,hF,λb m=>?_⟩⟩;have v:=Dh e;rw[Cb (m.trans n),<-NN];have t:(f.toList.take (O es*1))[i]?=H (Ae ⟨Aw l⟩):=by rw[k,LS,e];rfl
 grind
theorem Re{α:Type}(f:α->A1){l:AJ α}{d:α}(h:l[i]?=H d):(l.take (i+1)).flatMap f=(l.take i).flatMap f++f d:=BM
theorem Tl{α:Type}(f:α->A1)(l:AJ α)(i:I):O ((l.take i).flatMap f)<=O (l.flatMap f):=by grind [List.take_append_drop]
def E4(l:A1)(W:Ap)(e:Ending)(W':Ap):Prop:=e=Ak (CQ l)/\A0 W W'
def Eb(x:AH):AU:=[48,49,50,51,52,53,54,55,56,57,97,98,99,100,101,102].getD x 0
def Iz(r:AH):A1:=if r=34\/r=92 then[92,AW r]else if r<32 then[92,117,48,48,Eb (r/16),Eb (r%16)]else Ei r
def IA:AH->A1->A1
 |0,_=>[]
 |_+1,[]=>[]
 |g+1,b::t=>Iz (decodeL (b::t)).1++IA g ((b::t).drop (decodeL (b::t)).2)
def Fe(l:A1):A1:=[34]++IA (At l) l++[34]
theorem eT(g:I):IA g []=[]:=by cases g<;>rfl
def L4(W V:Ap):Prop:=∀(k:AH) (cs:A3) (t:AN) (fr:AH×AH),W.heap[k]?=An (.cells cs t fr)->t≠5->V.heap[k]?=An (.cells cs t fr)
theorem L4.refl(W:X):L4 W W:=by intro k cs t fr h _;exact h
theorem L4.trans{A B C:X}(h:L4 A B)(g:L4 B C):L4 A C:=by intro k cs t fr b a;exact g k cs t fr (h k cs t fr b a) a
theorem Tp{o:Obj}:L4 W (Az W o):=by intro k cs t fr a _;grind [Below.heap_alloc]
theorem Tq(f:W.ownsRow base 5 1 v n xs)(d:W.grownBy V (Ax v)):L4 W V:=by
 intro k cs t fr b i;refine(d.block k (Cc b) (λe=>?_)).trans b;rcases f.2 with⟨a,_⟩|⟨g,h,c,a,_,j,_⟩
 .rw[a]at e;cases e
 rw[a]at e;injection e with e;grind
structure IB(base:Nat)(W:World)(N:Nat)(s:ByteArray)(i:Nat)(v:Value)(cur:A1)(V:World):Prop where
 own:Ck V base v cur
 it:V.heap[N]?=some (.stringIter s i)
 below:Below base W V
 lo:base<=N
 kp:L4 W V
theorem IB.ne(h:IB base W N s i v cur V):H N≠Ax v:=by
 intro e;rcases h.own.1.2 with⟨a,_⟩|⟨g,f,c,a,_,b,_⟩
 .rw[a]at e;cases e
 rw[a]at e;injection e with e;have d:N=g:=e;rw[<-d,h.it]at b;cases b
theorem IB.app{o:Obj}(h:IB base W N s i v cur V)(f:V'.ownsRow base 5 1 v' (O cur+O l) (cur.map CJ++l.map CJ))(a:(Az V o).grownBy V' (Ax v)):IB base W N s i v' (cur++l) V':=by have b:=GC ((Cq base V).alloc h.own.2.1 _) (h.own.1.alloc _) a ke7;have d:=Cc h.it;refine⟨⟨B9,Cy h.own.2.1 b.size,?_⟩,(a.block N B7 h.ne).trans ((Cx _ _ _ d).trans h.it),h.below.trans b,h.lo,h.kp.trans ((Tp).trans (Tq (h.own.1.alloc o) a))⟩;rcases f.2 with⟨e,_⟩|⟨g,j,c,e,_⟩<;>grind
theorem IB.appS(h:IB base W N s i v cur V)(d:V'.ownsRow base 5 1 v' (O cur+(⟨Aw l⟩:AT).size) (cur.map CJ++strCells ⟨Aw l⟩))(a:V.grownBy V' (Ax v)):IB base W N s i v' (cur++l) V':=by obtain⟨b,c⟩:=Nb h.own d a;exact⟨b,(a.block N (Cc h.it) h.ne).trans h.it,h.below.trans c,h.lo,h.kp.trans (Tq h.own.1 a)⟩
theorem IB.next(h:IB base W N s i v cur V)(j:I):IB base W N s j v cur (V.putObj N (.stringIter s j)):=by
 have n:=Cc h.it;have p:=h.ne;refine⟨⟨⟨h.own.1.1,?_⟩,by simpa[World.putObj]using h.own.2.1,h.own.2.2⟩,by simp[World.putObj,n],PI h.below h.lo,h.lo,?hkp⟩
 case hkp =>
  intro k cs t fr q r;have b:=h.kp k cs t fr q r;refine((grownBy_putObj' V N (.stringIter s j)).block k (Cc b) (λe=>?_)).trans b;injection e with e;rw[e,h.it]at b;cases b
 rcases h.own.1.2 with a|⟨g,f,c,a,l,d,m⟩
 .exact AF a
 refine AG ⟨g,f,c,a,l,?_,m⟩;have o:g≠N:=by rintro rfl;exact p keF
 exact((grownBy_putObj' V N (.stringIter s j)).block g (Cc d) BY).trans d
theorem IB.drew(h:IB base W N s i v cur V):IB base W N s i v cur V.drew:=⟨h.own,h.it,h.below.drew,h.lo,h.kp⟩
theorem eU(x:I)(hx:x<16):(Instr.index 9 (Ae ⟨#[48,49,50,51,52,53,54,55,56,57,97,98,99,100,101,102]⟩) (C .i32 x)).run As V=.ok (CJ (Eb x)) V:=kfl
theorem uG{r:I}(a:r<32):bits .and .i32 (r:J) 15=((r%16:I):J):=by have h:r=0\/r=1\/r=2\/r=3\/r=4\/r=5\/r=6\/r=7\/r=8\/r=9\/r=10\/r=11\/r=12\/r=13\/r=14\/r=15\/r=16\/r=17\/r=18\/r=19\/r=20\/r=21\/r=22\/r=23\/r=24\/r=25\/r=26\/r=27\/r=28\/r=29\/r=30\/r=31:=E;rcases h with rfl|rfl|rfl|rfl|rfl|rfl|rfl|rfl|rfl|rfl|rfl|rfl|rfl|rfl|rfl|rfl|rfl|rfl|rfl|rfl|rfl|rfl|rfl|rfl|rfl|rfl|rfl|rfl|rfl|rfl|rfl|rfl<;>(show _=_;kernel_rfl)
theorem PJ{ev:Operand->Aq}{W:Ap}(x y:Operand)(a:o.op=.index ty x y){X Y:Aq}(hx:ev x=X)(hy:ev y=Y)(h:(Instr.index ty X Y).run P W=.ok v W):(execOp ev o).run P W=.ok (.value v) W:=by unfold execOp;simp_all
theorem uH(a b:AU)(V:X):(Instr.buildSlice 50 2 #[(0,CJ a),(1,CJ b)]).run As V=.ok (T (Aa (K (U V))) 2 2) (Az V (M #[CJ a,CJ b] 5)):=B6
theorem uI{K:Act->X->Prop}(x y:Operand)(b:o.op=.buildSlice 50 2 #[(0,x),(1,y)])(p q:AU)(hx:a.eval x=CJ p)(hy:a.eval y=CJ q)(h:K (a.put o.dst (T (Aa (Au (U w))) 2 2)) (Az w (M #[CJ p,CJ q] 5))):o.wp As a w K Q:=by
 have e:(#[(0,x),(1,y)].map λ(i,y)=>(i,a.eval y))=#[((0:I),CJ p),(1,CJ q)]:=by simp[hx,hy]
 unfold Oper.wp execOp;simp only[b,Ig,e,uH,FT];exact h
theorem uJ{o:Obj}(h:Ck V base v cur)(d:V'.ownsRow base 5 1 v' (O cur+O l) (cur.map CJ++l.map CJ))(b:(Az V o).grownBy V' (Ax v)):Ck V' base v' (cur++l)/\Below base V V':=by have a:=GC ((Cq base V).alloc h.2.1 _) (h.1.alloc _) b (B0 h.2.1);refine⟨⟨B9,Cy h.2.1 a.size,?_⟩,a⟩;rcases d.2 with⟨e,_⟩|⟨g,f,c,e,_⟩<;>grind
theorem eV{K:Act->X->Prop}{x y:I}(m:Aw (l.map CJ)=cs)(p:o.op=.call {callee:=.builtin .append,args:=#[.tmp x,.tmp y],argTypes:=#[50,50]})(r:a.eval (.tmp x)=v)(hx:a.eval (.tmp y)=T (Aa (Au (U w))) (O l) (O l))(f:Ck w base v cur)(hl:O cur+O l<=999999999)(q:0<O l)(h:∀d g e c,Ck c base (T d g e) (cur++l)->Below base w c->K (a.put o.dst (T d g e)) c):o.wp As a (Az w (M cs 5)) K Q:=by
 subst m;obtain⟨F,n,t,z,A⟩:=DD Tryz.infoU8;refine QH p underlying50 n t z A Z B8 r (f.1.alloc _) (O l) (O l) (news:=(l.map CJ)) hx Ba ?_ ?_ q Bc E (B0 f.2.1) ?_
 .grind [EI]
 .intro u s;obtain⟨b,_,rfl⟩:=KI.1 s;rfl
 intro L c i j _;obtain⟨k,B⟩:=uJ f i j;obtain⟨d,g,e,rfl⟩:=k.2.2;grind
theorem WQ(x y:I)(l:A1)(k:Aw (l.map CJ)=cs)(m:o.guard=Ao)(n:o.op=.call {callee:=.builtin .append,args:=#[.tmp x,.tmp y],argTypes:=#[50,50]})(q:a.eval (.tmp x)=v)(hx:a.eval (.tmp y)=T (Aa (K (U w))) (O l) (O l))(j:Ck w base v cur)(hl:O cur+O l<=999999999)(p:0<O l)(h:∀c e d b,Ck b base (T c e d) (cur++l)->Below base w b->wpList As ops Q rest (a.put o.dst (T c e d)) b):wpList As ops Q (o::rest) a (Az w (M cs 5)) :=
 Lg m λ_ i=>eV k n q hx j hl p λc e d b f g=>i _ _ (h c e d b f g)
theorem eW(x:I)(hx:x<16)(V:X):(Instr.index 9 (Ae ⟨#[48,49,50,51,52,53,54,55,56,57,97,98,99,100,101,102]⟩) (C Am x)).run As V=.ok (C Am (Eb x).toNat) V:=kfl
def qB(b:AU):A1:=if b.toNat=34\/b.toNat=92 then[92,b]else if b.toNat<32 then[92,117,48,48,Eb (b.toNat/16),Eb (b.toNat%16)]else[b]
def qT(l:A1):A1:=([34]++l.flatMap qB)++[34]
theorem uK(b:AU):O (qB b)<=6:=keK
theorem WR:∀l:A1,O (l.flatMap qB)<=6*O l
 |[]=>Ba
 |b::l=>by have:=uK b;have:=WR l;rw[UH,Dc,FU];omega
theorem uL{a:A4}{c:I}(h:Ck W base (T a n c) l)(r:l≠[]):(convert 50 9 (T a n c)).run As W=.ok (Ae ⟨Aw l⟩) W:=by
 rcases h.1.2 with⟨_,e⟩|⟨g,i,d,e,_,f,k,m,o,p⟩
 .grind
 injection e with e1 e2 e3;subst e1 e2 e3;refine Q9 _ 50 9 5 ⟨g,0,Ao⟩ _ l underlying50 underlying5 underlying9 ?_;intro j q;rw[show(⟨g,0,Ao⟩:Addr).add j=⟨g,j,Ao⟩ by grind [Addr.add],Cb f,<-NN];have b:(d.toList.take (O l*1))[j]?=H (CJ l[j]):=B9;rw[Qb E]at b;exact b
def L5(w:A1):Prop:=∃u c,w=u++[c]/\GU u=AP/\D9 u c=2
def Fs(l:A1):Prop:=∃ws:AJ A1,(∀w∈ws,L5 w)/\l=ws.flatten
theorem Fs.nil:Fs []:=⟨[],Ba,rfl⟩
theorem Fs.snoc{w:A1}(h:Fs l)(c:L5 w):Fs (l++w):=by obtain⟨a,b,rfl⟩:=h;refine⟨a++[w],λx d=>?_,Ba⟩;grind
theorem uM{w:A1}(h:L5 w):(∃a,w=[a]/\a.toNat<128)\/(∃a b,w=[a,b]/\Dv a=2/\128<=b.toNat/\b.toNat<=191)\/(∃a b c,w=[a,b,c]/\Dv a=3/\Hc a<=b.toNat/\b.toNat<=I0 a/\128<=c.toNat/\c.toNat<=191)\/(∃a b c d,w=[a,b,c,d]/\Dv a=4/\Hc a<=b.toNat/\b.toNat<=I0 a/\128<=c.toNat/\c.toNat<=191/\128<=d.toNat/\d.toNat<=191):=by
 obtain⟨u,c,rfl,e,f⟩:=h
 match u,e,f with
 |[],_,f =>
  grind [SL,Dv]
 |[a],e,f =>
  grind [Ly,D9,I0]
 |[a,b],e,f =>
  grind [GU,Ly,D9]
 |[a,b,d],e,f =>
  grind [GU,Ly,D9]
 |_::_::_::_::_,e,_=>simp[GU]at e
theorem uN{w:A1}(h:L5 w){t:A1}:(decodeL (w++t)).2=O w/\Iz (decodeL (w++t)).1=w.flatMap qB/\1<=O w:=by
 have m:∀{w:A1} {r:I},2<=O w->decodeL (w++t)=(r,O w)->128<=r->(∀b∈w,128<=b.toNat)->(decodeL (w++t)).2=O w/\Iz (decodeL (w++t)).1=w.flatMap qB/\1<=O w:=λ{w r} hw hd l hb=>by
  have f:=encode_decode (w++t) (by grind [List.append_eq_nil_iff]) B9;rw[hd]at f ⊢;simp only[]at f ⊢;rw[List.take_left]at f;refine⟨trivial,?_,E⟩;have j:Iz r=Ei r:=by grind [Iz]
  have k:Ei (r:J)=w:=f;rw[j,k];clear f hd j k hw;induction w<;>grind [qB]
 rcases uM h with⟨a,rfl,e⟩|⟨a,b,rfl,g,e,i⟩|⟨a,b,c,rfl,g,e,i,n,o⟩|⟨a,b,c,d,rfl,g,e,i,n,o,p,q⟩
 .rw[List.singleton_append,decodeL_ascii a t e];refine⟨Z,?_,Ba⟩;grind [Iz,qB,UInt8.ofNat_toNat,Ei,encodeRuneZ_one]
 .grind [Dv,decodeL_N,decodeN]
 .have l:(a.toNat=224/\160<=b.toNat/\b.toNat<=191)\/(a.toNat=237/\128<=b.toNat/\b.toNat<=159)\/(225<=a.toNat/\a.toNat<=239/\a.toNat≠237/\128<=b.toNat/\b.toNat<=191):=by
   unfold Dv at g;unfold Hc at e;unfold I0 at i
   repeat' split at g<;>grind
  refine m (r:=a.toNat%16*4096+b.toNat%64*64+c.toNat%64) Ba ?_ E B7;grind [decodeL_N,decodeN]
 have l:(a.toNat=240/\144<=b.toNat/\b.toNat<=191)\/(a.toNat=244/\128<=b.toNat/\b.toNat<=143)\/(241<=a.toNat/\a.toNat<=243/\128<=b.toNat/\b.toNat<=191):=by grind [Dv,Hc,I0]
 refine m (r:=a.toNat%8*262144+b.toNat%64*4096+c.toNat%64*64+d.toNat%64) Ba ?_ E B7;grind [decodeL_N,decodeN]
theorem eX:∀(a:AJ A1) (g:I),(∀w∈a,L5 w)->O a.flatten<=g->IA g a.flatten=a.flatten.flatMap qB
 |[],g,_,_=>by rw[List.flatten_nil,eT];rfl
 |w::a,g,h,hg=>by
  obtain⟨d,f,i⟩:=uN (h w (LR ..));rw[YS]at hg ⊢;rw[Dc]at hg;obtain⟨b,r,rfl⟩:∃b r,w=b::r:=by
   obtain _|⟨b,r⟩:=w
   .simp at i
   exact⟨b,r,Z⟩
  obtain⟨g,rfl⟩:∃c,g=c+1:=⟨g-1,E⟩
  have e:IA (g+1) ((b::r)++a.flatten)=Iz (decodeL ((b::r)++a.flatten)).1++IA g (((b::r)++a.flatten).drop (decodeL ((b::r)++a.flatten)).2):=rfl;rw[e,d,f,UO,eX a g (λw j=>h w (Le _ j)) E,List.flatMap_append]
theorem eY(h:Fs l):Fe l=qT l:=by obtain⟨b,a,rfl⟩:=h;grind [Fe,qT,eX]
theorem WS{a:A1}(h:GU a=AP)(b:D9 a c=2):L5 (a++[c]):=⟨a,c,rfl,h,b⟩
theorem uO(a:AU)(h:a.toNat<128):L5 [a]:=by refine⟨[],a,rfl,rfl,?_⟩;grind [Dv,SL]
theorem uP(a b:AU)(e:Dv a=2)(c:Hc a<=b.toNat)(d:b.toNat<=I0 a):L5 [a,b]:=by obtain⟨f,g,h,_⟩:=(Ly a).2.2.1 E;refine⟨[a],b,Z,by grind [GU],?_⟩;grind [D9]
theorem eZ(a b c:AU)(h:Dv a=3)(d:Hc a<=b.toNat)(e:b.toNat<=I0 a)(f:128<=c.toNat)(g:c.toNat<=191):L5 [a,b,c]:=by obtain⟨i,j,k,_⟩:=(Ly a).2.2.1 E;refine⟨[a,b],c,Z,by grind [GU],?_⟩;grind [D9]
theorem uQ(a b c d:AU)(k:Dv a=4)(e:Hc a<=b.toNat)(f:b.toNat<=I0 a)(g:128<=c.toNat)(h:c.toNat<=191)(i:128<=d.toNat)(j:d.toNat<=191):L5 [a,b,c,d]:=by obtain⟨l,m,n,_⟩:=(Ly a).2.2.1 E;refine⟨[a,b,c],d,Z,by grind [GU],?_⟩;grind [D9]
theorem Rh(x:J)(h:0<=x/\x<=255):(AW x.toNat).toNat=x.toNat:=Hf E
theorem uR{r:J}:L5 (Ei r):=by
 unfold Ei;by_cases c:0<=r/\r<=127
 .grind [encodeRuneZ_one,uO,Rh]
 by_cases d:128<=r/\r<=2047
 .grind [encodeRuneZ_two,Rh,uP,Dv,Hc,I0]
 by_cases e:(2048<=r/\r<55296)\/(57343<r/\r<=65535)
 .grind [encodeRuneZ_three,Rh,eZ,Dv,Hc,I0]
 by_cases a:65536<=r/\r<=1114111
 .rw[encodeRuneZ_four a.1 a.2];have b:=Rh (240+r/262144) E;grind [Rh,uQ,Dv,Hc,I0]
 rw[encodeRuneZ_bad E];exact eZ 239 191 189 B8 B8 B8 B8 B8
theorem Ts(bs:A1)(lim:J):∀(g p:I) (a:A1) (b:I) (l:A1) (q:I),b<=O a->Fs (a.take b)->GU (a.drop b)=AP->Dr bs lim g p a b=.ok (l,q)->Fs l/\O l+4*p+4<=O a+4*q
 |0,_,_,_,_,_,_,_,_,h=>Bo
 |g+1,p,a,b,l,q,hw,ha,hp,h=>by
  rw[Dr]at h;split at h
  .cases h
  rename_i c hc;split at h
  .cases h
  split at h
  .grind
  split at h
  .rename_i h1;split at h
   .cases h
   rename_i r q2 he;have f:=(VA he).2;have e:=bI r;have d:=Ts bs lim g q2 _ _ l q (Co _) (by rw[LV];rw[h1.2,LV]at ha;exact ha.snoc (uR)) B9 h;grind
  split at h
  .cases h
  split at h
  .cases h
  rename_i h0;have d:=Ts bs lim g (p+1) (a++[c]) _ l q B9 (by
   split
   .rename_i h2;rw[ML Ba];have:=ha.snoc (WS hp h2);grind [List.take_append_drop]
   grind) (So hw hp h0 rfl) h
  grind
theorem WT(bs:A1)(lim:J):∀(k p:I) (a:A1) (b:I) (l:A1) (q:I),b<=O a->Fs (a.take b)->GU (a.drop b)=AP->Dm bs lim k p a b=.ok (l,q)->Fs l/\O l+p=O a+q
 |0,p,a,b,l,q,hw,ha,hp,h=>kfc
 |k+1,p,a,b,l,q,hw,ha,hp,h=>by
  rw[Dm]at h;split at h
  .cases h
  rename_i c hc;split at h
  .cases h
  split at h
  .cases h
  rename_i h0;have d:=WT bs lim k (p+1) (a++[c]) _ l q B9 (by
   split
   .rename_i h2;rw[ML Ba];have:=ha.snoc (WS hp h2);grind [List.take_append_drop]
   grind) (So hw hp h0 rfl) h
  grind
def EX:AH->A2->Prop
 |0,_=>True
 |k+1,d=>match d with
  |.lit (.string l)=>Fs l
  |.lit (.int Al z)=>-9223372036854775808<=z/\z<=9223372036854775807
  |.agg ds=>∀d∈ds,EX k d
  |.map es=>∀e∈es,Fs (CX e.1)/\EX k e.2
  |_=>True
theorem f7(h : -9223372036854775808<=z/\z<=9223372036854775807)(k:I):EX k (.lit (.int Y z)):=by
 obtain _|k:=k
 .trivial
 exact h
theorem f8(k:I):EX k .nil:=keL
theorem Tt(k:I){b:AK}:EX k (.lit (.bool b)):=keL
theorem uS(k:I):EX k (.ptr (.lit (.string l))):=keL
theorem uT(h:Fs l)(k:I):EX k (.lit (.string l)):=by
 obtain _|k:=k
 .trivial
 exact h
structure PL(W:World)(v:Value)(cur:A1)(V:World):Prop where
 own:Ck V W.heap.size v cur
 below:A0 W V
theorem PL.app(h:PL W v cur V)(a:Ck V' (K (U W)) v' (cur++l))(hb:Below (K (U W)) V V'):PL W v' (cur++l) V':=⟨a,h.below.trans hb⟩
theorem vp(h:Ck W b v l):Ck {W with drawn:=W.drawn+1} b v l:=h
theorem fG(W:X)(hl:O l<=150000000):Ar As 119 #[Ae ⟨Aw l⟩] W (E4 (qT l) W):=by
 obtain⟨R,y⟩:=CA (qT l);rw[AE y];have ae:D (PL W (T (Aa (K (U W))) 1 1) [34] (Az W (M #[C Am 34] 5))):=by refine⟨⟨⟨Z,AG ⟨K (U W),1,#[C Am 34],Z,Co _,Cj _,Co _,B8,Z,Z⟩⟩,Ba,_,_,_,Z⟩,Cl⟩
 go_enter func119,ntmps119;go_wp2
 go_loopg[3,4] (O l) (λg zv zi wr=>∃(i:I) (a:A4) (n c:I) (f:A1),zv=T a n c/\zi=C Y i/\D (i+g=O l)/\D (f=[34]++(l.take i).flatMap qB)/\D (PL W (T a n c) f wr))
 case atStart=>grind [D]
 case round =>
  obtain⟨i,a,n,c,f,rfl,rfl,s,aa,k⟩:=hrel;have af:O f<=6*i+1:=by grind [D,WR]
  have ag:i<=O l:=AY (AE s);obtain _|g:=gk
  .have ad:¬(i:J)<(O l:J):=AY (AE s);have L:D (f++[34]=R):=by show _=_;rw[<-AE y,AE aa,ML (AY (AE s))];rfl
   go_wp2_with(first|(at_builtin;refine WQ 53 54 [34] Z Z Z Z Z k.own B7 B8 ?_;intro q t r u j m;have ab:=uL j Ba;rw[AE L]at ab;have o:=G (k.app j m)))
   go_ret;exact⟨Z,o.below⟩
  have ad:(i:J)<(O l:J):=AY (AE s);obtain⟨b,hb⟩:∃b,l[i]?=H b:=⟨_,D3 (AY (AE s))⟩
  have ac:=Ej hb;have HN:D (f++qB b=[34]++(l.take (i+1)).flatMap qB):=by grind [D,Re]
  by_cases h1:b.toNat=34\/b.toNat=92
  .have p:D (f++[92,b]=[34]++(l.take (i+1)).flatMap qB):=keK;have d:(((b.toNat:J)==34)=AP)\/(((b.toNat:J)==34)=AQ/\((b.toNat:J)==92)=AP):=B9;rcases d with z|⟨z,Q⟩
   all_goals
    go_wp2_with(first|(at_builtin;refine WQ 29 33 [92,b] Z Z Z Z Z k.own B7 Ba ?_;intro q t r u j m;have o:=G (k.app j m)))
    go_roundg g
    case measure=>omega
    case rel=>exact⟨i+1,_,_,_,_,rfl,Bb,B9,p,o⟩
  have z:((b.toNat:J)==34)=AQ:=B7;have Q:((b.toNat:J)==92)=AQ:=B7;by_cases h2:b.toNat<32
  .have p:D (f++[92,117,48,48,Eb (b.toNat/16),Eb (b.toNat%16)]=[34]++(l.take (i+1)).flatMap qB):=keK;have d3:(b.toNat:J)<32:=E;have F:D (IntKind.u8.wrap ((b.toNat:J).tdiv 16)=((b.toNat/16:I):J)):=by grind [D,w8]
   have N:D ((b.toNat:J).tmod 16=(b.toNat:J)%16):=Yy E;have w:=G ac;have A:=G (λV=>eW (b.toNat/16) E V);have B:=G (λV=>eW (b.toNat%16) E V)
   go_wp2_with fail
   refine Dl (S:=λ_=>True) trivial B6 ?_;intro e;refine Ca 0 40 (T a n c) e ?_;refine Ca 1 41 (Ae ⟨Aw l⟩) e ?_;refine Ca 2 42 (C Y i) e ?_;refine Cf 3 43 (C Am b.toNat) Z (λh _=>PJ (.tmp 41) (.tmp 42) Z B6 B6 (w h)) e ?_;refine Cf 4 44 (C Am ((b.toNat/16:I):J)) Z (λh _=>?y1) e ?_
   case y1=>(go_simp<;>exact F)
   refine Cf 5 45 (C Am (Eb (b.toNat/16)).toNat) Z (λh _=>PJ (.const (Ae ⟨#[48,49,50,51,52,53,54,55,56,57,97,98,99,100,101,102]⟩)) (.tmp 44) Z B6 B6 (A h)) e ?_;refine Ca 6 46 (Ae ⟨Aw l⟩) e ?_;refine Ca 7 47 (C Y i) e ?_;refine Cf 8 48 (C Am b.toNat) Z (λh _=>PJ (.tmp 46) (.tmp 47) Z B6 B6 (w h)) e ?_;refine Cf 9 49 (C Am ((b.toNat%16:I):J)) Z (λh _=>?y2) e ?_
   case y2=>(go_simp<;>exact N)
   refine Cf 10 50 (C Am (Eb (b.toNat%16)).toNat) Z (λh _=>PJ (.const (Ae ⟨#[48,49,50,51,52,53,54,55,56,57,97,98,99,100,101,102]⟩)) (.tmp 49) Z B6 B6 (B h)) e ?_;generalize Eb (b.toNat/16)=x1 at *;generalize Eb (b.toNat%16)=x2 at *;refine CC 11 (λP v=>?_);go_simp;refine v.out _ _ e (λ_=>?_);refine CC 12 (λP v=>?_);rw[Cn B6];refine eV (x:=40) (l:=[92,117,48,48,x1,x2]) Z Z Z Z (vp k.own) B7 Ba ?_;intro q t r u j m;refine v.out _ _ e (λ_=>?_);refine Ca 13 3 (T q t r) e ?_;refine CG ?_;have o:D (PL W (T q t r) (f++[92,117,48,48,x1,x2]) u):=⟨j,k.below.drew.trans m⟩
   go_wp2;go_roundg g
   case measure=>omega
   case rel=>exact⟨i+1,_,_,_,_,rfl,Bb,B9,p,o⟩
  have p:D (f++[b]=[34]++(l.take (i+1)).flatMap qB):=keK;have d3:¬(b.toNat:J)<32:=E
  go_wp2_with(first|(at_builtin;refine WQ 12 16 [b] Z Z Z Z Z k.own B7 Ba ?_;intro q t r u j m;have o:=G (k.app j m)))
  go_roundg g
  case measure=>omega
  case rel=>exact⟨i+1,_,_,_,_,rfl,Bb,B9,p,o⟩
theorem X4(x:I)(h:x<=9):(AW (48+x)).toNat=48+x:=Hf E
theorem fI(d : -9<=z)(e:z<=9):Ar As 118 #[C Y z] W (E4 (Lib.itoa z) W):=by
 have i:AR (-9<=z)=AP:=BX;have j:AR (z<=9)=AP:=keV;by_cases a:z<0
 .have g:AR (z<0)=AP:=Bl;obtain⟨b,f⟩:=Dx (AW (48+z.natAbs));have h:=Jv W (wrap64 (48-z)%256) b (by grind [X4,wrap64]);have c:D (Lib.itoa z=[45,b]):=by grind [D,Lib.itoa,Lib.decDigits]
  clear d e a f;go_enter func118,ntmps118;go_wp2;go_ret;unfold E4;rw[AE c];exact⟨Z,Cl⟩
 have g:AR (z<0)=AQ:=Bl;obtain⟨b,f⟩:=Dx (AW (48+z.toNat));have h:=Jv W (wrap64 (48+z)%256) b (by grind [X4,wrap64]);have c:D (Lib.itoa z=[b]):=by grind [D,Lib.itoa,Lib.decDigits]
 clear d e a f;go_enter func118,ntmps118;go_wp2;go_ret;unfold E4;rw[AE c];exact⟨Z,Cl⟩
theorem vq(z:J)(h:9<z\/z < -9):Lib.itoa z=Lib.itoa (z.tdiv 10)++[AW (48+z.natAbs%10)]:=by
 rcases h with h|h
 .grind [Lib.itoa,Lib.decDigits]
 have e:z.tdiv 10 = -((-z)/10):=B9;grind [Lib.itoa,Lib.decDigits]
theorem fJ(z:J):z.tdiv 10=if 0<=z then z/10 else -(-z/10):=B9
theorem vr(B:9<z\/z < -9)(r : -9223372036854775808<=z)(s:z<=9223372036854775807)(F:∀V,Ar As 118 #[C Y (z.tdiv 10)] V (E4 (Lib.itoa (z.tdiv 10)) V)):Ar As 118 #[C Y z] W (E4 (Lib.itoa z) W):=by
 obtain⟨m,v⟩:∃m:I,z.natAbs%10=m:=⟨_,rfl⟩
 have Q:m<=9:=E;obtain⟨b,u⟩:=Dx (AW (48+m));have L:D ((b.toNat:J)=48+m):=by grind [D,X4]
 have e:D (Lib.itoa z=Lib.itoa (z.tdiv 10)++[b]):=by grind [D,vq]
 have x:=fJ z;have A:z.tmod 10=z-10*z.tdiv 10:=B9;have f:D (O (Lib.itoa (z.tdiv 10))<=21):=Lib.itoa_length_le _ E E;have p:D (IntKind.i64.wrap (z.tdiv 10)=z.tdiv 10):=Hu E;have n:D (IntKind.i64.wrap (48+(m:J))=b.toNat):=by grind [D,Hu]
 have o:D (IntKind.u8.wrap (b.toNat:J)=b.toNat):=w8 _ (by grind [D]);have l:D ((9<z/\z.tmod 10=m)\/(z < -9/\z.tmod 10 = -(m:J)/\0<m)\/(z < -9/\z.tmod 10=m/\m=0)):=by grind [D]
 obtain⟨g,k⟩:=CA (Lib.itoa (z.tdiv 10)++[b]);rw[AE e,AE k];have R:¬(O (Lib.itoa (z.tdiv 10))+1>9223372036854775807):=AY (AE f);have d:(AR (-9<=z)=AP/\AR (z<=9)=AQ/\z.tmod 10=m/\AR ((m:J)<0)=AQ)\/(AR (-9<=z)=AQ/\z.tmod 10 = -(m:J)/\AR (-(m:J)<0)=AP/\AR (0<m)=AP)\/(AR (-9<=z)=AQ/\z.tmod 10=m/\AR ((m:J)<0)=AQ):=B9;clear x A u v r s B l f e;rcases d with⟨h,N,j,i⟩|⟨h,j,i,P⟩|⟨h,j,i⟩
 all_goals
  go_enter func118,ntmps118
  go_wp2_with fail
  refine Dl (S:=λ_=>True) trivial B6 ?_;intro a;refine Ca 0 29 (C Y z) a ?_;refine Cf 1 30 (C Y (z.tdiv 10)) Z (λc _=>?y1) a ?_
  case y1=>(go_simp<;>exact p)
  refine Ca 3 32 (C Y m) a ?_;refine Cf 4 33 (C Y b.toNat) Z (λc _=>?y2) a ?_
  case y2=>(go_simp<;>exact n)
  refine Cf 5 34 (C Am b.toNat) Z (λc _=>?y3) a ?_
  case y3=>(go_simp<;>exact o)
  generalize z.tdiv 10=q at *;refine Nq 2 6 7 31 35 36 b ⟨Z,Z,Z⟩ Z B6 (λ_ _ _=>⟨B6,B6,B6⟩) (λ_=>⟨B6,B6⟩) F (λ_ _=>trivial) (λV y t=>?_);refine Cf 8 37 (CQ g) Z (λc _=>?y5) a ?_
  case y5=>(unfold CQ;go_simp;grind [D,EL])
  refine Ca 9 2 (CQ g) a ?_;refine CG ?_;go_wp2;go_ret;exact⟨B6,(CO (w:=W)).drew.trans t⟩
theorem fK:∀(n:I) (z:J),z.natAbs<=n -> -9223372036854775808<=z->z<=9223372036854775807->∀W,Ar As 118 #[C Y z] W (E4 (Lib.itoa z) W)
 |0,z,h,_,_,W=>fI E E
 |n+1,z,h,h1,h2,W=>by
  by_cases a : -9<=z/\z<=9
  .exact fI a.1 a.2
  refine vr E h1 h2 (λV=>fK n (z.tdiv 10) ?_ ?_ ?_ V)
  all_goals(rw[fJ];split<;>omega)
def Mn(T:A2->A1)(e:Lit×AM Unit):A1:=(qT (CX e.1)++[58])++T e.2
def Jw:AH->A2->A1
 |0,_=>[]
 |k+1,d=>match d with
  |.lit (.bool b)=>bif b then[116,114,117,101]else[102,97,108,115,101]
  |.lit (.int Al z)=>Lib.itoa z
  |.lit (.string l)=>qT l
  |.agg ds=>([91]++Dd (Jw k) ds)++[93]
  |.map es=>([123]++Dd (Mn (Jw k)) es)++[125]
  |_=>[110,117,108,108]
def I5(h:AK)(l:A1)(W:Ap)(e:Ending)(W':Ap):Prop:=e=Ak (Af #[Ae ⟨Aw (bif h then[]else l)⟩,Ah (!h)])/\A0 W W'
theorem X6(a:J)(b:(a=0/\l=[110,117,108,108])\/(a=1/\l=[102,97,108,115,101])\/(a=2/\l=[116,114,117,101])):Ar As 85 #[.agg (Ce a 0 ⟨#[]⟩ Cm Cm)] W (I5 AQ l W):=by
 unfold Ce Cm;rcases b with⟨rfl,rfl⟩|⟨rfl,rfl⟩|⟨rfl,rfl⟩
 all_goals
  go_enter func85,ntmps85;go_wp2;refine CL (Fw results85 _ _ _) Z ?_;exact⟨Z,Cl⟩
theorem vt{m:A1}:Ar As 85 #[.agg (Ce 5 0 ⟨Aw l⟩ Cm Cm)] W (I5 AP m W):=by unfold Ce Cm;go_enter func85,ntmps85;go_wp2;refine CL (Fw results85 _ _ _) Z ?_;exact⟨Z,Cl⟩
theorem vu(b : -9223372036854775808<=z)(d:z<=9223372036854775807):Ar As 85 #[.agg (Ce 3 z ⟨#[]⟩ Cm Cm)] W (I5 AQ (Lib.itoa z) W):=by
 have a:D (ED W (Ce 3 z ⟨#[]⟩ Cm Cm) (Az W (M (Ce 3 z ⟨#[]⟩ Cm Cm) 101))):=K1;have c:=fK z.natAbs z (Co _) b d;generalize Lib.itoa z=R at *;unfold Ce Cm at *;go_enter func85,ntmps85
 go_wp2_with(first|(go_at_call 118;refine(c _).mono ?_;rintro e g ⟨rfl,f⟩))
 refine CL (Fw results85 _ _ _) Z ?_;exact⟨rfl,(a.next f).below⟩
theorem vv(hl:O l<=150000000):Ar As 85 #[.agg (Ce 4 0 ⟨Aw l⟩ Cm Cm)] W (I5 AQ (qT l) W):=by
 have a:D (ED W (Ce 4 0 ⟨Aw l⟩ Cm Cm) (Az W (M (Ce 4 0 ⟨Aw l⟩ Cm Cm) 101))):=K1;have c:=λV=>fG V hl;generalize qT l=R at *;unfold Ce Cm at *;go_enter func85,ntmps85
 go_wp2_with(first|(go_at_call 119;refine(c _).mono ?_;rintro e d ⟨rfl,b⟩))
 refine CL (Fw results85 _ _ _) Z ?_;exact⟨rfl,(a.next b).below⟩
theorem fL(b:AU):1<=O (qB b):=keK
theorem fM(x y:AU):((⟨#[x]⟩:AT)++⟨Aw l⟩)++⟨#[y]⟩=⟨Aw (([x]++l)++[y])⟩:=kff
theorem Tw{α:Type}(T:α->A1){l:AJ α}{d:α}(a:l[i]?=H d):O (Dd T (l.take i))+O (T d)<=O (Dd T l):=by
 have h:=Rl T l (i+1);by_cases b:0<i
 .grind [Rk]
 obtain rfl:i=0:=E;rw[Rj T a]at h;rw[RX];show 0+_<=_;omega
theorem fN{α:Type}(p:α->AK)(l:AJ α)(i:I)(d:α)(a:l[i]?=H d):(l.take (i+1)).any p=((l.take i).any p||p d):=BM
theorem wR(g:I)(l:A1)(hl:l≠[]):IA (g+1) l=Iz (decodeL l).1++IA g (l.drop (decodeL l).2):=by
 obtain _|⟨b,t⟩:=l
 .exact absurd Z hl
 rfl
theorem Xn(s:AT)(hl:O bs+O (Fe s.data.toList)<=999999999)(h:Ck W base v bs):Ar As 152 #[v,.string s] W λag e=>∃q,ag=Ak q/\Ck e base q (bs++Fe s.data.toList)/\Below base W e/\L4 W e:=by
 obtain⟨i0,R,V,a,c⟩:=DD Tryz.infoU8;obtain⟨a6,bi,a7,rfl⟩:=h.2.2;have t:=G h;have be:O s.data.toList=s.size:=FE;have HJ:D (O bs+2+O (IA s.size s.data.toList)<=999999999/\Fe s.data.toList=[34]++IA s.size s.data.toList++[34]):=by grind [D,Fe]
 have ba:O bs<=999999999:=E;go_enter func152,ntmps152
 go_wp2_with(first
  |(at_builtin;refine JS 34 t.1 ?_ (hb:=B1 t.2.1);intro q L d m ab;obtain⟨ah,ae,rfl⟩:=ownsRow_succ d;have ac:=G (GC ((Cq _ _).alloc t.2.1 _) (t.1.alloc _) m (B1 t.2.1));have o:D (Ck L base (T (Aa ah) _ ae) (bs++[34])):=⟨M6 d Z,Cy t.2.1 ac.size,_,_,_,Z⟩;have am:=G ((Tp).trans (Tq (t.1.alloc _) m))))
 have w:D (IB base W (K (U L)) s 0 (T (Aa ah) (O bs+1) ae) (bs++[34]) (L.iter s 0)):=by refine⟨Nf o Cl,World.iter_heap _ _ _,ac.alloc o.2.1 _,o.2.1,am.trans (Tp)⟩
 generalize L.iter s 0=W0 at *;generalize K (U L)=N at *
 go_loopg[0] s.size (λg a1 wr=>∃(i:I) (z:A4) (F A:I) (b:A1),a1=T z F A/\D (i<=s.size)/\D (s.size<=i+g)/\D (IB base W N s i (T z F A) b wr)/\D ((bs++[34])++IA s.size s.data.toList=b++IA g (s.data.toList.drop i)))
 case atStart=>grind
 case round =>
  obtain⟨i,z,F,A,b,rfl,az,ay,w,HL⟩:=hrel;have Q:D (O b<=999999998):=by grind [D,List.length_append]
  by_cases h1:i=s.size
  .have HF:D ((bs++[34])++IA s.size s.data.toList=b):=by grind [eT]
   have ak:=λty=>eS (P:=As) ty w.it E;have aa:=AE Q
   go_wp2_with(first
    |(at_builtin;refine JS 34 w.own.1 ?_ (hb:=B1 w.own.2.1);intro q w3 d m ab;obtain⟨ai,af,rfl⟩:=ownsRow_succ d;have j:=G (w.app (l:=[34]) d m)))
   go_ret;have he:bs++Fe s.data.toList=b++[34]:=by grind [D]
   rw[he];exact⟨_,Z,j.own,j.below,j.kp⟩
  have hn:i<s.size:=AY (AE az);obtain⟨g,rfl⟩:∃g,gk=g+1:=⟨gk-1,AY (AE ay)⟩
  have ak:=λty=>eR (P:=As) ty w.it hn;obtain⟨r,hr⟩:=Dx ((Utf8.decode s i).1);obtain⟨k,hk⟩:=Dx ((Utf8.decode s i).2);rw[hr,hk]at ak;have bh:r<=1114111:=by grind [Lib.rune_le]
  have bb:=Lib.decodeL_drop s i;have bf:s.data.toList.drop i≠[]:=B9;have HC:D (IA (g+1) (s.data.toList.drop i)=Iz r++IA g (s.data.toList.drop (i+k))):=by grind [wR,List.drop_drop]
  have bc:1<=k:=by grind [Lib.decodeL_width]
  have bd:k<=s.size-i:=by grind [Lib.decodeL_le]
  have f:D (IB base W N s (i+k) (T z F A) b (wr.putObj N (.stringIter s (i+k)))):=w.next _
  have a2:D ((bs++[34])++IA s.size s.data.toList=(b++Iz r)++IA g (s.data.toList.drop (i+k))):=by grind [D]
  have ad:D (O b+O (Iz r)<=999999998):=by grind [D,List.length_append]
  generalize wr.putObj N (.stringIter s (i+k))=W2 at *;have aa:=AE Q;by_cases ar:r=34\/r=92
  .rcases ar with rfl|rfl
   .have n:D (Iz 34=[92,34]):=rfl;have aj:=AE ad;have aa:=AE Q
    go_wp2_with(first
     |(at_builtin;refine JO _ Z _ _ 50 Z base 5 i0 (C Am 0) 1 1 underlying50 R V a c Z B8 _ _ _ Z (f.own.1.alloc _) ⟨K (U W2),0,Ao⟩ 2 2 [C Am 92,C Am 34] Z Z (EI) (λal p=>BT) Bc E ke8 ?_;intro q w3 d m ab;obtain⟨ai,af,rfl⟩:=ownsRow_succ d;have j:=G (f.app (l:=[92,34]) d m)))
    go_roundg g
    case measure=>omega
    grind [D]
   have n:D (Iz 92=[92,92]):=rfl;have aj:=AE ad;have aa:=AE Q
   go_wp2_with(first
    |(at_builtin;refine JO _ Z _ _ 50 Z base 5 i0 (C Am 0) 1 1 underlying50 R V a c Z B8 _ _ _ Z (f.own.1.alloc _) ⟨K (U W2),0,Ao⟩ 2 2 [C Am 92,C Am 92] Z Z (EI) (λal p=>BT) Bc E ke8 ?_;intro q w3 d m ab;obtain⟨ai,af,rfl⟩:=ownsRow_succ d;have j:=G (f.app (l:=[92,92]) d m)))
   go_roundg g
   case measure=>omega
   grind [D]
  have a8:((r:J)==34)=AQ:=B7;have a9:((r:J)==92)=AQ:=B7;by_cases ap:r<32
  .have n:D (Iz r=[92,117,48,48]++[Eb (r/16),Eb (r%16)]):=by grind [Iz]
   have aq:(r:J)<32:=E;have a0:(⟨Aw ([92,117,48,48]:A1)⟩:AT).size=4:=rfl
   go_wp2_with(first
    |(at_builtin;refine wpList_append_own_string _ Z _ _ 50 9 Z base 5 i0 underlying50 underlying9 R V a c _ _ _ Z f.own.1 ⟨[92,117,48,48].toArray⟩ Z By (by rw[a0];omega) f.own.2.1 ?_;intro q w5 d ax bg;have j:=G (f.appS d ax);obtain⟨a4,n4,c4,rfl⟩:=j.own.2.2))
   have x:=trivial;have y:=G j.drew;have au:O (b++[92,117,48,48])=O b+4:=Ba;have aj:O b+6<=999999998:=by grind [D]
   refine Ef (S:=λ_=>True) B6 ?_;refine Ca 0 35 (T a4 n4 c4) x ?_;refine Ca 1 36 (C .i32 r) x ?_;refine Cf 2 37 (C .i32 ((r/16:I):J)) Z (λu hZ=>?y2) x ?_
   case y2=>(go_simp)
   refine Cf 3 38 (CJ (Eb (r/16))) Z (λu hZ=>?y3) x ?_
   case y3=>exact PJ _ _ rfl rfl B6 (eU (r/16) E)
   refine Ca 4 39 (C .i32 r) x ?_;refine Cf 5 40 (C .i32 ((r%16:I):J)) Z (λu hZ=>?y5) x ?_
   case y5=>(have z2:=uG ap;go_simp)
   refine Cf 6 41 (CJ (Eb (r%16))) Z (λu hZ=>?y6) x ?_
   case y6=>exact PJ _ _ rfl rfl B6 (eU (r%16) E)
   refine CC 7 (λan hK=>?_);refine Kp B6 ?_;refine uI (.tmp 38) (.tmp 41) Z (Eb (r/16)) (Eb (r%16)) B6 B6 ?_;refine hK.out _ _ trivial (λ_=>?_);refine CC 8 (λan hK=>?_);refine Kp B6 ?_;refine gJ (.tmp 35) (.tmp 42) Z underlying50 R V a c Z B8 B6 (y.own.1.alloc _) 2 2 B6 Z (EI) (λal p=>BT) By (by rw[au];omega) (by have:=y.own.2.1;rw[CI];exact Us this) ?_;intro q w6 B av _;obtain⟨g6,ao,rfl⟩:=ownsRow_succ B;have a5:=G (y.app (l:=[Eb (r/16),Eb (r%16)]) B av);refine hK.out _ _ trivial (λ_=>?_);refine Ca 9 0 (T (Aa g6) (O (b++[92,117,48,48])+2) ao) trivial ?_;refine CG ?_;go_simp;go_wp2;go_roundg g
   case measure=>omega
   grind [D]
  have n:D (Iz r=Ei r):=by grind [Iz]
  have aq:¬(r:J)<32:=E;have cA:=Any.utf8_AppendRune_plain Tryz.lays242 B6 base (T z F A) (O b) (b.map CJ) (r:J) E E W2 f.own.1 E f.own.2.1
  go_wp2_with(first
   |(go_at_call 186;refine cA.mono ?_;rintro ag w3 ⟨v3,rfl,B,bj,aw⟩;rw[Vy,LW]at B;have j:=G (f.app (l:=Ei r) B aw);obtain⟨a4,n4,c4,rfl⟩:=j.own.2.2))
  go_roundg g
  case measure=>omega
  grind [D]
theorem wS(T:A2->A1){q:A4}{cap:I}(hF:∀k,F k->k<base)(hl:O bs+O (Dd T ds)+2<=999999999)(hn:O ds<=999999999)(hu:DH W 89 1 F (Ac q (O ds) cap) (O ds) xs)(aj:∀(i:I) (x:Aq) (d:A2),xs[i]?=H x->ds[i]?=H d->X5 W base x (T d))(ai:∀(i:I) (x:Aq),xs[i]?=H x->∃ao y,x=Ai ao y)(h:Ck W base v bs):Ar As 153 #[v,Ac q (O ds) cap] W λe W'=>∃u,e=Ak u/\Ck W' base u (((bs++[91])++Dd T ds)++[93])/\Below base W W':=by
 obtain⟨au,a2,av,rfl⟩:=h.2.2;have p:=C9 h;have HU:=C9 hu;have HI:=C9 aj;have HF:=C9 ai;go_enter func153,ntmps153
 go_wp2_with(first
  |(at_builtin;refine JS 91 p.1 ?_ (hb:=B1 p.2.1);intro u w2 m s j;obtain⟨af,ae,rfl⟩:=ownsRow_succ m;have ab:=C9 (GC ((Cq _ _).alloc p.2.1 _) (p.1.alloc _) s (B1 p.2.1));have aq:D (Ck w2 base (Ac (Aa af) _ ae) (bs++[91])):=⟨M6 m Z,Cy p.2.1 ab.size,_,_,_,Z⟩))
 go_loopg[0,12] (O ds) (λg y ap wr=>∃(k:I) (N:A4) (n P:I),y=Ac N n P/\ap=C Y k/\D (k+g=O ds)/\D (Ck wr base (Ac N n P) ((bs++[91])++Dd T (ds.take k)))/\D (Below base W wr))
 case atStart=>grind [Dd]
 case round =>
  obtain⟨k,N,n,P,rfl,rfl,a,b,o⟩:=hrel;have am:O ((bs++[91])++Dd T (ds.take k))<=999999998:=by grind [Rl]
  obtain⟨l,HC⟩:=CA ((bs++[91])++Dd T (ds.take k));rw[AE HC]at b am;obtain _|g:=gk
  .have an:¬(k:J)<O ds:=AY (AE a);have z:D (ds.take k=ds):=by grind [D]
   go_wp2_with(first
    |(at_builtin;refine JS 93 b.1 ?_ (hb:=B1 b.2.1);intro u r m s j;obtain⟨S,R,rfl⟩:=ownsRow_succ m;have f:=C9 (GC ((Cq _ _).alloc b.2.1 _) (b.1.alloc _) s (B1 b.2.1));have w:D (Ck r base (Ac (Aa S) _ R) (l++[93])):=⟨M6 m Z,Cy b.2.1 f.size,_,_,_,Z⟩))
   go_ret;have he:l++[93]=bs++91::(Dd T ds++[93]):=by grind [D]
   have A:=AE w;rw[he]at A;exact⟨_,Z,A,o.trans f⟩
  have al:k<O ds:=AY (AE a);have an:(k:J)<O ds:=E;have L:=HU.same (V':=wr) (G:=F) (λ_ h=>h) (λaa hj=>o.block aa (hF aa hj));obtain⟨q0,rfl⟩:∃q0,q=Aa q0:=by rcases L.2 with⟨_,e⟩|⟨g,aw,l,e,_⟩<;>grind
  have a1:O xs=O ds:=AY L.1;obtain⟨x,c⟩:∃x,xs[k]?=H x:=⟨xs[k],D3 E⟩
  obtain⟨d,V⟩:∃d,ds[k]?=H d:=⟨ds[k],D3 al⟩
  obtain⟨tx,yx,rfl⟩:=HF.out k x c;have hc:A6 wr q0 k (Ai tx yx):=by have:=L.cell k _ c;grind [Addr.add]
  have ax:=Rl T ds (k+1);have ad:=HI.out k _ d c V;have t:=C9 ad;have ay:(Az wr (M #[C Am 44] 5)).cell? ⟨q0,k,Ao⟩=H (Ai tx yx):=(IV wr _ _ (by rw[hc];rfl)).trans hc;by_cases ak:k=0
  .subst ak;have z:=C9 (Rj T V);have B:D (O l+O (T d)<=999999999):=by grind [D,Dd]
   have Q:=t.out wr _ _ o b B;have HK:D (0+(g+1)=O ds):=a
   go_wp2_with(first
    |(go_at_call 113;refine Q.mono ?_;rintro e r ⟨v4,rfl,A,ag⟩;obtain⟨o4,b4,a4,n4,c4,rfl⟩:=A;have w:D (Ck r base (Ac a4 n4 c4) (l++T d)):=⟨o4,b4,_,_,_,Z⟩;have f:=C9 (o.trans ag)))
   go_roundg g
   case measure=>omega
   case rel=>exact⟨1,a4,n4,c4,rfl,Bb,B9,by grind [D,Dd],f⟩
  have az:AR ((0:J)<(k:J))=AP:=B7;have a0:(0:J)<(k:J):=E;have z:=C9 (Rk T E V);have B:D (O (l++[44])+O (T d)<=999999999):=by grind [D]
  go_wp2_with(first
   |(at_builtin;refine JS 44 b.1 ?_ (hb:=B1 b.2.1);intro u r m s j;obtain⟨S,R,rfl⟩:=ownsRow_succ m;have f:=C9 (GC ((Cq _ _).alloc b.2.1 _) (b.1.alloc _) s (B1 b.2.1));have w:D (Ck r base (Ac (Aa S) _ R) (l++[44])):=⟨M6 m Z,Cy b.2.1 f.size,_,_,_,Z⟩;have Q:=t.out r _ _ (o.trans f) w B)
   |(go_at_call 113;refine Q.mono ?_;rintro e w5 ⟨v5,rfl,h5,ah⟩;obtain⟨o5,b5,a5,n5,c5,rfl⟩:=h5;have ar:D (Ck w5 base (Ac a5 n5 c5) ((l++[44])++T d)):=⟨o5,b5,_,_,_,Z⟩;have ac:=C9 ((o.trans f).trans ah)))
  go_roundg g
  case measure=>omega
  case rel=>exact⟨k+1,a5,n5,c5,rfl,Bb,B9,by grind [D],ac⟩
theorem xd(n:I)(h:¬n<32)(c:n<4294967296):EC n=AW (217+F6 n)::CE n (2^F6 n):=by
 unfold EC F6;rw[Ci h];by_cases a:n<256
 .rw[Cn E,Cn a];rfl
 rw[Ci E,Ci a];by_cases b:n<65536
 .rw[Cn E,Cn b];rfl
 rw[Ci E,Ci b,Cn c];rfl
theorem gP(W:X)(L:n<4294967296):Ar As 122 #[C Y n] W λe o=>e=Ak (CQ (EC n))/\A0 W o:=by
 by_cases A:n<32
 .obtain⟨u,w⟩:=Dx (AW (160+n));have b:D (EC n=[u]):=by grind [D,EC]
  rw[AE b];have B:=Jv W (160+(n:J)) u keq;have v:(n:J)<32:=E;go_enter func122,ntmps122;go_wp2;go_ret;exact⟨Z,Cl⟩
 obtain⟨m,h⟩:=Dx (F6 n);have i:=h▸Rb n;obtain⟨u,w⟩:=Dx (AW (217+m));have x:D ((u.toNat:J)=217+m):=by grind [D,Hf]
 have b:D (EC n=[u]++CE n (2^m)):=by grind [D,xd]
 rw[AE b];have d:=λV=>Rd V (n:J);rw[NV,h]at d;have p:=λV=>Ou (2^m) n V E (LB (Co m) i).2;have q:=λV=>Tk V i;have F:¬(1+O (CE n (2^m))>9223372036854775807):=by grind [I1,LB]
 generalize 2^m=kv at *;obtain⟨f,j⟩:=CA ([u]++CE n kv);rw[AE j];have v:¬(n:J)<32:=E;have k:D (IntKind.i64.wrap (217+(m:J))=u.toNat):=by grind [D,Hu]
 have l:D (IntKind.u8.wrap (u.toNat:J)=u.toNat):=w8 _ (by grind [D]);go_enter func122,ntmps122
 go_wp2_with(first|(go_at_call 123;refine(d _).mono ?_;rintro e N ⟨rfl,s⟩))
 refine Dl (S:=λ_=>True) trivial B6 ?_;intro a;refine Ca 0 13 (C Y kv) a ?_;refine Ca 6 19 (C Y n) a ?_;refine Ca 7 20 (C Y kv) a ?_;refine CC 1 (λz t=>?_);go_simp;refine(q _).mono ?_;rintro e P ⟨rfl,g⟩;refine t.out _ _ a (λ_=>?_);refine Cf 2 15 (C Y u.toNat) Z (λc _=>?y2) a ?_
 case y2=>(go_simp<;>exact k)
 refine Cf 3 16 (C Am u.toNat) Z (λc _=>?y3) a ?_
 case y3=>(go_simp<;>exact l)
 refine Nq 8 4 5 21 17 18 u ⟨Z,Z,Z⟩ Z B6 (λ_ _ _=>⟨B6,B6,B6⟩) (λ_=>⟨B6,B6⟩) p (λ_ _=>trivial) (λV y r=>?_);refine Cf 9 22 (CQ f) Z (λc _=>?y5) a ?_
 case y5=>(unfold CQ;go_simp;grind [D,EL])
 refine Ca 10 2 (CQ f) a ?_;refine CG ?_;go_wp2;go_ret;exact⟨B6,WN s (g.trans (r.mono g.size))⟩
def Mv(sh lo n:AH):A1:=if n<16 then[AW (sh+n)]else if n<=65535 then AW lo::CE n 2 else AW (lo+1)::CE n 4
theorem gQ:Mv 144 220 n=Kh n/\Mv 128 222 n=Ki n:=⟨rfl,rfl⟩
theorem gR(W:X)(b lo:I)(q:b<=200)(r:lo<=250)(i:n<=9223372036854775807):Ar As 126 #[C Y b,C Y lo,C Y n] W λe l=>e=Ak (CQ (Mv b lo n))/\A0 W l:=by
 by_cases s:n<16
 .obtain⟨u,j⟩:=Dx (AW (b+n));have c:D (Mv b lo n=[u]):=by grind [D,Mv]
  rw[AE c];have t:=Jv W ((b:J)+(n:J)) u keq;have o:(n:J)<16:=E;go_enter func126,ntmps126;go_wp2;go_ret;exact⟨Z,Cl⟩
 have o:¬(n:J)<16:=E;by_cases v:n<=65535
 .obtain⟨u,j⟩:=Dx (AW lo);have c:D (Mv b lo n=[u]++CE n 2):=by grind [D,Mv]
  rw[AE c];have g:=λV=>Ou 2 n V i E;have m:¬(1+O (CE n 2)>9223372036854775807):=kef;have p:(n:J)<65536:=E;have f:D (IntKind.u8.wrap (lo:J)=u.toNat):=by grind [D,Hf,w8]
  go_enter func126,ntmps126
  go_wp2_with fail
  refine Dl (S:=λ_=>True) trivial B6 ?_;intro a;refine Ca 0 17 (C Y lo) a ?_;refine Cf 1 18 (C Am u.toNat) Z (λd _=>?y3) a ?_
  case y3=>(go_simp<;>exact f)
  refine Ca 4 21 (C Y n) a ?_;refine Nq 5 2 3 22 19 20 u ⟨Z,Z,Z⟩ Z B6 (λ_ _ _=>⟨B6,B6,B6⟩) (λ_=>⟨B6,B6⟩) g (λ_ _=>trivial) (λV y h=>?_);refine Cf 6 23 (CQ ([u]++CE n 2)) Z (λd _=>?y5) a ?_
  case y5=>(unfold CQ;go_simp;exact EL)
  refine Ca 7 6 (CQ ([u]++CE n 2)) a ?_;refine CG ?_;go_simp;go_wp2;go_ret;exact⟨Z,(Cq _ _).drew.trans h⟩
 obtain⟨u,j⟩:=Dx (AW (lo+1));have c:D (Mv b lo n=[u]++CE n 4):=by grind [D,Mv]
 rw[AE c];have g:=λV=>Ou 4 n V i E;have m:¬(1+O (CE n 4)>9223372036854775807):=kef;have p:¬(n:J)<65536:=E;have k:D (IntKind.i64.wrap ((lo:J)+1)=u.toNat):=by grind [D,Hf,Hu]
 have f:D (IntKind.u8.wrap (u.toNat:J)=u.toNat):=w8 _ (AY u.toNat_lt);go_enter func126,ntmps126
 go_wp2_with fail
 refine Dl (S:=λ_=>True) trivial B6 ?_;intro a;refine Ca 0 24 (C Y lo) a ?_;refine Cf 1 25 (C Y u.toNat) Z (λd _=>?y2) a ?_
 case y2=>(go_simp<;>exact k)
 refine Cf 2 26 (C Am u.toNat) Z (λd _=>?y3) a ?_
 case y3=>(go_simp<;>exact f)
 refine Ca 5 29 (C Y n) a ?_;refine Nq 6 3 4 30 27 28 u ⟨Z,Z,Z⟩ Z B6 (λ_ _ _=>⟨B6,B6,B6⟩) (λ_=>⟨B6,B6⟩) g (λ_ _=>trivial) (λV y h=>?_);refine Cf 7 31 (CQ ([u]++CE n 4)) Z (λd _=>?y5) a ?_
 case y5=>(unfold CQ;go_simp;exact EL)
 refine Ca 8 6 (CQ ([u]++CE n 4)) a ?_;refine CG ?_;go_simp;go_wp2;go_ret;exact⟨Z,(Cq _ _).drew.trans h⟩
theorem Xp(a v:J)(b:AU)(d:(a=0/\v=246)\/(a=1/\v=244)\/(a=2/\v=245))(hb:(b.toNat:J)=v):Ar As 86 #[.agg (Ce a 0 ⟨#[]⟩ Cm Cm)] W (E4 [b] W):=by
 have c:=Jv (Az W (M (Ce a 0 ⟨#[]⟩ Cm Cm) 101)) v b hb.symm;rw[show(Az W (M (Ce a 0 ⟨#[]⟩ Cm Cm) 101)).heap.size=K (U W)+1 by simp]at c;unfold Ce Cm at *;rcases d with⟨rfl,rfl⟩|⟨rfl,rfl⟩|⟨rfl,rfl⟩
 all_goals
  go_enter func86,ntmps86;go_wp2;go_ret;exact⟨Z,(Cl).alloc Ba _⟩
theorem xj(i : -9223372036854775808<=z)(j:z<=9223372036854775807):Ar As 86 #[.agg (Ce 3 z ⟨#[]⟩ Cm Cm)] W (E4 (K0 z) W):=by
 obtain⟨R,a⟩:=CA (K0 z);have d:D (ED W (Ce 3 z ⟨#[]⟩ Cm Cm) (Az W (M (Ce 3 z ⟨#[]⟩ Cm Cm) 101))):=K1;by_cases f:z<0
 .have c:∀V,Ar As 120 #[C Y 1,C Y (-1-z)] V (E4 R V):=λV=>by have h:=PH V 1 (-1-z).toNat B8 E;rw[show(((-1-z).toNat:I):J) = -1-z by omega]at h;rw[<-AE a];unfold K0;rw[Cn f];exact h
  rw[AE a];unfold Ce Cm at *;go_enter func86,ntmps86
  go_wp2_with(first|(go_at_call 120;refine(c _).mono ?_;rintro e g ⟨rfl,b⟩))
  go_ret;exact⟨rfl,(d.next b).below⟩
 have c:∀V,Ar As 120 #[C Y 0,C Y z] V (E4 R V):=λV=>by have h:=PH V 0 z.toNat B8 E;rw[show((z.toNat:I):J)=z by omega]at h;rw[<-AE a];unfold K0;rw[Ci f];exact h
 rw[AE a];unfold Ce Cm at *;go_enter func86,ntmps86
 go_wp2_with(first|(go_at_call 120;refine(c _).mono ?_;rintro e g ⟨rfl,b⟩))
 go_ret;exact⟨rfl,(d.next b).below⟩
theorem gT(hl:O l<=999999999):Ar As 86 #[.agg (Ce 4 0 ⟨Aw l⟩ Cm Cm)] W (E4 (D4 3 (O l)++l) W)/\Ar As 86 #[.agg (Ce 5 0 ⟨Aw l⟩ Cm Cm)] W (E4 (D4 2 (O l)++l) W):=by
 have g:∀m,D (ED W (Ce m 0 ⟨Aw l⟩ Cm Cm) (Az W (M (Ce m 0 ⟨Aw l⟩ Cm Cm) 101))):=λm=>K1;have c:=λV s (o:s<=7)=>PH V s (O l) o E;have h:∀s,¬(O (D4 s (O l))+O l>9223372036854775807):=λs=>kfn;constructor
 .replace g:=g 4
  replace c:=λV=>c V 3 B8
  replace h:=h 3
  unfold Ce Cm at *;go_enter func86,ntmps86
  go_wp2_with fail
  generalize Az W (M #[C Y 4,C Y 0,Ae ⟨Aw l⟩,T Ao 0 0,T Ao 0 0] 101)=V0 at *;refine Dl (S:=ED W #[C Y 4,C Y 0,Ae ⟨Aw l⟩,T Ao 0 0,T Ao 0 0]) g.drew B6 ?_;intro a;refine Ca 0 35 (A9 (K (U W)) 2) a ?_;refine Cf 1 36 (Ae ⟨Aw l⟩) Z (λf b=>?y1) a ?_
  case y1=>(have k:=Cb b.box 2;go_simp)
  refine Cf 2 37 (C Y (O l)) Z (λf b=>?y2) a ?_
  case y2=>go_simp
  refine Ca 4 39 (A9 (K (U W)) 2) a ?_;refine Cf 5 40 (Ae ⟨Aw l⟩) Z (λf b=>?y3) a ?_
  case y3=>(have k:=Cb b.box 2;go_simp)
  refine CC 3 (λn j=>?_);go_simp;refine(c _).mono ?_;rintro e p ⟨rfl,i⟩;have d:=a.next i
  refine j.out _ _ d (λ_=>?_);refine Cf 6 41 (CQ (D4 3 (O l)++l)) Z (λf b=>?y4) d ?_
  case y4=>(unfold CQ;go_simp;exact EL)
  refine Ca 7 2 (CQ (D4 3 (O l)++l)) d ?_;refine CG ?_;go_wp2;go_ret;exact⟨Z,d.below⟩
 replace g:=g 5
 replace c:=λV=>c V 2 B8
 replace h:=h 2
 unfold Ce Cm at *;go_enter func86,ntmps86
 go_wp2_with fail
 generalize Az W (M #[C Y 5,C Y 0,Ae ⟨Aw l⟩,T Ao 0 0,T Ao 0 0] 101)=V0 at *;refine Dl (S:=ED W #[C Y 5,C Y 0,Ae ⟨Aw l⟩,T Ao 0 0,T Ao 0 0]) g.drew B6 ?_;intro a;refine Ca 0 44 (A9 (K (U W)) 2) a ?_;refine Cf 1 45 (Ae ⟨Aw l⟩) Z (λf b=>?y1) a ?_
 case y1=>(have k:=Cb b.box 2;go_simp)
 refine Cf 2 46 (C Y (O l)) Z (λf b=>?y2) a ?_
 case y2=>go_simp
 refine Ca 4 48 (A9 (K (U W)) 2) a ?_;refine Cf 5 49 (Ae ⟨Aw l⟩) Z (λf b=>?y3) a ?_
 case y3=>(have k:=Cb b.box 2;go_simp)
 refine CC 3 (λn j=>?_);go_simp;refine(c _).mono ?_;rintro e p ⟨rfl,i⟩;have d:=a.next i
 refine j.out _ _ d (λ_=>?_);refine Cf 6 50 (CQ (D4 2 (O l)++l)) Z (λf b=>?y4) d ?_
 case y4=>(unfold CQ;go_simp;exact EL)
 refine Ca 7 2 (CQ (D4 2 (O l)++l)) d ?_;refine CG ?_;go_wp2;go_ret;exact⟨Z,d.below⟩
def fR(pk:AK):FuncId:=bif pk then 87 else 86
theorem gU(o:AK)(hF:∀j,F j->j<K (U W))(hr:DH W 101 5 F u (O ds) xs)(ha:∀(i:I) (d:A2),ds[i]?=H d->∃a,Ha xs i a/\CP k W F (.agg a) d)(hl:O (h0++ds.flatMap f)<=999999999)(c:∀V,Ar As (bif o then 126 else 120) (bif o then#[C Y 144,C Y 220,C Y (O ds)]else#[C Y 4,C Y (O ds)]) V (E4 h0 V))(ih:∀(V:X) (a:A3) (d:A2),(∀j,F j->j<K (U V))->CP k V F (.agg a) d->O (f d)<=999999999->Ar As (fR o) #[.agg a] V (E4 (f d) V)):Ar As (fR o) #[.agg (Ce 6 0 ⟨#[]⟩ Cm u)] W (E4 (h0++ds.flatMap f) W):=by
 obtain⟨hn,a,P,rfl,HC⟩:=Mk hr;have b:D (ED W (Ce 6 0 ⟨#[]⟩ Cm (T a (O ds) P)) (Az W (M (Ce 6 0 ⟨#[]⟩ Cm (T a (O ds) P)) 101))):=K1;obtain⟨n,hN⟩:=Dx (O ds);have aa:D (∀i,i<n->∃d g t z s r v w x y B,ds[i]?=H d/\a=Aa g/\(∀V,A0 W V->(A6 V g (i*5) (C Y t)/\A6 V g (i*5+1) (C Y z)/\A6 V g (i*5+2) (.string s)/\A6 V g (i*5+3) (T r v w)/\A6 V g (i*5+4) (T x y B))/\Ar As (fR o) #[Ag #[C Y t,C Y z,.string s,T r v w,T x y B]] V (E4 (f d) V))):=λi hi=>by
  obtain⟨d,m⟩:∃d,ds[i]?=H d:=⟨_,D3 E⟩
  obtain⟨ah,hs,A⟩:=ha i d m;obtain⟨t,z,s,r,v,w,x,y,B,e⟩:=A.shape;injection e with e;subst e;obtain⟨g,ea,N,q⟩:=HC i _ E hs;have ae:O (f d)<=999999999:=by have h1:=Re f m;grind [Tl]
  refine⟨d,g,t,z,s,r,v,w,x,y,B,m,ea,λV R=>⟨?_,ih V _ d (λj S=>CK (hF j S) R.size) (A.same (λ_ ab=>ab) (λj S=>R.block j (hF j S))) ae⟩⟩;have p:=R.block g (hF g N);exact⟨q V p 0 B8,q V p 1 B8,q V p 2 B8,q V p 3 B8,q V p 4 B8⟩
 have HL:D (∀i,O (h0++(ds.take i).flatMap f)<=999999999):=λi=>by grind [Tl]
 have HT:D (ds.flatMap f=(ds.take n).flatMap f):=by grind [D]
 rw[AE HT];rw[hN]at c b hn ⊢;have HS:D (∀i d,ds[i]?=H d->h0++(ds.take (i+1)).flatMap f=(h0++(ds.take i).flatMap f)++f d):=λi d m=>by rw[Re f m,KD]
 unfold Ce Cm at *;obtain⟨L,Q⟩:∃L:I->Aq->Aq->X->Prop,L=(λg zs zi wr=>∃(i:I) (l:A1),zs=Ae ⟨Aw l⟩/\zi=C Y i/\D (i+g=n)/\D (l=h0++(ds.take i).flatMap f)/\D (ED W #[C Y 6,C Y 0,Ae ⟨#[]⟩,T Ao 0 0,T a n P] wr)):=⟨_,rfl⟩
 cases o
 all_goals dsimp only[fR,cond]at *
 case' false =>
  go_enter func86,ntmps86
  go_wp2_with(first|(go_at_call 120;refine(c _).mono ?_;rintro e w2 ⟨rfl,h⟩;unfold CQ))
  go_loopg[3,4] n L
 case' true =>
  go_enter func87,ntmps87
  go_wp2_with(first|(go_at_call 126;refine(c _).mono ?_;rintro e w2 ⟨rfl,h⟩;unfold CQ))
  go_loopg[4,5] n L
 all_goals try(rw[Q];exact⟨0,h0,rfl,rfl,Bg,BL,b.next h⟩)
 all_goals
  obtain⟨i,l,rfl,rfl,N,ad,b⟩:=Q▸hrel;have c4:=Cb b.box 4;obtain _|g:=gk
  .obtain rfl:i=n:=AE N;have ag:¬(i:J)<(i:J):=E;go_wp2;go_ret;rw[<-AE ad];exact⟨Z,b.below⟩
  have af:i<n:=AY (AE N);have ag:(i:J)<(n:J):=E;obtain⟨d,gb,t,z,s,r,v,w,x,y,B,m,rfl,hk⟩:=aa.out i af;obtain⟨⟨k0,k1,k2,k3,k4⟩,ck⟩:=hk _ b.below;have HN:D (h0++(ds.take (i+1)).flatMap f=l++f d):=by grind [D]
  have ai:¬(O l+O (f d)>9223372036854775807):=by grind [D]
  go_wp2_with(first|((first|go_at_call 86|go_at_call 87);refine ck.mono ?_;rintro e w3 ⟨rfl,ac⟩;unfold CQ))
  go_roundg g
  case measure=>omega
  case rel=>rw[Q];exact⟨i+1,l++f d,by rw[<-EL],Bb,B9,HN.symm,b.next ac⟩
theorem CP.key{key:Lit}(h:es[i]?=H (key,d))(e:key=.string l):es[i]?=H (.string l,d):=e▸h
theorem gV(B:AK){KH:I->A1}(hF:∀j,F j->j<K (U W))(hq:DH W 9 1 F kv (O es) (es.map N9))(hr:DH W 101 5 F u (O es) xs)(ha:∀(i:I) (key:Lit) (d:A2),es[i]?=H (key,d)->∃l a,key=.string l/\Ha xs i a/\CP k W F (.agg a) d)(hl:O (h0++es.flatMap λe=>(KH (O (CX e.1))++CX e.1)++f e.2)<=999999999)(c:∀V,Ar As (bif B then 126 else 120) (bif B then#[C Y 128,C Y 222,C Y (O es)]else#[C Y 5,C Y (O es)]) V (E4 h0 V))(cK:∀(V:X) (l:A1),O l<=999999999->Ar As (bif B then 122 else 120) (bif B then#[C Y (O l)]else#[C Y 3,C Y (O l)]) V (E4 (KH (O l)) V))(ih:∀(V:X) (a:A3) (d:A2),(∀j,F j->j<K (U V))->CP k V F (.agg a) d->O (f d)<=999999999->Ar As (fR B) #[.agg a] V (E4 (f d) V)):Ar As (fR B) #[.agg (Ce 7 0 ⟨#[]⟩ kv u)] W (E4 (h0++es.flatMap λe=>(KH (O (CX e.1))++CX e.1)++f e.2) W):=by
 obtain⟨hn,a,b,rfl,HC⟩:=Mk hr;obtain⟨ac,S,rfl,HQ⟩:=WO hq;obtain⟨q,ah⟩:∃q:Lit×AM Unit->A1,D ((λe=>(KH (O (CX e.1))++CX e.1)++f e.2)=q):=⟨_,show _=_ from rfl⟩
 rw[AE ah]at hl ⊢;have R:D (ED W (Ce 7 0 ⟨#[]⟩ (T ac (O es) S) (T a (O es) b)) (Az W (M (Ce 7 0 ⟨#[]⟩ (T ac (O es) S) (T a (O es) b)) 101))):=K1;obtain⟨n,hN⟩:=Dx (O es);have aj:D (∀i,i<n->∃e l r g gk w z s v x y L N P,es[i]?=H e/\q e=(KH (O l)++l)++r/\a=Aa g/\ac=Aa gk/\(∀V,A0 W V->A6 V gk i (Ae ⟨Aw l⟩)/\(A6 V g (i*5) (C Y w)/\A6 V g (i*5+1) (C Y z)/\A6 V g (i*5+2) (.string s)/\A6 V g (i*5+3) (T v x y)/\A6 V g (i*5+4) (T L N P))/\Ar As (fR B) #[Ag #[C Y w,C Y z,.string s,T v x y,T L N P]] V (E4 r V))):=λi hi=>by
  obtain⟨⟨key,d⟩,Q⟩:∃e,es[i]?=H e:=⟨_,D3 E⟩
  obtain⟨l,aw,au,hs,hA⟩:=ha i key d Q;subst au;obtain⟨w,z,s,v,x,y,L,N,P,e⟩:=hA.shape;injection e with e;subst e;obtain⟨g,ea,hg,hc⟩:=HC i _ E hs;obtain⟨gk,eb,aq,an⟩:=HQ i l d Q;have ai:q (.string l,d)=(KH (O l)++l)++f d:=by rw[<-AE ah];rfl
  have ap:O (f d)<=999999999:=by have h1:=Re q Q;grind [Tl]
  refine⟨(.string l,d),l,f d,g,gk,w,z,s,v,x,y,L,N,P,Q,ai,ea,eb,λV h=>⟨an V (h.block gk (hF gk aq)),?_,ih V _ d (λj hj=>CK (hF j hj) h.size) (hA.same (λ_ al=>al) (λj hj=>h.block j (hF j hj))) ap⟩⟩;have hb:=h.block g (hF g hg);exact⟨hc V hb 0 B8,hc V hb 1 B8,hc V hb 2 B8,hc V hb 3 B8,hc V hb 4 B8⟩
 have HL:D (∀i,O (h0++(es.take i).flatMap q)<=999999999):=λi=>by grind [Tl]
 have HT:D (es.flatMap q=(es.take n).flatMap q):=by grind [D]
 rw[AE HT];rw[hN]at c R hn ⊢;have HS:D (∀i d,es[i]?=H d->h0++(es.take (i+1)).flatMap q=(h0++(es.take i).flatMap q)++q d):=λi d Q=>by rw[Re q Q,KD]
 unfold Ce at *;obtain⟨ab,af⟩:∃ab:I->Aq->Aq->X->Prop,ab=(λg zs zi wr=>∃(i:I) (A:A1),zs=Ae ⟨Aw A⟩/\zi=C Y i/\D (i+g=n)/\D (A=h0++(es.take i).flatMap q)/\D (ED W #[C Y 7,C Y 0,Ae ⟨#[]⟩,T ac n S,T a n b] wr)):=⟨_,rfl⟩
 cases B
 all_goals dsimp only[fR,cond]at *
 case' false =>
  go_enter func86,ntmps86
  go_wp2_with(first|(go_at_call 120;refine(c _).mono ?_;rintro e w2 ⟨rfl,ad⟩;unfold CQ))
  go_loopg[5,6] n ab
 case' true =>
  go_enter func87,ntmps87
  go_wp2_with(first|(go_at_call 126;refine(c _).mono ?_;rintro e w2 ⟨rfl,ad⟩;unfold CQ))
  go_loopg[6,7] n ab
 all_goals try(rw[af];exact⟨0,h0,rfl,rfl,Bg,BL,R.next ad⟩)
 all_goals
  obtain⟨i,A,rfl,rfl,hg,ao,R⟩:=af▸hrel;have c4:=Cb R.box 4;obtain _|g:=gk
  .obtain rfl:i=n:=AE hg;have av:¬(i:J)<(i:J):=E;go_wp2;go_ret;rw[<-AE ao];exact⟨Z,R.below⟩
  have ar:i<n:=AY (AE hg);have av:(i:J)<(n:J):=E;obtain⟨ee,l,r,t,gk,w,z,s,v,x,y,L,N,P,Q,ai,rfl,rfl,hk⟩:=aj.out i ar;obtain⟨c1,ax⟩:=CA (A++KH (O l));obtain⟨cc,ay⟩:=CA (c1++l);have HN:D (h0++(es.take (i+1)).flatMap q=cc++r):=by grind [D]
  have ag:O l<=999999999/\¬(O A+O (KH (O l))>9223372036854775807)/\¬(O c1+O l>9223372036854775807)/\¬(O cc+O r>9223372036854775807):=by grind [D]
  obtain⟨ag,g1,g2,g3⟩:=ag;have HK:D (∀V,ED W #[C Y 7,C Y 0,Ae ⟨#[]⟩,T (Aa gk) n S,T (Aa t) n b] V->A6 V gk i (Ae ⟨Aw l⟩)/\(A6 V t (i*5) (C Y w)/\A6 V t (i*5+1) (C Y z)/\A6 V t (i*5+2) (.string s)/\A6 V t (i*5+3) (T v x y)/\A6 V t (i*5+4) (T L N P))/\Ar As _ #[Ag #[C Y w,C Y z,.string s,T v x y,T L N P]] V (E4 r V)):=λV h=>hk V h.below;have ck:=λV=>cK V l ag
  go_wp2_with fail
  refine Dl R.drew B6 ?_;intro m;refine MQ 0 (Ae ⟨Aw A⟩) m ?_;refine MQ 1 (A9 (K (U W)) 3) m ?_;refine IY 2 (T (Aa gk) n S) Z (λp o=>?y2) m ?_
  case y2=>(have hz:=Cb o.box 3;go_simp)
  refine MQ 3 (C Y i) m ?_;refine IY 4 (A9 gk i) Z (λp o=>?y4) m ?_
  case y4=>go_simp
  refine IY 5 (Ae ⟨Aw l⟩) Z (λp o=>?y5) m ?_
  case y5=>(have hz:=(HK p o).1;go_simp)
  refine IY 6 (C Y (O l)) Z (λp o=>?y6) m ?_
  case y6=>go_simp
  refine MQ 9 (A9 (K (U W)) 3) m ?_;refine IY 10 (T (Aa gk) n S) Z (λp o=>?z2) m ?_
  case z2=>(have hz:=Cb o.box 3;go_simp)
  refine MQ 11 (C Y i) m ?_;refine IY 12 (A9 gk i) Z (λp o=>?z4) m ?_
  case z4=>go_simp
  refine IY 13 (Ae ⟨Aw l⟩) Z (λp o=>?z5) m ?_
  case z5=>(have hz:=(HK p o).1;go_simp)
  refine MQ 15 (A9 (K (U W)) 4) m ?_;refine IY 16 (T (Aa t) n b) Z (λp o=>?x2) m ?_
  case x2=>(have hz:=Cb o.box 4;go_simp)
  refine MQ 17 (C Y i) m ?_;refine IY 18 (A9 t (i*5)) Z (λp o=>?x4) m ?_
  case x4=>go_simp
  refine IY 19 (Ag #[C Y w,C Y z,.string s,T v x y,T L N P]) Z (λp o=>?x5) m ?_
  case x5=>(obtain⟨k0,k1,k2,k3,k4⟩:=(HK p o).2.1;go_simp)
  refine CC 7 (λak hK=>?_);go_simp;refine(ck _).mono ?_;rintro e w2 ⟨rfl,ad⟩;have aa:=m.next ad
  refine hK.out _ _ aa (λ_=>?_);refine IY 8 (CQ c1) Z (λp o=>?u1) aa ?_
  case u1=>(unfold CQ;go_simp;grind [D,EL])
  refine IY 14 (CQ cc) Z (λp o=>?u2) aa ?_
  case u2=>(unfold CQ;go_simp;grind [D,EL])
  refine CC 20 (λak hK=>?_);go_simp;refine(HK _ aa).2.2.mono ?_;rintro e w3 ⟨rfl,am⟩;have ae:=aa.next am
  refine hK.out _ _ ae (λ_=>?_);refine IY 21 (CQ (cc++r)) Z (λp o=>?u3) ae ?_
  case u3=>(unfold CQ;go_simp;exact EL)
  refine MQ 22 (CQ (cc++r)) ae ?_;refine CG ?_;go_wp2;go_roundg g
  case measure=>omega
  case rel=>rw[af];exact⟨i+1,_,Z,Bb,B9,HN.symm,ae⟩
theorem xp(h:A2->AK)(hF:∀j,F j->j<K (U W))(hr:DH W 101 5 F u (O ds) xs)(ha:∀(i:I) (d:A2),ds[i]?=H d->∃a,Ha xs i a/\CP k W F (.agg a) d)(hl:O (([91]++Dd f ds)++[93])<=149999999)(ih:∀(V:X) (a:A3) (d:A2),(∀j,F j->j<K (U V))->CP k V F (.agg a) d->O (f d)<=149999999->Ar As 85 #[.agg a] V (I5 (h d) (f d) V)):Ar As 85 #[.agg (Ce 6 0 ⟨#[]⟩ Cm u)] W (I5 (ds.any h) (([91]++Dd f ds)++[93]) W):=by
 obtain⟨hn,a,aa,rfl,HC⟩:=Mk hr;have c:D (ED W (Ce 6 0 ⟨#[]⟩ Cm (T a (O ds) aa)) (Az W (M (Ce 6 0 ⟨#[]⟩ Cm (T a (O ds) aa)) 101))):=K1;obtain⟨n,hN⟩:=Dx (O ds);have ao:O (Dd f ds)+2<=149999999:=B9;have af:D (∀i,i<n->∃e l m g q z s p r t v w y,ds[i]?=H e/\f e=l/\h e=m/\a=Aa g/\(∀V,A0 W V->(A6 V g (i*5) (C Y q)/\A6 V g (i*5+1) (C Y z)/\A6 V g (i*5+2) (.string s)/\A6 V g (i*5+3) (T p r t)/\A6 V g (i*5+4) (T v w y))/\Ar As 85 #[Ag #[C Y q,C Y z,.string s,T p r t,T v w y]] V (I5 m l V))):=λi hi=>by
  obtain⟨d,m⟩:∃e,ds[i]?=H e:=⟨_,D3 E⟩
  obtain⟨al,hs,hA⟩:=ha i d m;obtain⟨q,z,s,p,r,t,v,w,y,e⟩:=hA.shape;injection e with e;subst e;obtain⟨g,ea,S,P⟩:=HC i _ E hs;have h1:=Tw f m;refine⟨d,f d,h d,g,q,z,s,p,r,t,v,w,y,m,Z,Z,ea,λV o=>⟨?_,ih V _ d (λj hj=>CK (hF j hj) o.size) (hA.same (λ_ h=>h) (λj hj=>o.block j (hF j hj))) E⟩⟩;have N:=o.block g (hF g S);exact⟨P V N 0 B8,P V N 1 B8,P V N 2 B8,P V N 3 B8,P V N 4 B8⟩
 rw[hN]at c hn;unfold Ce Cm at *;go_enter func85,ntmps85;rw[hN];go_wp2
 go_loopg[4,5] n (λg zs zi wr=>∃(i:I) (b:A1),zs=Ae ⟨Aw b⟩/\zi=C Y i/\D (i+g=n)/\D (b=Dd f (ds.take i))/\D ((ds.take i).any h=AQ)/\D (ED W #[C Y 6,C Y 0,Ae ⟨#[]⟩,T Ao 0 0,T a n aa] wr))
 case atStart=>exact⟨0,[],rfl,rfl,Bg,rfl,rfl,c⟩
 case round =>
  obtain⟨i,b,rfl,rfl,S,ad,am,c⟩:=hrel;have c0:=Cb c.box 0;have c3:=Cb c.box 3;have c4:=Cb c.box 4;obtain _|g:=gk
  .obtain rfl:i=n:=AE S;have ai:¬(i:J)<(i:J):=E;have an:O b+2<=149999999:=by grind [D]
   have g1:¬(1+O b>9223372036854775807):=E;have g2:¬(1+O b+1>9223372036854775807):=E;have R:D (ds.any h=AQ/\Dd f ds=b):=B9;go_wp2;refine CL (Fw results85 _ _ _) Z ?_;unfold I5;rw[R.1,R.2];refine⟨?_,c.below⟩;exact congrArg (λak=>Ending.returned (Value.tuple #[.string ak,Ah AP])) (fM 91 93)
  have ah:i<n:=AY (AE S);have ai:(i:J)<(n:J):=E;obtain⟨ee,l,m,gb,q,z,s,p,r,t,v,w,y,ab,ae,ag,rfl,hk⟩:=af.out i ah;have ac:=hk;obtain⟨⟨k0,k1,k2,k3,k4⟩,_⟩:=ac _ c.below;have aj:=Tw f ab;rw[<-AE ad,ae]at aj;have g0:¬(O b+1>9223372036854775807):=E;have g1:¬(O b+O l>9223372036854775807):=E;have g2:¬(O b+1+O l>9223372036854775807):=E;have B:=c;cases m
  .have Q:D (∀V,A0 W V->Ar As 85 #[Ag #[C Y q,C Y z,.string s,T p r t,T v w y]] V λe W'=>e=Ak (Af #[Ae ⟨Aw l⟩,Ah AP])/\A0 V W'):=λV o=>(ac V o).2;have HA:D ((ds.take (i+1)).any h=AQ):=by grind [fN]
   by_cases h0:0<i
   .have x:D (Dd f (ds.take (i+1))=(b++[44])++l):=by grind [D,Rk]
    have A:0<(i:J):=E
    go_wp2_with(first
    |(go_at_call 85;refine(Q _ B.below).mono ?_;rintro e w3 ⟨rfl,L⟩))
    go_roundg g
    case measure=>omega
    case rel=>exact⟨i+1,_,kff,Bb,B9,x.symm,HA,B.next L⟩
   obtain rfl:i=0:=E;have x:D (Dd f (ds.take (0+1))=b++l):=by show _=_;rw[Rj _ ab,AE ad,ae];rfl
   go_wp2_with(first
   |(go_at_call 85;refine(Q _ B.below).mono ?_;rintro e w3 ⟨rfl,L⟩))
   go_roundg g
   case measure=>omega
   case rel=>exact⟨0+1,_,by rw[<-EL],Bb,B9,x.symm,HA,B.next L⟩
  have Q:D (∀V,A0 W V->Ar As 85 #[Ag #[C Y q,C Y z,.string s,T p r t,T v w y]] V λe W'=>e=Ak (Af #[Ae ⟨#[]⟩,Ah AQ])/\A0 V W'):=λV o=>(ac V o).2;have R:=G (Th _ ab ag);have A:(0<(i:J))\/¬(0<(i:J)):=E;rcases A with A|A
  all_goals
   go_wp2_with(first
   |(go_at_call 85;refine(Q _ B.below).mono ?_;rintro e w3 ⟨rfl,L⟩))
   refine CL (Fw results85 _ _ _) Z ?_;unfold I5;rw[AE R];exact⟨rfl,(B.next L).below⟩
theorem xt(d:A6 W 8 15 (C Am 4)):Ar As 248 #[C .u64 16] W λe a=>e=Ak (C Y 4)/\a=W:=by have b:IntKind.u64.wrap (-16)=18446744073709551600:=B6;have c:bits .and .u64 16 18446744073709551600=16:=B6;go_enter func248,ntmps248;go_wp2;go_ret;exact⟨Z,Z⟩
theorem xu(b:A6 W 8 15 (C Am 4)):Ar As 239 #[C .u64 16] W λe a=>e=Ak (C Y 4)/\a=W:=by
 have c:=xt b;go_enter func239,ntmps239
 go_wp2_with(first|(go_at_call 248;refine c.mono ?_;rintro e d ⟨rfl,rfl⟩))
 go_ret;exact⟨Z,Z⟩
theorem xv(W:X):Ar As 238 #[C Y 16] W λe a=>e=Ak (Ah AP)/\a=W:=by have b:bits .and Y 16 15=0:=B6;go_enter func238,ntmps238;go_wp2;go_ret;exact⟨Z,Z⟩
def hxL(u:AH):A1:=if u<16 then[Eb u]else hxL (u/16)++[Eb (u%16)]
theorem Rw{u:I}(h:u<16):hxL u=[Eb u]:=by rw[hxL,Cn h]
theorem TJ{u:I}(h:¬u<16):hxL u=hxL (u/16)++[Eb (u%16)]:=by rw[hxL,Ci h]
theorem Xu:∀(k u:I),u<16^(k+1)->O (hxL u)<=k+1
 |0,u,h=>by grind [Rw]
 |k+1,u,h=>by
  by_cases a:u<16
  .rw[Rw a];simp
  rw[TJ a,Dc];have b:u/16<16^(k+1):=E;have:=Xu k (u/16) b;simp;omega
structure LH(W:World)(tl:A1)(V:World):Prop where
 below:A0 W V
 arr:V.heap[W.heap.size]?=some (.cells ((List.replicate (65-tl.length) (0:UInt8)++tl).map CJ).toArray 366)
 le:tl.length<=65
theorem gY{x:I}(hx:x<16)(V:X):(Instr.index 9 (Ae ⟨#[48,49,50,51,52,53,54,55,56,57,97,98,99,100,101,102,103,104,105,106,107,108,109,110,111,112,113,114,115,116,117,118,119,120,121,122]⟩) (C .u64 x)).run As V=.ok (C Am ((Eb x).toNat:J)) V:=kfl
theorem xw{a:I}(c:a<18446744073709551616):bits .and .u64 (a:J) 15=((a%16:I):J):=by
 have h:(BitVec.ofNat 64 a&&&BitVec.ofNat 64 15).toNat=a%16:=by rw[Z0,NT,NT,LU E,LU E];exact Yw a 4
 have b:BitVec.ofInt 64 (a:J)=BitVec.ofNat 64 a:=NO ..;show IntKind.u64.wrap ((BitVec.ofInt 64 (a:J)&&&BitVec.ofNat 64 15).toNat:J)=_;grind [IntKind.wrap,IntKind.bits]
theorem LH.cell(h:LH W tl V)(a:j+1+O tl=65):AC V ⟨K (U W),j,Ao⟩=H (C Am 0):=by have:=Cb h.arr j;rw[this];simp[show j<65-O tl by omega,List.getElem?_append,CJ]
theorem LH.set(h:LH W tl V)(c:j+1+O tl=65)(b:AU):LH W (b::tl) (AB V ⟨K (U W),j,Ao⟩ (CJ b)):=by refine⟨h.below.setCell (Co _) _,?_,B7⟩;rw[DQ V _ _ _ _ _ h.arr];have a:65-O tl=j+1:=E;grind [List.map_replicate,List.replicate_succ',List.set_append_right]
theorem LH.str(h:LH W tl V){c:I}(hi:i+O tl=65):(convert 50 9 (T (H ⟨K (U W),i,Ao⟩) (O tl) c)).run As V=.ok (Ae ⟨Aw tl⟩) V:=by refine Q9 V 50 9 5 ⟨K (U W),i,Ao⟩ c tl underlying50 underlying5 underlying9 ?_;intro j a;have e:(⟨K (U W),i,Ao⟩:Addr).add j=⟨K (U W),i+j,Ao⟩:=BR;rw[e];have:=Cb h.arr (i+j);grind [CJ]
theorem LH.thaw(h:LH W tl V)(j:I):V.frozen? ⟨K (U W),j,Ao⟩=AQ:=by have:=h.arr;simp[World.frozen?,this]
theorem xy(V:X)(N j n:I)(h:j+n=65)(b:0<n):(Instr.sliceAt 366 (A8 N) (H (C Y j)) Ao Ao).run As V=.ok (T (H ⟨N,j,Ao⟩) n n) V:=by rw[run_sliceAt_array_l V 366 ⟨N,0,Ao⟩ B6 Y j E (by show(j:J)<=65;omega)];have e:prog.arrayLen 366=65:=B6;have a:(sizeOf (prog.elem 366)).run As V=.ok 1 V:=B6;grind [Addr.add,Result.andThen_ok,slicedAt]
theorem xz{u:I}(S:u<18446744073709551616)(hz:A6 W 8 15 (C Am 4)):Ar As 222 #[T Ao 0 0,C .u64 u,C Y 16,Ah AQ,Ah AQ] W λe m=>e=Ak (Af #[T Ao 0 0,Ae ⟨Aw (hxL u)⟩])/\A0 W m:=by
 have N:8<K (U W):=by grind [World.cell?]
 have w:=λV=>xv V;have z:∀V,A0 W V->Ar As 239 #[C .u64 16] V λe m=>e=Ak (C Y 4)/\m=V:=λV B=>xu ((B.cell N).trans hz);go_enter func222,ntmps222
 go_wp2_with(first
  |(go_at_call 238;refine(w _).mono ?_;rintro e w2 ⟨rfl,rfl⟩)
  |(go_at_call 239;refine(z _ Cl).mono ?_;rintro e w3 ⟨rfl,rfl⟩))
 go_loopg[1,13] 16 (λg x y wr=>∃(d i:I) (a:A1),x=C .u64 d/\y=C Y i/\D (i+O a=65)/\D (hxL u=hxL d++a)/\D (d<16^g)/\D (O a+g<=16)/\D (LH W a wr))
 case atStart =>
  exact⟨u,65,[],Z,Z,Z,BL,S,Co 16,⟨Cl,(Cj W).trans B6,En _⟩⟩
 case round =>
  obtain⟨d,i,a,rfl,rfl,f,HH,r,s,h⟩:=hrel;obtain⟨j,rfl⟩:∃j,i=j+1:=⟨i-1,by grind [D]⟩
  have hj:j<65:=AY (AE f);have F:d<18446744073709551616:=by have h1:=AE r;have h2:=AE s;have h3:16^gk<=16^16:=NP E E;omega
  have p:=G (xw F);have hc:=h.cell f;have aa:=h.thaw j;by_cases Q:d<16
  .have A:AR ((16:J)<=d)=AQ:=B7;have l:D (hxL u=Eb d::a):=by grind [Rw]
   obtain⟨b,k⟩:=CA (Eb d);have P:=λV=>AE k▸gY Q V;have R:=λV=>xy V (K (U W)) j (O (b::a)) (by grind [D]) Ba;have L:(convert 50 9 (T (H ⟨K (U W),j,Ao⟩) (O (b::a)) (O (b::a)))).run As (AB wr ⟨K (U W),j,Ao⟩ (C Am (b.toNat:J)))=.ok (Ae ⟨Aw (b::a)⟩) (AB wr ⟨K (U W),j,Ao⟩ (C Am (b.toNat:J))):=(h.set f b).str (i:=j) (c:=O (b::a)) (by grind [D]);have v:=G (h.set f b);have q:=G (AE k▸AE l);obtain⟨ab,t⟩:=CA (O (b::a));rw[AE t]at R L
   go_wp2_with fail
   refine CL (Fw results222 _ _ _) Z ⟨?_,v.below⟩;rw[AE q];rfl
  have A:AR ((16:J)<=d)=AP:=B7;obtain⟨x,o⟩:=CA (d%16);have n:x<16:=AY (AE o);obtain⟨b,k⟩:=CA (Eb x);have P:=λV=>AE k▸gY n V;have l:D (hxL u=hxL (d/16)++b::a):=by grind [D,TJ]
  have ha:=AE o▸AE p;have HK:D (16<=d):=Bp
  go_wp2_with fail
  obtain _|g:=gk
  .grind [D]
  go_roundg g
  case measure=>omega
  case rel =>
   refine⟨d/16,j,b::a,Bb,Bb,?_,l,?_,?_,h.set f b⟩
   .grind [D]
   .grind [D]
   grind [D]
theorem xA{u:I}(d:u<18446744073709551616)(f:A6 W 8 15 (C Am 4)):Ar As 229 #[C .u64 u,C Y 16] W λe a=>e=Ak (Ae ⟨Aw (hxL u)⟩)/\A0 W a:=by
 have c:=xz d f;go_enter func229,ntmps229
 go_wp2_with(first|(go_at_call 222;refine c.mono ?_;rintro e g ⟨rfl,b⟩))
 go_ret;exact⟨Z,b⟩
theorem xB{u:I}(d:u<18446744073709551616)(f:A6 W 8 15 (C Am 4)):Ar As 217 #[C .u64 u,C Y 16] W λe a=>e=Ak (Ae ⟨Aw (hxL u)⟩)/\A0 W a:=by
 have c:=xA d f;go_enter func217,ntmps217
 go_wp2_with(first|(go_at_call 229;refine c.mono ?_;rintro e g ⟨rfl,b⟩))
 go_ret;exact⟨Z,b⟩
def Mx(u:AH):A1:=_root_.List.replicate (16-At (hxL u)) 48++hxL u
theorem xC{u:I}(a:u<18446744073709551616):O (Mx u)=16:=by have:=Xu 15 u a;simp[Mx];omega
theorem xD:repeatL [48] n=_root_.List.replicate n 48:=by induction n<;>grind [repeatL]
theorem xE{u:I}(g:u<18446744073709551616)(p:A6 W 8 15 (C Am 4)):Ar As 205 #[C .u64 u] W λe j=>e=Ak (Ae ⟨Aw (Mx u)⟩)/\A0 W j:=by
 have c:=xB g p;have o:=Xu 15 u g;obtain⟨l,b⟩:=CA (hxL u);rw[AE b]at c o;obtain⟨n,h⟩:=CA (16-O l);have a:D (O l+n=16):=by grind [D]
 obtain⟨r,d⟩:=CA (repeatL [48] n);have i:=G ((xD).symm.trans d);have k:=λV=>AE d▸Tryz.strings_Repeat ⟨#[48]⟩ n V (AY (AE a)) (by have:=AE a;show 1*n<=_;omega);have q:¬9223372036854775807<O r+O l:=by grind [D]
 have s:(16:J)-O l=n:=AY (AE a);go_enter func205,ntmps205
 go_wp2_with(first
  |(go_at_call 217;refine c.mono ?_;rintro e t ⟨rfl,f⟩)
  |(go_at_call 218;refine(k _).mono ?_;rintro e v ⟨rfl,m⟩))
 go_ret;refine⟨?_,f.trans (m.mono f.size)⟩;rw[EL,<-AE i,<-AE h,<-AE b];rfl
def Ry(key:AI)(i:AH):AH:=(key/2^(8*i)%256).toNat
theorem xF(key:J)(i:I):Ry key i<256:=by unfold Ry;omega
def JB(key:AI):AH->AH
 |0=>14695981039346656037
 |k+1=>Mw (JB key k) (Ry key k)
theorem TK(key:J):∀k,JB key k<18446744073709551616
 |0=>by show 14695981039346656037<_;omega
 |k+1=>PR
def I9(s:AH):A1->AH
 |[]=>s
 |b::t=>I9 (Mw s b.toNat) t
theorem TL:∀(l:A1) (s:I),s<18446744073709551616->I9 s l<18446744073709551616
 |[],_,h=>h
 |_::t,_,_=>TL t _ (PR)
def JC(key:AI)(label:AH)(l:A1):A1:=Mx (I9 (Mw (JB key 8) label) l)
theorem PS(h:Ck W base v bs):∃c a,v=T c (O bs) a/\Fi W c bs:=by
 have d:=h;obtain⟨⟨k,b⟩,_,_⟩:=h;rcases b with⟨rfl,b⟩|⟨g,a,j,rfl,_,e,l,m,_⟩
 .refine⟨Ao,0,by rw[b],⟨λi f=>E,E⟩⟩
 have n:=O7 d;refine⟨_,a,Z,⟨λi f=>⟨g,0,Z,(Cc e),B9⟩,E⟩⟩
theorem xG(key:J)(k:I)(W:X):Ar As 204 #[C .u64 (JB key k),C Am (key/2^(8*k)%256)] W λe a=>e=Ak (C .u64 (JB key (k+1)))/\a=W:=by
 have h:=Xt (TK key k) (xF key k) W;have e:((Ry key k:I):J)=key/2^(8*k)%256:=by unfold Ry;omega
 rw[e]at h;exact h
theorem xH(key:J)(i:I)(aa:i<256){x:Aq}(hF:∀j,F j->j<K (U W))(h:Cv k W F x d)(hl:O (Do k d)<=999999999)(hz:A6 W 8 15 (C Am 4)):Ar As 181 #[C Y key,C Y i,x] W λe f=>e=Ak (Ae ⟨Aw (JC key i (Do k d))⟩)/\A0 W f:=by
 have hg:8<K (U W):=by grind [World.cell?]
 have Q:=λk V=>xG key k V;have R:=λV=>Xt (TK key 8) aa V;have q:=eK hF h hl;have P:∀V u,A0 W V->u<18446744073709551616->Ar As 205 #[C .u64 (u:I)] V λe f=>e=Ak (Ae ⟨Aw (Mx u)⟩)/\A0 V f:=λV u hV hu=>xE hu ((hV.cell hg).trans hz);obtain⟨ab,y,rfl⟩:=h.iface;obtain⟨a,A⟩:=CA (Do k d);rw[AE A]at q hl ⊢;have N:Ar As 82 #[C Y 2,Ai ab y] W λe f=>∃p r,e=Ak (T p (O a) r)/\D (Fi f p a)/\A0 W f:=q.mono (by grind [D,PS]);obtain⟨S,l⟩:=CA (I9 (Mw (JB key 8) i) a);have L:D (JC key i a=Mx S):=by show Mx _=_;rw[AE l]
 have m:D (Mw (JB key 8) i<18446744073709551616):=PR;rw[AE L];go_enter func181,ntmps181
 go_wp2_with fail
 go_loopg[7,11] 8 (λg x y wr=>∃(k:I),D (k+g=8)/\x=C .u64 (JB key k)/\y=C Y k/\W=wr)
 case atStart =>
  exact⟨0,Z,Z,Z,Z⟩
 case round =>
  obtain⟨k,b,rfl,rfl,rfl⟩:=hrel;obtain _|g:=gk
  .have v:k=8:=AY (AE b);subst v
   go_wp2_with(first
    |(go_at_call 204;refine(R _).mono ?_;rintro e w2 ⟨rfl,rfl⟩)
    |(go_at_call 82;refine N.mono ?_;rintro e w3 ⟨p,r,rfl,z,n⟩))
   go_loopg[7,29] (O a) (λg x y wr=>∃(k s:I),D (k+g=O a)/\x=C .u64 s/\y=C Y k/\D (I9 s (a.drop k)=S)/\D (s<18446744073709551616)/\w3=wr)
   case atStart=>exact⟨0,_,Bg,rfl,rfl,l,m,rfl⟩
   case round =>
    obtain⟨k,s,b,rfl,rfl,l,m,rfl⟩:=hrel;obtain _|g:=gk
    .have hk:¬(k:J)<O a:=AY (AE b);have hs:s=S:=by have:=AE l;rw[RU (AY (AE b))]at this;exact this
     subst hs;have c:=P _ s n m
     go_wp2_with(first
      |(go_at_call 205;refine c.mono ?_;rintro e w5 ⟨rfl,t⟩))
     go_ret;exact⟨Z,n.trans (t.mono n.size)⟩
    have w:k<O a:=AY (AE b);have hk:(k:J)<O a:=E;obtain⟨b0,off,e1,e2,e3⟩:=z.at_ k w;subst e1;have o:=AE l;rw[KA w]at o;obtain⟨c,hc⟩:=Dx (a[k]);rw[hc]at e3 o;have cW:=λV=>Xt m (UInt8.toNat_lt c) V;have B:D (I9 (Mw s c.toNat) (a.drop (k+1))=S):=o
    go_wp2_with(first
     |(go_at_call 204;refine(cW _).mono ?_;rintro e w5 ⟨rfl,rfl⟩))
    go_roundg g
    case measure=>omega
    case rel=>exact⟨k+1,_,B9,rfl,Bb,B,PR,rfl⟩
  have v:k<8:=AY (AE b);have ac:(k:J)<8:=E;have c:=Q k
  go_wp2_with(first
   |(go_at_call 204;refine(c _).mono ?_;rintro e w2 ⟨rfl,rfl⟩))
  go_roundg g
  case measure=>omega
  case rel=>exact⟨k+1,B9,rfl,Bb,rfl⟩
end
section
open Go.RowKit Go.Shelf
def iP(c:CD)(w:Ap)(A:A3)(w':Ap):Prop:=A.size=38/\A.all (·.oneCell')=AP/\(GI c=0->EV c.labels c.L=AP/\∃a k cap,A=JF (Di c.labels.toNat (DY c.labels.toNat c.L)) a k cap/\∃lo',Au (Av w)<=lo'/\Ku w' lo' (Ac a k cap) ((EN c.pol.data.toList).map DX))
theorem zc{c:CD}{w':X}(h:¬GI c=0):iP c w Gm w':=⟨RD,iJ,λe=>absurd e h⟩
def zd(c:CD)(w:Ap)(e:Ending)(w':Ap):Prop:=∃A,e=Ak (Af #[.agg A,Ab Al (GI c),Ab Al (Kt c)])/\iP c w A w'/\A0 w w'
def iQ(n:AH)(s:AT):AI:=F1 n s.data.toList
def ze(n:AH)(s:AT)(w:Ap)(a:A4)(m cap:AH)(w':Ap):Prop:=iQ n s=0->Ku w' (Au (Av w)) (Ac a m cap) ((EN s.data.toList).map DX)
theorem zf(s:AT)(n:I)(h:Jg w):Ar As 94 #[.string s,C Y n] w λe c=>∃a m b,e=Ak (Af #[T a m b,C Y (F1 n s.data.toList),C Y (IC n s.data.toList)])/\A0 w c/\ze n s w a m b c:=by refine(za h).mono ?_;rintro e c ⟨a,m,b,d,f,g⟩;exact⟨a,m,b,d,f,g⟩
theorem zg{c:CD}(n:Gz w c)(hg:Jg w):Ar As 56 #[.agg c.arr] w (zd c w):=by
 have HC:=G n;have HG:=G hg;have HS:=G c.size;have q:=G (yJ w c);have hL:At c.L<=maxLen:=B4 n.eb;have ap:At c.B<=maxLen:=B4 n.bb;have Q:Ar As 92 #[.agg c.arr] (Az (Az w (M c.arr 40)) (M Gm 126)) λe w'=>e=Ak (Af #[.agg (J8 c.labels c.L c.dflt c.clr),C Y (FP c.labels c.L c.dflt c.clr)])/\Below (K (U (Az (Az w (M c.arr 40)) (M Gm 126)))) (Az (Az w (M c.arr 40)) (M Gm 126)) w' :=
  yz c.arr c.labels rfl rfl rfl rfl hL (n.edges.below q.below)
 have v:(J8 c.labels c.L c.dflt c.clr).size=37:=by unfold J8;split<;>exact D8
 have h:(J8 c.labels c.L c.dflt c.clr).all (·.oneCell')=AP:=by unfold J8;split<;>exact GQ
 have k:=G v;have p:=G h;have P:D (CN.size=(J8 c.labels c.L c.dflt c.clr).size):=by show _=_;rw[v];exact D8
 have F:D (FP c.labels c.L c.dflt c.clr=0->EV c.labels c.L=AP/\J8 c.labels c.L c.dflt c.clr=Di c.labels.toNat (DY c.labels.toNat c.L)):=yH;have y:D (¬FP c.labels c.L c.dflt c.clr=0->GI c=FP c.labels c.L c.dflt c.clr/\Kt c=0):=yK;have A:D (FP c.labels c.L c.dflt c.clr=0->GI c=(if FR c.inn c.out c.depth c.bytes=AQ then 4 else if Ho c.B=AQ then 5 else F1 c.labels.toNat c.pol.data.toList)/\Kt c=(if FR c.inn c.out c.depth c.bytes=AQ then 0 else if Ho c.B=AQ then 0 else IC c.labels.toNat c.pol.data.toList)):=λao=>by grind [GI,Kt]
 clear v h n hg;generalize J8 c.labels c.L c.dflt c.clr=O at *;generalize FP c.labels c.L c.dflt c.clr=E0 at *;go_enter func56,ntmps56
 go_wp2_with(first
  |(refine XD Z Z Z (K (U w)+1) ?hN ?_;case hN=>grind [World.size_alloc])
  |(refine CT Z 40 _ Z _ Z _ _ _ _ q.box underlying40 Z (Ec HS) ?_)
  |fail)
 refine Q.mono ?_;clear Q;rintro e a ⟨rfl,V⟩;have N:=G (q.step V);clear V q;have d:D (OI w c (Az a (M O 123))):=N.step Cl;have ai:D ((Az a (M O 123)).heap[K (U a)]?=H (M O 123)):=Cj _;have j:=d;by_cases b:E0=0
 case' neg =>
  obtain⟨ac,ad⟩:=y.out b;have l:=G ac;have m:=G ad;have o:D (¬GI c=0):=B9
 case' pos =>
  subst b;obtain⟨ab,W⟩:=F.out rfl;obtain⟨ac,ad⟩:=A.out rfl;have ah:=G W;have z:=G ab;have h6:(Az a (M O 123)).cell? ⟨K (U w),6,Ao⟩=H (C Y c.inn):=d.cell 6;have h7:(Az a (M O 123)).cell? ⟨K (U w),7,Ao⟩=H (C Y c.out):=d.cell 7;have h8:(Az a (M O 123)).cell? ⟨K (U w),8,Ao⟩=H (C Y c.depth):=d.cell 8;have h9:(Az a (M O 123)).cell? ⟨K (U w),9,Ao⟩=H (C Y c.bytes):=d.cell 9;have av:(Az a (M O 123)).cell? ⟨K (U w),10,Ao⟩=H (T c.ba (At c.B) c.bcap):=d.cell 10;have h3:(Az a (M O 123)).cell? ⟨K (U w),3,Ao⟩=H (.string c.pol):=d.cell 3;have h0:(Az a (M O 123)).cell? ⟨K (U w),0,Ao⟩=H (C Y c.labels):=d.cell 0;have r:=λam=>yA c.inn c.out c.depth c.bytes am;clear F A y W ab;cases R:FR c.inn c.out c.depth c.bytes
  case' false =>
   have l:D (GI c=4):=by grind [D]
   have m:D (Kt c=0):=B9;have o:D (¬GI c=0):=by grind [D]
  case' true =>
   have t:=lJ c.bcap ap (HC.ints.below d.below);cases S:Ho c.B
   case' false =>
    have l:D (GI c=5):=by grind [D]
    have m:D (Kt c=0):=B9;have o:D (¬GI c=0):=by grind [D]
   case' true =>
    have u:=zf c.pol c.labels.toNat (HG.below d.below);rw[(TV z).1]at u;have l:D (GI c=F1 c.labels.toNat c.pol.data.toList):=by grind [D]
    have m:D (Kt c=IC c.labels.toNat c.pol.data.toList):=B9;have ag:D (F1 c.labels.toNat c.pol.data.toList=0->IC c.labels.toNat c.pol.data.toList=0):=λao=>by grind [F1,IC]
    have af:D (iQ c.labels.toNat c.pol=F1 c.labels.toNat c.pol.data.toList):=rfl;generalize F1 c.labels.toNat c.pol.data.toList=E1 at *;generalize IC c.labels.toNat c.pol.data.toList=N1 at *;by_cases aq:E1=0
    case pos =>
     subst aq;rw[R]at r;rw[S]at t;have ar:=ag.out Z;subst ar;have ae:D (∀f i g,prog.built 126 [(0,.agg O),(1,T f i g)]=H (JF O f i g)):=λf i g=>by grind [D,yD]
     have al:D (∀f i g,Gm.size=(JF O f i g).size):=λf i g=>by rw[RC k.out];exact RD
     have au:K (U a)<K (U (Az a (M O 123))):=Ba
     go_wp2_with(first
      |(go_at_call 40;refine(r _).mono ?_;rintro e x ⟨rfl,rfl⟩)
      |(go_at_call 93;refine t.mono ?_;rintro e x ⟨rfl,rfl⟩)
      |(go_at_call 94;refine u.mono ?_;rintro e w4 ⟨f,i,g,rfl,s,aa⟩;have ak:=G aa;have j:=G (d.step s);have aj:=G ((s.block _ au).trans ai))
      |(refine CT Z 123 _ Z _ Z _ _ _ _ aj underlying123 Z (DG k) ?_)
      |(refine IZ Z Z Z ?hl (ae f i g) ?_;case hl=>simp[go_sem])
      |(refine Db Z 126 _ _ Z (K (U w)+1) (JF O f i g) Z Z 126 Gm j.res (PU (RC k)) (al _ _ _) (XE p) ?_)
      |(refine K8 Z Z Z (K (U a)) Z ?_)
      |(refine Db Z 123 _ _ Z (K (U a)) O Z Z 123 CN (Cj a) (DG k) P p ?_;rw[IT]))
     refine CL (iI results56 Z (CM _ _ Gm _ _ _ j.res) underlying126 Z (PU (RC k)) (C Y 0) (C Y 0) Z Z) Z ⟨JF O f i g,by rw[AE l,AE m],?_,Dj j.below E⟩;refine⟨RC k,XE p,λ_=>⟨z,f,i,g,by rw[AE ah],?_⟩⟩;have hq:=ak.out af;have aw:=Cc N.res;exact⟨_,d.below.size,hq.kept λan h1 _=>Dg _ (K (U w)+1) an _ E⟩
    have o:D (¬GI c=0):=B9
   rw[S]at t
  rw[R]at r
 all_goals
  go_wp2_with(first
   |(go_at_call 40;refine(r _).mono ?_;rintro e x ⟨rfl,rfl⟩)
   |(go_at_call 93;refine t.mono ?_;rintro e x ⟨rfl,rfl⟩)
   |(go_at_call 94;refine u.mono ?_;rintro e w4 ⟨f,i,g,rfl,s,aa⟩;have j:=G (d.step s))
   |(refine Db Z 126 _ _ Z (K (U w)+1) Gm Z Z 126 Gm j.res (PU RD) Z iJ ?_)
   |(refine K8 Z Z Z (K (U a)) Z ?_)
   |(refine Db Z 123 _ _ Z (K (U a)) O Z Z 123 CN (Cj a) (DG k) P p ?_;rw[IT])
   |(refine IZ Z Z Z ?hl yC ?_;case hl=>simp))
  refine CL (iI results56 Z (CM _ _ Gm _ _ _ j.res) underlying126 Z (PU RD) _ _ Z Z) Z ⟨Gm,by rw[AE l,AE m];rfl,zc o,Dj j.below E⟩
end
section
open Go.RowKit
theorem q5O{A tb:I}{q:D5}{sv:Aq}{st:I->I}{tk:I->I->I}(h:DE W A tb L q sv st tk V):Nv V A q.ra q.rc (O q.rs) st :=
 ⟨(Cc h.row),(IJ V A 0 _ _ _ h.row).trans (XK),λr a=>(h.cs r a).1⟩
theorem q29(d:A4)(rc:I)(rs:AJ (AJ (I×A1)×J×J))(dflt:J)(a c b:I):Ia (q0 d rc rs dflt a c b) (λ_=>0) (T Ao 0 0) (T Ao 0 0)=#[T d (O rs) rc,C Y dflt,.map (H a),C .u16 0,C .u16 0,C .u16 0,C .u16 0,C .u16 0,C .u16 0,C .u16 0,C .u16 0,C .u16 0,C .u16 0,C .u16 0,C .u16 0,C .u16 0,C .u16 0,C .u16 0,C .u16 0,T Ao 0 0,T Ao 0 0,.map (H c),.map (H b)]:=B6
theorem q6U(V:X):(Instr.makeMap 178 Ao).run As V=.ok (.map (H (K (U V)))) (Az V (.map #[] 0)):=B6
theorem q7v(V:X):(Instr.makeMap 179 Ao).run As V=.ok (.map (H (K (U V)))) (Az V (.map #[] 0)):=B6
theorem q6X(V:X):(Instr.makeMap 180 Ao).run As V=.ok (.map (H (K (U V)))) (Az V (.map #[] 0)):=B6
theorem qpt{ra:A4}(rc:I){rs:AJ (AJ (I×A1)×J×J)}(dflt:J)(hr:J6 W ra rs)(c:O rs<=16)(k:∀i (h:i<O rs),rs[i].1.length<=8)(af:∀i (h:i<O rs) j (d:j<rs[i].1.length),rs[i].1[j].1<=3/\rs[i].1[j].2.length<=1000000000):Ar As 57 #[T ra (O rs) rc,C Y dflt] W (jb W ra rs dflt):=by
 have m:=G hr;have b:=G k;have r:=G af;have m1:=q6U;have m2:=q7v;have m3:=q6X;have F:D (∃a,a=(Az (Az (Az (Az W (.map #[] 0)) (.map #[] 0)) (.map #[] 0)) (M #[T ra (O rs) rc,C Y dflt,.map (H (K (U W))),C .u16 0,C .u16 0,C .u16 0,C .u16 0,C .u16 0,C .u16 0,C .u16 0,C .u16 0,C .u16 0,C .u16 0,C .u16 0,C .u16 0,C .u16 0,C .u16 0,C .u16 0,C .u16 0,T Ao 0 0,T Ao 0 0,.map (H (K (U W)+1)),.map (H (K (U W)+1+1))] 187))/\a=(OK W).alloc (M (Ia (q0 ra rc rs dflt (K (U W)) (K (U W)+1) (K (U W)+1+1)) (λ_=>0) (T Ao 0 0) (T Ao 0 0)) 187)):=⟨_,Z,by rw[q29];rfl⟩
 obtain⟨a,ac,ad⟩:=AE F;have o:=G ad;have s:D (K (U a)=K (U W)+4):=BI;have p:D (A0 W a):=by show Below _ _ _;rw[AE o];exact(((Cl).alloc Ba _).alloc B7 _).alloc B7 _
 have n:D (A7 a (K (U W)+3) (Ia (q0 ra rc rs dflt (K (U W)) (K (U W)+1) (K (U W)+1+1)) (λ_=>0) (T Ao 0 0) (T Ao 0 0)) 187):=by grind [Cj,jc]
 have A:D (Hj a (K (U W)) []):=by show Hj _ _ _;rw[AE o];exact(zZ (Co _) E).kept (KB _ _ Ao) Ba
 have R:=zr p (AY (AE s)) E (Co _) c b (λi h j d=>(r i h j d).2) ((IJ a _ 0 _ _ _ n).trans (XK)) ((IJ a _ 2 _ _ _ n).trans (XJ)) m A;go_enter func57,ntmps57
 go_wp2_with(fail)
 rw[<-ac];refine R.mono ?_;rintro e V1 ⟨rfl,g⟩;have z:=G g;have aa:=g.but.low p (Co _);have ah:=(g.but.block (K (U W)+3) (AY (AE s)) E).trans n;have Q:=zN aa ah E c b r m g.names (j9 c b) (λi h j d f=>j7 h d f) (by show K (U W)+1+1+1≠K (U W);omega)
 go_wp2_with(fail)
 refine Q.mono ?_;rintro e V2 ⟨rfl,tb,st,tk,ai,u,t⟩;have y:=G u;have B:=G ai;have q:D (LK rs (Gp rs) st tk):=t;have S:=vQ (t.lt b).1 c (q5O u)
 go_wp2_with(fail)
 refine S.mono ?_;rintro e V3 ⟨⟨P,rfl,v⟩,ab⟩;have L:=G v;have ae:=q1U m c b Z ⟨Co _,E⟩ ⟨E,E⟩ ⟨E,E⟩ E E E o z B y q ab;have V:=gZ ae v.2.2 Ba
 go_wp2_with(fail)
 refine V.mono ?_;rintro e N ⟨i,an,sa,sc,nf,rfl,_,_,l,_,ag,x,hx,aj⟩;have w:D (jb W ra rs dflt (Ak (A8 (K (U W)+1+1+1))) N):=by
  refine⟨_,_,_,_,_,_,_,Z,Z,⟨l,Z,Z,Z,Z,q,?_,by simpa using ag,x,P,?_,L,aj⟩⟩
  .intro ak x am al _ h;cases h
  grind
 go_wp2;go_ret;exact w
def RH(k:AH)(W:Ap)(r:AS (AI×AI) (AM Unit))(e:Ending)(W':Ap):Prop :=
 A0 W W'/\match r with
 |.ok d=>∃t y,e=Ak (Af #[Ai t y,Ab Al 0,Ab Al 0])/\Cv k W' (λj=>Au (Av W)<=j/\j<Au (Av W')) (Ai t y) d
 |.error (en,pl)=>e=Ak (Af #[.nilIface,Ab Al en,Ab Al pl])
theorem qm8(W:X)(u:A3){r:AS (J×J) (AM Unit)}(A:Ar As 106 u (Az (Az W (M #[C Y 0] 54)) (M #[C Y 0] 3)) (Mc k (Az (Az W (M #[C Y 0] 54)) (M #[C Y 0] 3)) r)):Ar As 41 #[.func (.func 106) #[] u] W (RH k W r):=by
 have x:A0 W (Az (Az W (M #[C Y 0] 54)) (M #[C Y 0] 3)):=(Cl).alloc Ba _;have Q:=Boxed.new W 54 (C Y 0);have v:=Boxed.new (Az W (M #[C Y 0] 54)) 3 (C Y 0);have R:=Q.alloc (M #[C Y 0] 3);rw[CI]at v;have g:=G x;have i:=G R;have l:=G v
 go_enter_defers func41,ntmps41
 go_wp2_with fail
 refine A.mono ?_;rcases r with⟨B,S⟩|d
 .rintro e a ⟨b,hF⟩;obtain rfl:=hF;have q1:Boxed a (K (U W)) 54 (C Y 0):=(b.block _ i.lt).trans i;have c:Boxed a (K (U W)+1) 3 (C Y 0):=(b.block _ l.lt).trans l;have o:=g.trans (b.mono g.size);have m:=G q1;have n:=G c;have h:=G o;go_wp2;refine UW (f:=79) (args:=#[A8 (K (U W)),A8 (K (U W)+1)]) Ba ke4 ?_;refine(qsH B S m.cell n.cell m.frozen n.frozen E).mono ?_;rintro e u' w3 ⟨rfl,rfl,s,c2,z⟩;have p:=h.trans (z _ (Co _) E h.size);simp[Leaves,settle,results,results41,go_sem,s,c2,RH,p]
 rintro e a ⟨b,P⟩;obtain⟨t,y,rfl,N⟩:=(show∃t y,e=Ak (Ai t y)/\Cv k a (λj=>K (U (Az (Az W (M #[C Y 0] 54)) (M #[C Y 0] 3)))<=j/\j<K (U a)) (Ai t y) d from P)
 have w:D (Cv k a (λj=>K (U W)+2<=j/\j<K (U a)) (Ai t y) d):=N.same (λj q=>⟨BI,q.2⟩) (λ_ _=>rfl);have q1:Boxed a (K (U W)) 54 (C Y 0):=(b.block _ i.lt).trans i;have c:Boxed a (K (U W)+1) 3 (C Y 0):=(b.block _ l.lt).trans l;have o:=g.trans (b.mono g.size);have m:=G q1;have n:=G c;have h:=G o;have s:=q1.cell;have f1:=q1.frozen;have c2:=c.cell;have f2:=c.frozen;go_wp2;have F:=grownBy_setCell' a (K (U W)) (C Y 0);have L:=grownBy_setCell' (AB a ⟨K (U W),0,Ao⟩ (C Y 0)) (K (U W)+1) (C Y 0);have t1:=((m.set (C Y 0)).kept L B9).cell;have t2:=(Boxed.set (C Y 0) (n.kept F B9)).cell;have p:A0 W (AB (AB a ⟨K (U W),0,Ao⟩ (C Y 0)) ⟨K (U W)+1,0,Ao⟩ (C Y 0)) :=
  h.trans ⟨rfl,rfl,rfl,Bd,λk hk=>(CY _ _ _ _ B7).trans (CY a _ _ _ B7)⟩
 have aa:Cv k (AB (AB a ⟨K (U W),0,Ao⟩ (C Y 0)) ⟨K (U W)+1,0,Ao⟩ (C Y 0)) (λj=>K (U W)<=j/\j<K (U (AB (AB a ⟨K (U W),0,Ao⟩ (C Y 0)) ⟨K (U W)+1,0,Ao⟩ (C Y 0)))) (Ai t y) d:=w.same (λj q=>⟨E,Br⟩) (λj q=>(CY _ _ _ _ B7).trans (CY a _ _ _ B7));generalize AB (AB a ⟨K (U W),0,Ao⟩ (C Y 0)) ⟨K (U W)+1,0,Ao⟩ (C Y 0)=V at *;refine UW (f:=79) (args:=#[A8 (K (U W)),A8 (K (U W)+1)]) Ba ke4 ?_;refine(qsQ ⟨K (U W),0,Ao⟩ ⟨K (U W)+1,0,Ao⟩).mono ?_;rintro e u' w3 ⟨rfl,rfl,rfl⟩;simp[Leaves,settle,results,results41,go_sem,t1,t2,RH,p];grind
theorem qsn{fout:J}{y:Aq}{ys:A1}(n:Cv k V (λj=>j<K (U V)) (Ai t y) dd)(p:¬(fout=1/\Fd k dd=AP))(g:∀b,A0 V b->Ar As 82 #[C Y fout,Ai t y] b λe c=>∃a,e=Ak a/\Ck c (K (U b)) a ys/\A0 b c):Ar As 44 #[C Y fout,Ai t y] V λe c=>∃a,e=Ak (Af #[a,C Y 0])/\Ck c (K (U V)) a ys/\A0 V c:=by
 cases i:(fout==1)
 .exact quZ i (g V CO)
 obtain rfl:fout=1:=by simpa using i
 have o:Fd k dd=AQ:=by cases q:Fd k dd with|false=>rfl|true=>exact absurd ⟨rfl,q⟩ p
 have f:=WL k V (λj=>j<K (U V)) (Ai t y) dd (λ_ h=>h) n;rw[o]at f;refine qtc f (λb d=>(g b d).mono ?_);rintro e r ⟨a,rfl,l,m⟩;exact⟨a,Z,Ck.mono l d.size,m.mono d.size⟩
theorem qig{y:Aq}(c:Cv k V (λj=>j<K (U V)) (Ai t y) dd)(d:Fd k dd=AP):Ar As 44 #[C Y 1,Ai t y] V λe b=>e=Ak (Af #[T Ao 0 0,C Y 13])/\A0 V b:=by have a:=WL k V (λj=>j<K (U V)) (Ai t y) dd (λ_ h=>h) c;rw[d]at a;exact qrY a
def GL(fm:AI):AH:=if fm=1 then 32 else 0
theorem qsk(fm:J)(W:X):Ar As 89 #[C Y fm] W λe b=>e=Ak (C Am (GL fm))/\b=W:=by
 by_cases h:fm=1
 .have c:(fm==1)=AP:=Bw;have a:GL fm=32:=kfi;rw[a];go_enter func89,ntmps89;go_wp2;go_ret;exact⟨Z,Z⟩
 have c:(fm==1)=AQ:=Bw;have a:GL fm=0:=kfi;rw[a];go_enter func89,ntmps89;go_wp2;go_ret;exact⟨Z,Z⟩
end
section
open Go.RowKit Go.Shelf
structure Uj(w:World)(c:CD)(N:Nat)(A:A3)(W:World):Prop where
 below:A0 w W
 box:W.heap[w.heap.size]?=some (.cells c.arr 40)
 row:W.heap[N]?=some (.cells A 126)
theorem Uj.step{c:CD}(h:Uj w c N A W)(hb:A0 W W'):Uj w c N A W' :=
 ⟨h.below.trans (hb.mono h.below.size),(hb.block _ (Cc h.box)).trans h.box,(hb.block _ (Cc h.row)).trans h.row⟩
theorem Uk{c:CD}(h:Df c=0):F1 c.labels.toNat c.pol.data.toList=0:=by rw[<-(XF c).1]at h;grind [GI]
end
end Go.Proofs.YtihfjkjbfaneeaaGreatDoor
