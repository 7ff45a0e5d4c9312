import Derived.Lib.AppendIntMem
import Derived.Lib.ItoaLen
import Derived.Test.YtaehkdnabiccnaaGreatDoorGq00
set_option maxRecDepth 100000
set_option maxHeartbeats 8000000
set_option linter.all false
namespace Go.Proofs.YtaehkdnabiccnaaGreatDoor
open Go.Proofs.Tryz
open _root_ renaming Nat->I,Int->J
open Go.Value renaming int->C,slice->G
open Go.World renaming heap->U
open _root_.Array renaming size->O
open _root_.List renaming length->K
open Go.IntKind renaming i64->Y
open Go.RowKit renaming Hid->D
open Go renaming World->X
open Option renaming some->H
open Go.Obj renaming cells->M
open Go.Value renaming slice->AX,int->Ab,slice->Ac,pointer->Ad,string->Ae,tuple->Af,agg->Ag,bool->Ah,iface->Ai,ownBlock->Ax
open Go.Obj renaming cells->Aj
open Go.Ending renaming returned->Ak
open Go.IntKind renaming i64->Al,u8->Am
open Option renaming some->An,none->Ao
open Go renaming DataW->AM,TypeId->AN,undef->AO,World->Ap,Value->Aq,Calls->Ar
open Go.Proofs.Tryz renaming prog->As
open _root_.List renaming length->At,toArray->Aw
open _root_.Array renaming size->Au,setIfInBounds->Ay
open Go.World renaming setCell->AB,cell?->AC,setRow->AD,heap->Av,alloc->Az
open Go.RowKit.Hid renaming out->AE
open Or renaming inl->AF,inr->AG
open _root_ renaming Nat->AH,Int->AI,List->AJ,Bool->AK,Except->AS,ByteArray->AT,UInt8->AU
open _root_.Bool renaming true->AP,false->AQ
open _root_.Decidable renaming decide->AR
open _root_.UInt8 renaming ofNat->AW
variable{P:Program}{V V' V0 V3 W W' W0 w w5:X}{B N ar b base bytes cap dst fuel g g2 i j k last lo m most n num p q size so wi wi' x:I}{fv v v' v2 vs:Aq}{acc acc' bs zs:A1}{s:Cw}{e t t' ty:AN}{F:I->Prop}{news xs:AJ Aq}{d depth fm l lim z:J}{a:Act}{c c0 ch:AU}{ops:Array Oper}{rest:AJ Oper}{o oi:Oper}{Q:Exit->Act->X->Prop}{ad:Addr}{A args cells cs old tmps:A3}{fn:Func}{u u2:Tmp}{fr:I×I}{ev:Operand->Aq}{f:FuncId}{r:Ending}{S:X->Prop}{md:Region.Mode}{listed:Array AK}{R:Ending->X->Prop}{ks:AJ A1}{y:Operand}{hd:I->I×I×I}{ds:AJ (AM Unit)}{rd th:I->AS (J×J) (AM Unit×I)}{es:AJ (Lit×AM Unit)}{kf:AJ A1->I->A5 A1}{li:I->I->AS (J×J) (AJ (AM Unit)×I)}{ma:I->I->AS (J×J) (AJ (Lit×AM Unit)×I)}{nm:AU->I->A5 J}{ia:A4}
section
open Go.RowKit Go.RowKit Go.Lib
def EV(bs:A1)(lim:AI):AH->AH->A1->A5 A1
 |0,p,acc=>.ok (acc,p)
 |k+1,p,acc=>match bs[p]? with
  |none=>.error (9,p)
  |some c=>if(p:AI)=lim then .error (8,p)else EV bs lim k (p+1) (acc++[c])
def Ru{α:Type}(W:Ap)(b:AH)(s:Cw)(val:Ap->Aq->α->Prop)(r:A5 α)(e:Ending)(W':Ap):Prop :=
 Ci b W W'/\match r with
 |.ok (x,p)=>(∃v,e=Ak v/\val W' v x)/\Ck W' b {s with a:=p}
 |.error (en,pl)=>D4 en pl e/\∃p,Ck W' b {s with a:=p}
structure MG(W:Ap)(b:AH)(fv:Aq)(s:Cw)(p:AH)(v:Aq)(acc:A1)(V:Ap):Prop where
 e:Ck V b {s with a:=p}
 ai:Ci b W V
 h:V.heap[Au (Av W)]?=An (Aj #[A8 b,fv] 218)
 a2:Cn V (Au (Av W)+1) v acc
def qF(h:Cn W base v bs)(c:Ci b W W')(o:b<base):Cn W' base v bs:=by
 obtain⟨⟨j,a⟩,k,l⟩:=h;refine⟨⟨j,?_⟩,CE k c.size,l⟩;rcases a with a|⟨g,f,i,e,n,d,m⟩
 .exact AF a
 exact AG ⟨g,f,i,e,n,Ca (c.block g (Cd d) E) d,m⟩
def MG.take(h:MG W b fv s p v acc V)(hb:b<O (U W))(c:Ck V' b {s with a:=q})(a:Ci b V V'):MG W b fv s q v acc V' :=
 ⟨c,h.ai.trans a,Ca (a.block _ (Cd h.h) E) h.h,qF h.a2 a E⟩
def MG.a3(h:MG W b fv s p v acc V)(d:Ck W b s)(a:Below (O (U W)+1) V V')(f:Cn V' (O (U W)+1) v' acc'):MG W b fv s p v' acc' V' :=
 ⟨d.same rfl rfl h.e λk c=>Co a k E,⟨Ca a.os h.ai.os,Ca a.tape h.ai.tape,Ca a.output h.ai.output,CE h.ai.size a.size,λk c e=>Ca (Co a k E)<|h.ai.block k c e⟩,Ca (Co a _ E) h.h,f⟩
def qG(h:Ck W b s):MG W b fv s s.a (G Ao 0 0) []<|Az W<|M #[A8 b,fv] 218:=by have a:Below _ W<|Az W<|M #[A8 b,fv] 218:=Cm;refine⟨h.ac a,Ci.of_below a,Cj W,Fi _ _ _ _,?_,Ao,0,0,Z⟩;simp
theorem qH(f:I)(hn:n<18446744073709551616)(h:Ck W b s)(ap:K s.e<=200000000):Ar As 304 #[Ag #[A8 b,.func (.func f) #[] #[]],C .u64 n] W<|Ru W b s (λV ai ah=>Cn V (O (U W)+1) ai ah)<|EV s.e s.d n s.a []:=by
 obtain⟨i0,hi,ae,af,ag⟩:=DL Tryz.infoU8;have y:D<|MG W b _ s _ _ []<|Az W<|M #[.pointer _,.func (.func f) #[] #[]] _:=qG h;have v:=T h;have aa:=Cd h.aq;have ao:=h.a;obtain⟨R,o⟩:=CC<|EV s.e s.d n s.a [];rw[AE o];go_enter func304,ntmps304;go_wp2;generalize Az W (M #[A8 b,.func (.func f) #[] #[]] 218)=W0 at *
 go_loopg[5,7] n (λg aj ak wr=>∃(k p:I) (a:A4) (m c:I) (r:A1),aj=G a m c/\ak=C .u64 k/\D (k+g=n)/\D (p<=K s.e)/\D (K r<=p)/\D (MG W b (.func (.func f) #[] #[]) s p (G a m c) r wr)/\D (EV s.e s.d g p r=R))
 grind [D];clear y o;obtain⟨k,p,a,m,c0,r,rfl,rfl,P,hp,ha,d,o⟩:=hrel;have kb:=Cc d.h 0;obtain _|g:=gk
 .have hk:k=n:=AY<|AE P;subst hk;have q:D<|R=.ok _:=o.symm;go_wp2;go_ret;rw[AE q];exact⟨d.ai,⟨_,Z,d.a2⟩,d.e⟩
 have an:k<n:=AY<|AE P;rcases JC d.e with i|i|⟨c,i⟩
 .have q:D<|R=.error (9,p):=by show _=_;rw[<-AE o,EV,I6 (by have:p=K s.e:=i;omega)]
  have t:=KA d.e i
  go_wp2_with(first
   |(go_at_call 270;apply t.mono;rintro e B ⟨hF,j⟩;obtain rfl:=hF))
  rw[AE q];exact⟨Z,d.ai.trans<|Ci.of_below j,Z,_,d.e.ac j⟩
 .have q:D<|R=.error (8,p):=by show _=_;have h2:=i.2;have h3:=i.1;grind [D,EV]
  have t:=KB d.e i
  go_wp2_with(first
   |(go_at_call 270;apply t.mono;rintro e B ⟨hF,j⟩;obtain rfl:=hF))
  rw[AE q];exact⟨Z,d.ai.trans<|Ci.of_below j,Z,_,d.e.ac j⟩
 have ab:=i.1;have ac:=i.2;have l:=T i.lt;have x:=AE o;rw[EV,ab]at x;simp only[]at x;rw[Cl ac]at x;have u:=T x;have t:Ar _ _ _ wr λe N=>e=Ak _/\Ck N b {s with a:=p+1}/\Ci b wr N:=J3 d.e i;have am:K r<=999999999:=by grind [D]
 go_wp2_with(first
  |(go_at_call 270;apply t.mono;rintro e B ⟨rfl,hS,j⟩;have A:=T<|d.take aa hS j;have L:=T A.a2.1;have w:=T A.a2.2.1)
  |(at_builtin;refine K7 _ Z _ _ _ Z _ 5 i0 _ 1 1 underlying219 hi ae af ag Z B8 _ _ _ Z (L.alloc _) _ 1 1 [.int _ _] Z Z (EU) (λar S=>by simp at S;subst S;rfl) Bc E (B1<|AE w) ?_;intro v' w5 Q ad aq;obtain⟨g5,al,rfl⟩:=ownsRow_succ Q;have F:=T<|GW ((Cu _ B).alloc w _) (L.alloc _) ad<|B1<|AE w;have z:=T<|A.a3 v F ⟨ME Q Z,CE w F.size,_,_,_,Z⟩))
 go_roundg g;exact⟨_,_,_,_,_,_,Z,Bb,B9,l,by grind [D],z,u⟩;omega
def DQ(V:Ap)(t:AN)(size:AH)(F:AH->Prop)(v:Aq)(n:AH)(xs:AJ Aq):Prop :=
 At xs=n*size/\((v=Ac Ao 0 0/\n=0)\/∃g cap cur,v=Ac (Aa g) n cap/\F g/\V.heap[g]?=An (Aj cur t (0,0))/\n<=cap/\cap<=maxLen/\cur.size=cap*size/\cur.toList.take (n*size)=xs)
def CA:AH->Ap->(AH->Prop)->Aq->A2->Prop
 |0,_,_,_,_=>False
 |k+1,V,F,v,d=>match d with
  |.nil=>v=Ai 268 (Ag #[])
  |.lit (.bool b)=>v=Ai 279 (Ah b)
  |.lit (.int Al z)=>v=Ai 281 (Ab Al z) /\ -9223372036854775808<=z/\z<=9223372036854775807
  |.lit (.string l)=>v=Ai 283 (Ae ⟨Aw l⟩)
  |.ptr (.lit<|.string l)=>∃u,v=Ai 219 u/\DQ V 5 1 F u (At l) (l.map CP)
  |.agg ds=>∃u xs,v=Ai 221 u/\DQ V 89 1 F u (At ds) xs/\∀(i:AH) (x:Aq) (d:A2),xs[i]?=An x->ds[i]?=An d->CA k V F x d
  |.map es=>∃u xs,v=Ai 223 u/\DQ V 225 2 F u (At es) xs/\∀(i:AH) (key:Lit) (d:A2),es[i]?=An (key,d)->∃l x,key=.string l/\xs[2*i]?=An (Ae ⟨Aw l⟩)/\xs[2*i+1]?=An x/\CA k V F x d
  |_=>False
theorem DQ.same{G:I->Prop}(h:DQ V t size F v n xs)(j:∀k,F k->G k)(m:∀k,F k->V'.heap[k]?=V.heap[k]?):DQ V' t size G v n xs:=by
 obtain⟨f,a⟩:=h;refine⟨f,?_⟩;rcases a with a|⟨g,c,d,e,b,l,i⟩
 .exact AF a
 exact AG ⟨g,c,d,e,j g b,Ca (m g b) l,i⟩
theorem CA.same{G:I->Prop}(a:∀k,F k->G k)(b:∀k,F k->V'.heap[k]?=V.heap[k]?):∀{k:I} {v:Aq} {d:A2},CA k V F v d->CA k V' G v d
 |0,_,_,h=>h
 |k+1,v,d,h=>by
  unfold CA at h ⊢;split at h
  .exact h
  .exact h
  .exact h
  .exact h
  .obtain⟨u,e,c⟩:=h;exact⟨u,e,c.same a b⟩
  .obtain⟨u,j,e,c,g⟩:=h;exact⟨u,j,e,c.same a b,λi x d f q=>CA.same a b<|g i x d f q⟩
  .obtain⟨u,j,e,c,g⟩:=h;refine⟨u,j,e,c.same a b,λi key d f=>?_⟩;obtain⟨l,x,m,n,o,p⟩:=g i key d f;exact⟨l,x,m,n,o,CA.same a b p⟩
  exact h
def CA.ai:∀{k m:I} {v:Aq} {d:A2},k<=m->CA k V F v d->CA m V F v d
 |0,_,_,_,_,h=>h.elim
 |k+1,0,_,_,hm,_=>absurd hm E
 |k+1,m+1,v,d,hm,h=>by
  unfold CA at h ⊢;split at h
  .exact h
  .exact h
  .exact h
  .exact h
  .exact h
  .obtain⟨u,f,e,c,b⟩:=h;exact⟨u,f,e,c,λi x d a p=>CA.ai E<|b i x d a p⟩
  .obtain⟨u,f,e,c,b⟩:=h;refine⟨u,f,e,c,λi key d a=>?_⟩;obtain⟨l,x,g,j,n,o⟩:=b i key d a;exact⟨l,x,g,j,n,CA.ai E o⟩
  exact h
theorem WP{i:TypeInfo}{z:Aq}(l:P.underlying t=H (.slice e))(hi:P.info? e=H i)(q:i.zero=H z)(N:i.size=size)(s:i.bytes=bytes)(k:w.ownsRow base e size v n xs){a:Addr}{c:I}(hl:K news=m*size)(h:∀j u,news[j]?=H u->AC w (a.add j)=H u)(r:∀u∈news,u.oneCell'=AP)(F:0<m)(Q:n+m<=maxLen)(x:(n+m)*bytes<=140737488355328){w':X}(b:(Builtin.append_ #[t,t] ty #[v,G (H a) m c]).run P w=.ok v' w'):Ax v'=Ax v\/Ax v'=H (O<|U w):=by
 subst N;subst s;have W:n+m<=9223372036854775807:=BC;rcases k.2 with⟨rfl,rfl⟩|⟨g,f,o,rfl,R,B,V,S,y,aa⟩
 .have d:=run_append_nil w t ty e i z l hi q a m c news hl h F E B9;rw[d]at b;injection b with e1 e2;right;rw[<-e1];rfl
 by_cases p:n+m<=f
 .have A:n*i.size+K news<=o.size:=by rw[hl,y,<-Nat.add_mul];exact PM _ p
  have d:=run_append_room w t ty e i l hi g n f o B a m c news hl h r p A;rw[d]at b;injection b with e1 e2;left;rw[<-e1];rfl
 have L:=k.cells (g:=g) Z;have d:=run_append_grow w t ty e i z l hi q _ n f xs k.1 L a m c news hl h E E<|growslice_fits E x;rw[d]at b;injection b with e1 e2;right;rw[<-e1];rfl
def JG(V:o.guard=Ao){s x:Operand}(ho:o.op=.call {callee:=.builtin .append,args:=#[s,x],argTypes:=#[t,t]}){i:TypeInfo}{z:Aq}(A:P.underlying t=H (.slice e))(hi:P.info? e=H i)(B:i.zero=H z)(y:i.size=size)(k:i.bytes=bytes)(ab:z.cells.size=size)(aa:0<size)(hs:a.eval s=v)(q:w.ownsRow base e size v n xs)(m c:I)(hx:a.eval x=G (H ad) m c)(hl:K news=m*size)(p:∀j u,news[j]?=H u->AC w (ad.add j)=H u)(f:∀u∈news,u.oneCell'=AP)(W:0<m)(g:n+m<=maxLen)(l:(n+m)*bytes<=140737488355328)(S:base<=O (U w))(h:∀b d,d.ownsRow base e size b (n+m) (xs++news)->w.grownBy d (Ax v)->(Ax b=Ax v\/Ax b=H (O<|U w))->wpList P ops Q rest (a.put o.dst b) d):wpList P ops Q (o::rest) a w:=by refine LP V λac R=>?_;obtain⟨b,d,r,F,L,_⟩:=Rd w base t o.type e i z size bytes A hi B y k ab aa v n xs q ad m c news hl p f g l S;have N:=WP A hi B y k q hl p f W g l r;unfold Oper.wp execOp;simp only[ho,resolve,invoke,builtin,GT,Ge,FZ,OE,I7,Mv,hs,hx,r];exact R _ _<|h b d F L N
def NH(bs:A1)(fm d l:AI):Aq:=Ag #[Ae ⟨Aw bs⟩,Ab Al fm,Ab Al d,Ab Al l]
def CN(bs:A1)(l:AI)(i:AH):AK:=AR (i<At bs)&&AR ((i:AI)<l)
def D5(bs:A1)(l:AI)(i:AH)(e:AI):AI×AI:=if l<=i/\i<At bs then(8,i)else if At bs<=i then(9,At bs)else(e,i)
def qJ(x:AI×AI):Aq:=Ag #[Ab Al x.1,Ab Al x.2]
def NI(bs:A1):(⟨Aw bs⟩:AT).size=K bs:=by show(Aw bs).size=_;simp
def Tu:Ar As 116 #[NH bs fm d l,C Y i] W λe g=>e=Ak (Ah<|CN bs l i)/\A0 W g:=by
 have m:=NI bs;obtain⟨R,c⟩:=CC<|CN bs l i;rw[AE c];have a:=AE c;unfold CN at a;unfold NH;by_cases f:i<K bs
 .have h:AR (i<(K bs:J))=AP:=B7;have j:i<(K bs:J):=E;rw[Fm f,SV]at a;cases b:AR<|(i:J)<l
  .rw[b]at a;subst a;have k:=of_decide_eq_false b;go_enter func116,ntmps116;go_wp2;go_ret;exact⟨Z,Cm⟩
  rw[b]at a;subst a;have k:=Dr b;go_enter func116,ntmps116;go_wp2;go_ret;exact⟨Z,Cm⟩
 have h:AR (i<(K bs:J))=AQ:=B7;have j:¬i<(K bs:J):=E;rw[FO f,Bool.false_and]at a;subst a;go_enter func116,ntmps116;go_wp2;go_ret;exact⟨Z,Cm⟩
def cy:(prog.info? 103).map (·.size)=H 2:=B6
def Tv{s:I}(a:O (U V)=B)(b:cs.size=2)(c:tmps.getD s AO=A8 B)(h:fn.results=#[.cell s 103]):(results fn tmps).run As (Az V<|M cs 103)=.ok (.agg cs) (Az V<|M cs 103) :=
 La h tmps _ B 103 cs (0,0) _ c (by rw[<-a];exact Cj _) underlying103 Z (by rw[b];exact cy)
def Tw{o o':Obj}:A0 W<|Az (Az W o) o':=(Cm).alloc Ba _
def M1(W:X)(bs:A1)(fm d l:J)(i:I)(f:J):Ar As 84 #[NH bs fm d l,C Y i,C Y f] W λe m=>e=Ak (qJ<|D5 bs l i f)/\A0 W m:=by
 have p:=NI bs;obtain⟨R,h⟩:=CC<|D5 bs l i f;rw[AE h];have a:=AE h;unfold D5 at a;unfold NH;by_cases b:l<=(i:J)
 .by_cases g:i<K bs
  .rw[Cp ⟨b,g⟩]at a;subst a;have j:AR (l<=i)=AP:=BG;have n:i<(K bs:J):=E;have o:AR (i<(K bs:J))=AP:=B7;go_enter func84,ntmps84;go_wp2;exact CS (Tv Ba Z Z results84) Z ⟨Z,Tw⟩
  rw[Cl λc=>g c.2,Cp E]at a;subst a;have j:AR (l<=i)=AP:=BG;have n:¬i<(K bs:J):=E;have o:AR (i<(K bs:J))=AQ:=B7;have k:K bs<=(i:J):=E;go_enter func84,ntmps84;go_wp2;exact CS (Tv Ba Z Z results84) Z ⟨Z,Tw⟩
 have j:AR (l<=i)=AQ:=BG;by_cases g:i<K bs
 .rw[Cl λc=>b c.1,Cl E]at a;subst a;have k:¬(K bs)<=(i:J):=E;go_enter func84,ntmps84;go_wp2;exact CS (Tv Ba Z Z results84) Z ⟨Z,Tw⟩
 rw[Cl λc=>b c.1,Cp E]at a;subst a;have k:K bs<=(i:J):=E;go_enter func84,ntmps84;go_wp2;exact CS (Tv Ba Z Z results84) Z ⟨Z,Tw⟩
def qK(W:X)(c:AU):Ar As 117 #[C Am c.toNat] W λe j=>e=Ak (Ah<|MB c)/\j=W:=by
 obtain⟨R,i⟩:=CC<|MB c;rw[AE i];have a:=AE i;unfold MB at a;have k:((c.toNat:J)==32)=(c.toNat==32):=by cases h:(c.toNat==32)with|true=>simp at h;simp[h]|false=>simp at h;simp;omega
 have l:((c.toNat:J)==9)=(c.toNat==9):=by cases h:(c.toNat==9)with|true=>simp at h;simp[h]|false=>simp at h;simp;omega
 have m:((c.toNat:J)==10)=(c.toNat==10):=by cases h:(c.toNat==10)with|true=>simp at h;simp[h]|false=>simp at h;simp;omega
 have n:((c.toNat:J)==13)=(c.toNat==13):=by cases h:(c.toNat==13)with|true=>simp at h;simp[h]|false=>simp at h;simp;omega
 cases b:(c.toNat==32)<;>cases d:(c.toNat==9)<;>cases f:(c.toNat==10)<;>cases g:(c.toNat==13)<;>rw[b,d,f,g]at a<;>rw[b]at k<;>rw[d]at l<;>rw[f]at m<;>rw[g]at n<;>clear b d f g
 all_goals have a:_=R:=a
 all_goals subst a
 all_goals go_enter func117,ntmps117
 all_goals go_wp2
 all_goals go_ret
 all_goals exact⟨rfl,rfl⟩
def Rz(k:I):(bs[k]?=Ao\/∃c,bs[k]?=H c/\(k:J)=lim)\/∃c,bs[k]?=H c/\¬(k:J)=lim:=by
 rcases hc:bs[k]? with _|c
 .exact AF<|AF Z
 by_cases a:(k:J)=lim
 .exact AF<|AG ⟨c,Z,a⟩
 exact AG ⟨c,Z,a⟩
def EG(bs:A1)(l:AI):AH->AH->AH
 |0,p=>p
 |g+1,p=>match bs[p]? with
  |none=>p
  |some c=>if(p:AI)<l then(if MB c=AP then EG bs l g (p+1)else p)else p
theorem Et(d:bs[k]?=H c)(V:X):(Instr.index 9 (Ae ⟨Aw bs⟩)<|C Y (k:J)).run As V=.ok (C Am c.toNat) V:=by
 have f:=Dk d;have a:=NI bs;have e:0<=(k:J)/\k<((⟨Aw bs⟩:AT).size:J):=kfX;rw[run_index_string (h:=underlying9),dif_pos e];have b:(⟨_⟩:AT)[(k:J).toNat]'kfX=c:=by show(Aw bs)[(k:J).toNat]'B7=c;grind
 rw[b]
theorem Tx(W:X)(fm d l:J)(hb:K bs<=281474976710656)(hi:i<=K bs):Ar As 83 #[NH bs fm d l,C Y i] W λe r=>e=Ak (C Y<|EG bs l (K bs+1-i) i)/\A0 W r:=by
 obtain⟨R,q⟩:=CC<|EG bs l (K bs+1-i) i;rw[AE q];have h:D<|(Az W _).heap[O<|U W]?=H (M #[Ae ⟨Aw bs⟩,C Y fm,C Y d,C Y l] 115):=Cj _;have b:D<|Below _ W<|Az W<|M #[Ae ⟨Aw bs⟩,C Y fm,C Y d,C Y l] 115:=Cm;have A:∀(V:X) (k:I),Ar _ _ #[Ag #[.string _,.int _ fm,.int _ d,.int _ l],.int _ k] V λe r=>e=Ak (Ah<|CN bs l k)/\Below _ V r:=λV k=>Tu;unfold NH;go_enter func83,ntmps83;go_wp2;generalize Az W (M #[Ae ⟨Aw bs⟩,C Y fm,C Y d,C Y l] 115)=W0 at *
 go_loopg[1] (K bs+1-i) (λg z wr=>∃k:I,z=C Y k/\D (K bs+1<=k+g)/\D (k<=K bs)/\D (A7 wr (O<|U W) #[Ae ⟨Aw bs⟩,C Y fm,C Y d,C Y l] 115)/\D (A0 W wr)/\D (EG bs l g k=R))
 grind [D];obtain⟨k,rfl,Q,B,h,b,q⟩:=hrel;obtain⟨g,rfl⟩:∃g,gk=g+1:=⟨gk-1,by grind [D]⟩
 have aa:=AE B;have t:=Cc h 0;have N:=Cc h 1;have c2:=Cc h 2;have P:=Cc h 3;have v:=Cd h;have a:=AE q;rw[EG]at a;have j:=A wr k;rcases hc:bs[k]? with _|c
 .rw[hc]at a;simp only[]at a;have m:CN bs l k=AQ:=kfv;rw[m]at j;have n:=T a.symm;clear a hc m
  go_wp2_with(first
   |(go_at_call 116;apply j.mono;rintro e s ⟨rfl,f⟩))
  go_ret;rw[AE n];exact⟨Z,Cs b<|CG f b.size⟩
 rw[hc]at a;simp only[]at a;have F:=Dk hc;have x:=T λV=>Et hc V;by_cases u:(k:J)<l
 .rw[Cp u]at a;have m:CN bs l k=AP:=kfv;rw[m]at j;have o:=λV=>qK V c;have S:=AE x;cases w:MB c
  .rw[w]at a o;have n:D<|R=k:=a.symm
   go_wp2_with(first
    |(go_at_call 116;apply j.mono;rintro e s ⟨rfl,f⟩;have p:=Ca (Co f _ v) h;have t:=Cc p 0)
    |(go_at_call 117;apply (o _).mono;rintro e L ⟨rfl,rfl⟩))
   go_ret;rw[AE n];exact⟨Z,Cs b<|CG f b.size⟩
  rw[w]at a o;have y:D<|EG bs l g _=R:=a
  go_wp2_with(first
   |(go_at_call 116;apply j.mono;rintro e s ⟨rfl,f⟩;have p:=T<|Ca (Co f _ v) h;have t:=Cc p 0)
   |(go_at_call 117;apply (o _).mono;clear o;rintro e L ⟨rfl,rfl⟩))
  go_roundg g;exact⟨_,Bb,B9,F,p,Cs b<|CG f b.size,y⟩;omega
 rw[Cl u]at a;have m:CN bs l k=AQ:=kfv;rw[m]at j;have n:=T a.symm;clear a hc m
 go_wp2_with(first
  |(go_at_call 116;apply j.mono;clear j;rintro e s ⟨rfl,f⟩))
 go_ret;rw[AE n];exact⟨Z,Cs b<|CG f b.size⟩
def GG(bs:A1)(l:AI)(i:AH):AK:=match bs[i]? with
 |none=>AQ
 |some c=>AR ((i:AI)<l)&&Ey c
theorem d8(W:X)(bs:A1)(fm d l:J):Ar As 165 #[NH bs fm d l,C Y i] W λe m=>e=Ak (Ah<|GG bs l i)/\A0 W m:=by
 obtain⟨R,p⟩:=CC<|GG bs l i;rw[AE p];have j:=AE p;unfold GG at j;have k:D<|(Az W _).heap[O<|U W]?=H (M #[Ae ⟨Aw bs⟩,C Y fm,C Y d,C Y l] 115):=Cj _;have b:D<|Below _ W<|Az W<|M #[Ae ⟨Aw bs⟩,C Y fm,C Y d,C Y l] 115:=Cm;have h:Ar _ _ #[Ag #[.string _,.int _ fm,.int _ d,.int _ l],.int _ i] _ λe m=>e=Ak (Ah<|CN bs l i)/\Below _ (Az W<|M #[Ae ⟨Aw bs⟩,C Y fm,C Y d,C Y l] 115) m:=Tu;have n:=Cd k;unfold NH;have u:CN bs l i=AQ->R=AQ:=λf=>kfv;cases f:CN bs l i
 .have g:=T<|u f;rw[f]at h;go_enter func165,ntmps165
  go_wp2_with(first
   |(go_at_call 116;apply h.mono;rintro e o ⟨rfl,a⟩))
  go_ret;rw[AE g];exact⟨Z,Cs b<|CG a b.size⟩
 rw[f]at h;unfold CN at f;rw[Fj]at f;have t:=Dr f.1;obtain⟨c,r⟩:∃c,bs[i]?=H c:=⟨_,D7 t⟩
 rw[r]at j;simp only[]at j;rw[f.2,SV]at j;have x:=Et r;unfold Ey at j;by_cases v:(48:J)<=(c.toNat:J)
 .by_cases w:(c.toNat:J)<=57
  .have g:D<|R=AP:=by grind [D]
   go_enter func165,ntmps165
   go_wp2_with(first
    |(go_at_call 116;apply h.mono;rintro e o ⟨rfl,a⟩;have q:=Cc (Ca (Co a _ n) k) 0))
   go_ret;rw[AE g];exact⟨Z,Cs b<|CG a b.size⟩
  have g:D<|R=AQ:=by grind [D]
  go_enter func165,ntmps165
  go_wp2_with(first
   |(go_at_call 116;apply h.mono;rintro e o ⟨rfl,a⟩;have q:=Cc (Ca (Co a _ n) k) 0))
  go_ret;rw[AE g];have s:AR ((c.toNat:J)<=57)=AQ:=FO E;exact⟨by rw[s];rfl,Cs b<|CG a b.size⟩
 have g:D<|R=AQ:=by grind [D]
 go_enter func165,ntmps165
 go_wp2_with(first
  |(go_at_call 116;apply h.mono;rintro e o ⟨rfl,a⟩;have q:=Cc (Ca (Co a _ n) k) 0))
 go_ret;rw[AE g];exact⟨Z,Cs b<|CG a b.size⟩
def Lm(bs:A1)(l lim:AI):Prop:=∀p:AH,p<At bs->((p:AI)<l↔(p:AI)<lim)
def Cx(bs:A1)(lim:AI)(p:AH):Prop:=p<=At bs/\(p:AI)<=lim
theorem Ic(h:bs[p]?=Ao):CN bs l p=AQ:=kfv
theorem IM(a:p<=K bs)(h:bs[p]?=Ao)(e:J):D5 bs l p e=(9,(p:J)):=by grind [D5]
theorem Hr(hl:Lm bs l lim)(h:bs[p]?=H c)(d:(p:J)=lim):CN bs l p=AQ:=by have a:=Dk h;have b:=hl p a;grind [CN]
theorem Gk(hl:Lm bs l lim)(h:bs[p]?=H c)(d:(p:J)=lim)(e:J):D5 bs l p e=(8,(p:J)):=by have a:=Dk h;have b:=hl p a;grind [D5]
theorem J4(hl:Lm bs l lim)(hi:Cx bs lim p)(h:bs[p]?=H c)(e:¬(p:J)=lim):CN bs l p=AP:=by have a:=Dk h;have b:=hl p a;have d:=hi.2;grind [CN]
theorem Id(hl:Lm bs l lim)(hi:Cx bs lim p)(h:bs[p]?=H c)(f:¬(p:J)=lim)(e:J):D5 bs l p e=(e,(p:J)):=by have a:=Dk h;have b:=hl p a;have d:=hi.2;grind [D5]
theorem Eu(hi:Cx bs lim p)(h:bs[p]?=H c)(d:¬(p:J)=lim):Cx bs lim<|p+1:=by have a:=Dk h;have b:=hi.2;exact⟨E,E⟩
def GH{α:Type}(bs:A1)(lim:AI)(r r':A5 α):Prop:=r=r'\/∃q:AH,r=.error (8,(q:AI))/\(q:AI)=lim/\q<At bs/\∃x,r'=.ok (x,q)
theorem MH(hl:Lm bs l lim):∀(g p:I),Cx bs lim p->(∃q,DW bs lim g p=.ok ((),q)/\EG bs l g p=q/\Cx bs lim q/\p<=q/\(K bs+1<=p+g->∀f,DW bs lim f q=.ok ((),q)))\/(∃q:I,DW bs lim g p=.error (8,(q:J))/\EG bs l g p=q/\(q:J)=lim/\q<K bs)
 |0,p,hi=>AF ⟨p,rfl,rfl,hi,Cr _,λh=>absurd h<|AY hi.1⟩
 |g+1,p,hi=>by
  rw[DW,EG];rcases hc:bs[p]? with _|c
  .refine AF ⟨p,Z,Z,hi,Cr _,λ_ f=>?_⟩;cases f<;>grind [DW]
  simp only[];by_cases k:(p:J)=lim
  .rw[Cp k];have j:=Dk hc;rw[Cl (show¬p<l by have:=hl p j;omega)];grind
  rw[Cl k];have j:=Dk hc;rw[Cp (show p<l by have:=hl p j;have:=hi.2;omega)];by_cases i:MB c=AP
  .rw[Cp i,Cp i];rcases MH hl g _ (Eu hi hc k)with⟨q,a,b,c,d,e⟩|h<;>grind
  rw[Cl i,Cl i];refine AF ⟨p,Z,Z,hi,Cr _,λ_ f=>?_⟩;cases f<;>grind [DW]
theorem qL{P:Program}{fn:Func}{p u:Tmp}{ty:AN}(h:fn.results=#[.tmp u,.cell p ty]){tmps:A3}{w:X}{g:I}{t:AN}{cs:A3}{fr:I×I}{d:TypeDesc}(f:tmps.getD p AO=A8 g)(c:w.heap[g]?=H (M cs t fr))(i:P.underlying ty=H d)(b:(match d with|.struct _|.array _ _=>AP|_=>AQ)=AP)(hi:(P.info? ty).map (·.size)=H cs.size){v:Aq}(j:tmps.getD u AO=v):(results fn tmps).run P w=.ok (Af #[v,.agg cs]) w:=by have e:(results fn tmps).run P w=((asAddr<|tmps.getD p AO).run P w).andThen λa k=>((loadVar ty a).run P k).andThen λv l=>.ok (Af #[tmps.getD u AO,v]) l:=Bm;subst j;rw[e,f];simp only[asAddr,Ge,FZ,Jy w g t ty cs fr d c i b hi]
def Ct(bs:A1)(fm d l:AI):A3:=#[Ae ⟨Aw bs⟩,Ab Al fm,Ab Al d,Ab Al l]
def Cf(x:AI×AI):A3:=#[Ab Al x.1,Ab Al x.2]
theorem Qc{x:J×J}:(Cf x).all (·.oneCell')=AP:=by simp[Cf,Value.oneCell']
structure IN(W:Ap)(A:A3)(N:AH)(V:Ap):Prop where
 h:V.heap[Au (Av W)]?=An (Aj A 115)
 a:V.heap[N]?=An (Aj (Cf (0,0)) 103)
 ac:A0 W V
 lt:Au (Av W)<N
theorem IN.next(h:IN W A N V)(hb:A0 V V'):IN W A N V' :=
 ⟨(hb.block _<|Cd h.h).trans h.h,(hb.block _<|Cd h.a).trans h.a,h.ac.trans<|hb.mono h.ac.size,h.lt⟩
theorem IN.drew(h:IN W A N V):IN W A N V.drew:=⟨h.h,h.a,h.ac.drew,h.lt⟩
def OV{W:World}{A:Array Value}:IN W A (W.heap.size+1) ((W.alloc<|.cells A 115).alloc<|.cells (Cf (0,0)) 103) :=
 ⟨(CB _ _ _<|by simp).trans<|Cj _,by have:=Cj (W.alloc<|.cells A 115) (o:=(.cells (Cf (0,0)) 103));simpa using this,(Cm).alloc (by simp) _,by omega⟩
def WS{P:Program}{ev:Operand->Aq}{W:X}{o:Oper}{ty:AN}{x:Operand}(c:o.op=.load ty x){g:I}(hx:ev x=A8 g){t:AN}{cs:A3}{fr:I×I}{d:TypeDesc}(b:W.heap[g]?=H (M cs t fr))(e:P.underlying ty=H d)(a:(match d with|.struct _|.array _ _=>AP|_=>AQ)=AP)(hi:(P.info? ty).map (·.size)=H cs.size):(execOp ev o).run P W=.ok (.value<|.agg cs) W:=Bk
theorem Ie{x:J}(h : -9223372036854775808<=x/\x<=9223372036854775807):IntKind.i64.wrap x=x:=(ZL x).trans E
def Ty:(prog.info? 115).map (·.size)=H (Ct bs fm d l).size:=by show _=H 4;kernel_rfl
def Tz(r:A5 Unit):Aq:=match r with
 |.ok (_,q)=>Af #[Ab Al q,.agg<|Cf (0,0)]
 |.error f=>Af #[Ab Al 0,.agg<|Cf f]
def Hs(h:IN W A N V)(hb:A0 V V')(x:J×J):(AD V' N<|Cf x).heap[N]?=H (M (Cf x) 103)/\A0 W (AD V' N<|Cf x) :=
 ⟨CR _ _ _ _ _ _ (h.next hb).a,Dq (h.next hb).ac<|Nat.le_of_lt h.lt⟩
theorem KE{x:J×J}:(prog.info? 103).map (·.size)=H (Cf x).size:=cy
def Eb(h:V.heap[g]?=H (M (Ct bs fm d l) t fr)):AC V ⟨g,0,Ao⟩=(#[Ae ⟨Aw bs⟩,C Y fm,C Y d,C Y l]:A3)[0]?/\AC V ⟨g,1,Ao⟩=(#[Ae ⟨Aw bs⟩,C Y fm,C Y d,C Y l]:A3)[1]?/\AC V ⟨g,2,Ao⟩=(#[Ae ⟨Aw bs⟩,C Y fm,C Y d,C Y l]:A3)[2]?/\AC V ⟨g,3,Ao⟩=(#[Ae ⟨Aw bs⟩,C Y fm,C Y d,C Y l]:A3)[3]? :=
 ⟨Cc h 0,Cc h 1,Cc h 2,Cc h 3⟩
def ck{Q:Ending->X->Prop}(c:Ar P f args V λe a=>e=r/\A0 V a)(b:∀{V':X},A0 V V'->S V')(k:∀w,D (S w)->Q r w):Ar P f args V Q :=
 c.mono λ_ _ h=>h.1▸k _ (b h.2)
def MI{Q:Ending->X->Prop}(c:Ar P f args V λe a=>e=r/\A0 V a)(b:∀{V':X},A0 V V'->S V')(k:∀w,A0 V w->D (S w)->Q r w):Ar P f args V Q :=
 c.mono λ_ _ h=>h.1▸k _ h.2 (b h.2)
def Ec{Q:Ending->X->Prop}(c:Ar P f args V λe a=>e=r/\A0 V a)(b:∀{V':X},A0 V V'->S V')(hb:∀w,S w->w.heap[g]?=H (M (Ct bs fm d l) t fr))(k:∀w,D (S w)->AC w ⟨g,0,Ao⟩=(#[Ae ⟨Aw bs⟩,C Y fm,C Y d,C Y l]:A3)[0]?->AC w ⟨g,1,Ao⟩=(#[Ae ⟨Aw bs⟩,C Y fm,C Y d,C Y l]:A3)[1]?->AC w ⟨g,2,Ao⟩=(#[Ae ⟨Aw bs⟩,C Y fm,C Y d,C Y l]:A3)[2]?->AC w ⟨g,3,Ao⟩=(#[Ae ⟨Aw bs⟩,C Y fm,C Y d,C Y l]:A3)[3]?->Q r w):Ar P f args V Q :=
 ck c b λw h=>let z:=Eb<|hb w h;k w h z.1 z.2.1 z.2.2.1 z.2.2.2
def GI{b:AK}(fm d:J)(h:CN bs l i=b)(V:X):Ar As 116 #[Ag #[Ae ⟨Aw bs⟩,C Y fm,C Y d,C Y l],C Y i] V λe a=>e=Ak (Ah b)/\A0 V a:=h▸Tu
def NJ{en:J}{x:J×J}(fm d:J)(h:D5 bs l i en=x)(V:X):Ar As 84 #[Ag #[Ae ⟨Aw bs⟩,C Y fm,C Y d,C Y l],C Y i,C Y en] V λe a=>e=Ak (.agg<|Cf x)/\A0 V a:=h▸M1 V bs fm d l i en
def NK(bs:A1)(fm d l:J)(V:X)(k:I):Ar As 116 #[Ag #[Ae ⟨Aw bs⟩,C Y fm,C Y d,C Y l],C Y k] V λe a=>e=Ak (Ah<|CN bs l k)/\A0 V a:=Tu
def OW(bs:A1)(fm d l:J)(V:X)(k:I)(a:J):Ar As 84 #[Ag #[Ae ⟨Aw bs⟩,C Y fm,C Y d,C Y l],C Y k,C Y a] V λe b=>e=Ak (.agg<|Cf<|D5 bs l k a)/\A0 V b:=M1 V bs fm d l k a
def Fb(x y:I)(c:o.guard=Ao)(d:o.op=.store 103 (.tmp x) (.tmp y))(g:I)(F:J×J)(hx:a.eval (.tmp x)=A8 g)(hy:a.eval (.tmp y)=.agg (Cf F))(b:A7 w g (Cf (0,0)) 103)(h:wpList As ops Q rest (a.put o.dst AO)<|AD w g<|Cf F):wpList As ops Q (o::rest) a w :=
 D8 c _ _ _ d g _ hx hy _ _ b (KE) rfl (Qc) h
def tk(i dst:I)(v:Aq)(hi:ops[i]?=H oi)(b:(Region.noSelect ops&&Region.free md ops listed i&&(Region.ready md ops listed).contains i&&oi.dst==H dst&&Region.wanted oi (yielded ops a.tmps))=AP)(e:∀c a w,Q (.panic c) (a.put (H dst) v) w->Q (.panic c) a w)(hy:∀d,S d->(execOp a.eval oi).run P d=.ok (.value v) d)(f:S w)(h:wpAnyH P md ops Q S fuel (Ay listed i AP) (a.put (H dst) v) w):wpAnyH P md ops Q S (fuel+1) listed a w:=by simp only[Fj]at b;exact IB _ hi b.1.1.1.1 b.1.1.1.2 b.1.1.2 e C7 (AF ⟨b.2,hy⟩) f h
def OX(i:I)(m:(Region.noSelect ops&&Region.free md ops listed i&&(Region.ready md ops listed).contains i,ops[i]?.map λo=>(o.dst,Region.wanted o<|yielded ops a.tmps,λb=>(execOp a.eval o).run P b))=(AP,H (H dst,AP,λb=>.ok (.value v) b)))(k:∀c a w,Q (.panic c) (a.put (H dst) v) w->Q (.panic c) a w)(l:S w)(h:wpAnyH P md ops Q S fuel (Ay listed i AP) (a.put (H dst) v) w):wpAnyH P md ops Q S (fuel+1) listed a w:=by obtain⟨d,g⟩:=Lb m;obtain⟨o,n,e⟩:=Ov.1 g;obtain⟨e,f⟩:=Lb e;obtain⟨f,j⟩:=Lb f;simp only[Fj]at d;exact IB _ n d.1.1 d.1.2 d.2 k e (AF ⟨f,λb _=>congrFun j b⟩) l h
def M3(i:I)(hi:ops[i]?=H oi)(b:(Region.noSelect ops&&Region.free md ops listed i&&(Region.ready md ops listed).contains i&&oi.dst==H dst && !Region.wanted oi (yielded ops a.tmps))=AP)(d:∀c a w,Q (.panic c) (a.put (H dst) AO) w->Q (.panic c) a w)(e:S w)(h:wpAnyH P md ops Q S fuel (Ay listed i AP) (a.put (H dst) AO) w):wpAnyH P md ops Q S (fuel+1) listed a w:=by simp only[Fj,VS]at b;exact IB _ hi b.1.1.1.1 b.1.1.1.2 b.1.1.2 d C7 (AG ⟨b.2,Z⟩) e h
def yF(x:I){F:J×J}(a:A7 W g (Cf F) 103)(b:o.op=.load 103 (.tmp x))(hx:ev (.tmp x)=A8 g):(execOp ev o).run As W=.ok (.value<|.agg<|Cf F) W :=
 WS b hx a underlying103 rfl<|KE
def yI(x:I)(a:A7 W g (Ct bs fm d l) 115)(b:o.op=.load 115 (.tmp x))(hx:ev (.tmp x)=A8 g):(execOp ev o).run As W=.ok (.value<|Ag #[Ae ⟨Aw bs⟩,C Y fm,C Y d,C Y l]) W :=
 WS b hx a underlying115 rfl Ty
def qM{p:Tmp}{F:J×J}(h:fn.results=#[.tmp u,.cell p 103])(a:A7 w g (Cf F) 103)(b:tmps.getD p AO=A8 g)(c:tmps.getD u AO=v):(results fn tmps).run As w=.ok (Af #[v,.agg<|Cf F]) w :=
 qL h b a underlying103 rfl (KE) c
def TA{p:Tmp}{A:Act}{F:J×J}{B:Prop}(h:fn.results=#[.tmp u,.cell p 103])(b:A7 w g (Cf F) 103/\B)(c:A.tmps.getD p AO=A8 g)(d:A.tmps.getD u AO=v)(a:A.defers=[])(k:R (Ak<|Af #[v,.agg<|Cf F]) w):bodyPost As fn R .ret A w:=CS (qM h b.1 c d) a k
def RA(W:X)(bs:A1)(fm d l:J):D<|IN W (Ct bs fm d l) (O (U W)+1)<|Az (Az W<|M #[Ae ⟨Aw bs⟩,C Y fm,C Y d,C Y l] 115)<|M #[C Y 0,C Y 0] 103:=OV
def M4{v:I}(a:bs[i]?=H c)(b:c.toNat=v)(V:X):(Instr.index 9 (Ae ⟨Aw bs⟩)<|C Y (i:J)).run As V=.ok (C Am v) V:=b▸Et a V
theorem WT(W:X)(fm d:J)(w:A1)(p:K w<=100)(hl:Lm bs l lim)(hi:Cx bs lim i)(hb:K bs<=281474976710656):Ar As 127 #[.agg<|Ct bs fm d l,C Y i,Ae ⟨Aw w⟩] W λe W'=>e=Ak (Tz<|Dt bs lim w i)/\A0 W W':=by
 have ak:=NI w;obtain⟨R,h⟩:=CC<|Dt bs lim w i;rw[AE h];have ai:=hi.1;have HL:=T hl;have t:=T hi;have N:=NK bs fm d l;have B:∀(V:X) (k:I) (P:J),Ar _ 84 #[.agg _,.int _ k,.int _ P] V _:=λV k P=>M1 V bs fm d l k P;clear hl hi;unfold Ct;go_enter func127,ntmps127;go_wp2
 go_loopg[8] (K w) (λg af wr=>∃k:I,af=C Y k/\D (k+g=K w)/\D (IN W (Ct bs fm d l) (O (U W)+1) wr)/\D (Dt bs lim (w.drop k) (i+k)=R)/\D (Cx bs lim<|i+k))
 exact⟨0,Z,Bg,OV,h,t⟩;clear h t;obtain⟨k,rfl,y,j,h,t⟩:=hrel;have aj:=t.1;obtain⟨c0,c1,c2,c3⟩:=Eb j.h;have u:=λV=>N V<|i+k;have r:(i+k:I)=i+(k:J):=E;rw[r]at u;obtain _|g:=gk
 .have q:D<|R=.ok ((),i+K w):=by grind [D,Dt]
  have ab:¬k<(K w:J):=AY<|AE y;have s:=Hs j CT (0,0);clear h N u B
  go_wp2_with(first
   |(refine D8 Z 103 _ _ Z (O (U W)+1) (Cf (0,0)) Z Z 103 (Cf (0,0)) j.a (KE) Z (Qc) ?_))
  refine TA results127 s Z Z Z ⟨?_,s.2⟩;rw[AE q];simp[Tz]
 have ad:k<K w:=AY<|AE y;have ab:k<(K w:J):=E;obtain⟨x,hx⟩:=IA<|w[k];have ae:w[k]?=H x:=B9;have z:=λV=>Et ae V;have hr:=AE h;rw[K6 ad,<-hx,Dt]at hr;clear h hx N;have b:=j.h;have L:=λV=>B V (i+k) 9;rw[r]at L;have p:(CN bs l (i+k)=AQ/\R=.error (D5 bs l (i+k) 9))\/∃c,CN bs l (i+k)=AP/\bs[i+k]?=H c/\Cx bs lim (i+(k+1))/\((((c.toNat:J)==(x.toNat:J))=AQ/\R=.error (D5 bs l (i+k) 9))\/(((c.toNat:J)==(x.toNat:J))=AP/\Dt bs lim (w.drop<|k+1) (i+(k+1))=R)):=by grind [D,Ic,IM,Hr,Gk,J4,Eu,Id,UInt8.toNat_inj]
 generalize D5 bs l (i+k) 9=F at *;generalize CN bs l (i+k)=hh at *;have n:=T p;clear p hr B ae;go_wp2;refine Ei (S:=λV=>A7 V (O<|U W) (Ct bs fm d l) 115) B6 <| Ch 0 15 (.agg<|Ct bs fm d l) Z (λo f=>yI 3 f Z Z) b <| Cb 1 16 (C Y i) b <| Cb 2 17 (C Y k) b <| Ch 3 18 (C Y<|i+k) Z (λo f=>Bo) b ?_;refine CH 4 λag hK=>?_;go_simp;apply (u _).mono;rintro e w2 ⟨rfl,v⟩;simp only[];have a:=(v.block _<|Cd b).trans b;refine hK.out _ _ a λ_=>?_;clear hK u;rcases AE n with⟨rfl,m⟩|⟨c,rfl,Q,hN,p⟩
 case' inl =>
  have q:=T m;clear m n r z;refine Cb 5 20 (Ah AP) a <| Cb 6 21 (Ah AP) a <| M3 7 (dst:=22) Z B6 GB a <| M3 8 (dst:=23) Z B6 GB a <| M3 9 (dst:=24) Z B6 GB a <| M3 10 (dst:=25) Z B6 GB a <| M3 11 (dst:=26) Z B6 GB a <| M3 12 (dst:=27) Z B6 GB a <| M3 13 (dst:=28) Z B6 GB a <| M3 14 (dst:=29) Z B6 GB a <| M3 15 (dst:=30) Z B6 GB a <| M3 16 (dst:=31) Z B6 GB a <| Cb 17 32 (Ah AP) a ?_
 case' inr =>
  have aa:=λV=>Et Q V;rw[r]at aa;have ah:=Dk Q;have HN:=T hN;have n:=T p;clear hN Q p r;refine Cb 5 20 (Ah AQ) a <| Cb 6 21 (Ah AQ) a <| Cb 7 22 (A8<|O<|U W) a <| Ch 8 23 (Ae ⟨Aw bs⟩) Z (λo f=>by have h2:=Cc f 0;unfold Ct at h2;go_simp) a <| Cb 9 24 (C Y i) a <| Cb 10 25 (C Y k) a <| Ch 11 26 (C Y<|i+k) rfl (λo f=>Bo) a <| Ch 12 27 (C Am c.toNat) rfl (λo f=>Bh) a <| Cb 13 28 (Ae ⟨Aw w⟩) a <| Cb 14 29 (C Y k) a <| Ch 15 30 (C Am x.toNat) rfl (λo f=>Bh) a <| Ch 16 31 (Ah<|!(c.toNat==(x.toNat:J))) rfl (λo f=>by go_simp;rfl) a ?_;apply Cb 17 32 (Ah<|!(c.toNat==(x.toNat:J))) a;rcases AE n with⟨A,m⟩|⟨A,m⟩<;>rw[A]<;>have q:=T m
  rotate_left
  .refine CK ?_;go_simp;have HG:D<|(k+1)+g=K w:=B9;clear b y ab HL c0 c1 c2 c3 aa z A m n;go_wp2;go_roundg g;exact⟨_,Bb,HG,j.drew.next v,q,HN⟩;omega
  clear aa A m n z
 all_goals
  refine CK ?_;go_simp;clear b y ad ab HL c0 c1 c2 c3
  go_wp2_with(first
   |(go_at_call 84;apply (L _).mono;clear L;rintro e w3 ⟨rfl,ac⟩)
   |(refine D8 rfl 103 _ _ rfl (O (U W)+1) (Cf F) rfl rfl 103 (Cf (0,0)) ((j.drew.next v).next ac).a (KE) rfl (Qc) ?_)
   |(refine CO Z 115 _ Z (O<|U W) Z _ _ _ _ a underlying115 Z Ty ?_))
  have s:=Hs (j.drew.next v) ac F;refine TA results127 s Z Z Z ⟨?_,s.2⟩;rw[AE q];rfl
theorem qN{P:Program}{fn:Func}{p q u:Tmp}{ty ty2:AN}(h:fn.results=#[.cell p ty,.tmp u,.cell q ty2]){tmps:A3}{w:X}{g g2:I}{t t2:AN}{cs cs2:A3}{fr fr2:I×I}{d d2:TypeDesc}(l:tmps.getD p AO=A8 g)(i:w.heap[g]?=H (M cs t fr))(n:P.underlying ty=H d)(c:(match d with|.struct _|.array _ _=>AP|_=>AQ)=AP)(hi:(P.info? ty).map (·.size)=H cs.size)(m:tmps.getD q AO=A8 g2)(j:w.heap[g2]?=H (M cs2 t2 fr2))(o:P.underlying ty2=H d2)(f:(match d2 with|.struct _|.array _ _=>AP|_=>AQ)=AP)(k:(P.info? ty2).map (·.size)=H cs2.size){v:Aq}(r:tmps.getD u AO=v):(results fn tmps).run P w=.ok (Af #[.agg cs,v,.agg cs2]) w:=by have e:(results fn tmps).run P w=((asAddr<|tmps.getD p AO).run P w).andThen λa x=>((loadVar ty a).run P x).andThen λv y=>((asAddr<|tmps.getD q AO).run P y).andThen λb z=>((loadVar ty2 b).run P z).andThen λs A=>.ok (Af #[v,tmps.getD u AO,s]) A:=Bm;subst r;rw[e,l,m];simp only[asAddr,Ge,FZ,Jy w g t ty cs fr d i n c hi,Jy w g2 t2 ty2 cs2 fr2 d2 j o f k]
def Cq:Aq:=Ac Ao 0 0
def Cg(kind n:AI)(s:AT)(ks vs:Aq):A3:=#[Ab Al kind,Ab Al n,.string s,ks,vs]
def Cv:A3:=Cg 0 0 ⟨#[]⟩ Cq Cq
def KG:(prog.info? 101).map (·.size)=H 5:=B6
def NL{k n:J}{s:AT}{ks:Aq}:(prog.info? 101).map (·.size)=H (Cg k n s ks vs).size:=KG
structure Ji(W:Ap)(A:A3)(V:Ap):Prop where
 h:V.heap[Au (Av W)]?=An (Aj A 115)
 b:V.heap[Au (Av W)+1]?=An (Aj Cv 101)
 a:V.heap[Au (Av W)+2]?=An (Aj (Cf (0,0)) 103)
 ac:A0 W V
theorem Ji.next(h:Ji W A V)(hb:A0 V V'):Ji W A V' :=
 ⟨Ca (Co hb _<|Cd h.h) h.h,Ca (Co hb _<|Cd h.b) h.b,Ca (Co hb _<|Cd h.a) h.a,Cs h.ac<|CG hb h.ac.size⟩
theorem Ji.drew(h:Ji W A V):Ji W A V.drew:=⟨h.h,h.b,h.a,h.ac.drew⟩
def d9:Ji W A (Az (Az (Az W<|M A 115)<|M Cv 101)<|M (Cf (0,0)) 103) :=
 ⟨Ca (Ca (CB _ _ _ B7)<|CB _ _ _ Ba)<|Cj _,Ca (CB _ _ _ Ba)<|B2<|Cj (Az W<|M A 115) (o:=(M Cv 101)),B2<|Cj (Az (Az W<|M A 115)<|M Cv 101) (o:=(M (Cf (0,0)) 103)),((Cm).alloc Ba _).alloc B7 _⟩
def EO(h:Ji W A V)(hb:A0 V V')(y:A3)(x:J×J):(AD (AD V' (O (U W)+1) y) (O (U W)+2)<|Cf x).heap[O (U W)+1]?=H (M y 101)/\(AD (AD V' (O (U W)+1) y) (O (U W)+2)<|Cf x).heap[O (U W)+2]?=H (M (Cf x) 103)/\A0 W (AD (AD V' (O (U W)+1) y) (O (U W)+2)<|Cf x):=by
 have a:=h.next hb
 refine⟨?_,?_,Dq (Dq a.ac E) E⟩
 .rw[Do _ _ _ _ E];exact CR _ _ _ _ _ _ a.b
 exact CR _ _ _ _ _ _<|sx E a.a
def Gl(h:Ji W A V)(hb:A0 V V'){y:A3}:(AD V' (O (U W)+1) y).heap[O (U W)+2]?=H (M (Cf (0,0)) 103):=sx E (h.next hb).a
theorem da{k n:J}{s:AT}{a b:A4}:(Cg k n s (G a i j)<|G b p q).all (·.oneCell')=AP:=by simp[Cg,Value.oneCell']
def de(r:A5 AI)(e:Ending):Prop:=match r with
 |.ok (z,q)=>e=Ak (Af #[.agg<|Cg 3 z ⟨#[]⟩ Cq Cq,Ab Al q,.agg<|Cf (0,0)])
 |.error f=>e=Ak (Af #[.agg Cv,Ab Al 0,.agg<|Cf f])
theorem qO(num d:I)(a:d<=9):(-(num:J)<(-9223372036854775808+(d:J)).tdiv 10)↔(9223372036854775808-d)/10<num:=B9
def TB(T:A3):Prop:=T.size=5/\T.all (·.oneCell')=AP
def thg{k n:J}{s:AT}{a b:A4}:TB<|Cg k n s (G a i j)<|G b p q:=⟨rfl,da⟩
def RB(x:I){y:I}(d:o.guard=Ao)(e:o.op=.store 101 (.tmp x) (.tmp y))(g:I)(T:A3)(hx:a.eval (.tmp x)=A8 g)(hy:a.eval (.tmp y)=.agg T)(c:A7 w g Cv 101)(b:TB T)(h:wpList As ops Q rest (a.put o.dst AO)<|AD w g T):wpList As ops Q (o::rest) a w :=
 D8 d _ _ _ e g _ hx hy _ _ c (by rw[b.1];exact KG) (by rw[b.1];rfl) b.2 h
def qP{p q:Tmp}{k n:J}{s:AT}{ks:Aq}{F:J×J}(h:fn.results=#[.cell p 101,.tmp u,.cell q 103])(a:A7 w g (Cg k n s ks vs) 101)(b:A7 w g2 (Cf F) 103)(c:tmps.getD p AO=A8 g)(d:tmps.getD q AO=A8 g2)(e:tmps.getD u AO=v):(results fn tmps).run As w=.ok (Af #[.agg<|Cg k n s ks vs,v,.agg<|Cf F]) w :=
 qN h c a underlying101 rfl (NL) d b underlying103 rfl (KE) e
def F4{p q:Tmp}{A:Act}{k n:J}{s:AT}{ks:Aq}{F:J×J}{B:Prop}(h:fn.results=#[.cell p 101,.tmp u,.cell q 103])(a:A7 w g (Cg k n s ks vs) 101/\A7 w g2 (Cf F) 103/\B)(v:Aq)(c:A.tmps.getD p AO=A8 g)(d:A.tmps.getD q AO=A8 g2)(e:A.tmps.getD u AO=v)(b:A.defers=[])(f:R (Ak<|Af #[.agg<|Cg k n s ks vs,v,.agg<|Cf F]) w):bodyPost As fn R .ret A w:=CS (qP h a.1 a.2.1 c d e) b f
def Ll(W:X)(bs:A1)(fm d l:J):D<|Ji W (Ct bs fm d l)<|Az (Az (Az W<|M #[Ae ⟨Aw bs⟩,C Y fm,C Y d,C Y l] 115)<|M Cv 101)<|M (Cf (0,0)) 103:=d9
def yT(x:I){k n:J}{s:AT}{ks:Aq}(a:A7 W g (Cg k n s ks vs) 101)(b:o.op=.load 101 (.tmp x))(hx:ev (.tmp x)=A8 g):(execOp ev o).run As W=.ok (.value<|.agg<|Cg k n s ks vs) W :=
 WS b hx a underlying101 rfl<|NL
def CX(l:A1):Aq:=Ae ⟨Aw l⟩
theorem df(s:A1)(h:DQ W 9 1 F v (K ks)<|ks.map CX)(B:K ks<=200000000):Ar As 169 #[v,Ae ⟨Aw s⟩] W λe p=>e=Ak (Ah<|AR<|s∈ks)/\p=W:=by
 obtain⟨R,b⟩:=CC<|AR<|s∈ks;rw[AE b];obtain⟨a,d,rfl,m⟩:∃a d,v=G a (K ks) d/\D (∀(j:I) (x:A1),ks[j]?=H x->∃g,a=Aa g/\A6 W g j (CX x)):=by obtain⟨y,A⟩:=h;grind [D,Dk,Cc]
 go_enter func169,ntmps169;go_wp2
 go_loopg[5] (K ks) (λg z wr=>wr=W/\∃k:I,z=C Y k/\D (k+g=K ks)/\D (AR (s∈ks.drop k)=R))
 grind [D];obtain⟨rfl,k,rfl,c,b⟩:=hrel;have i:=AE b;obtain _|g:=gk
 .rw[Ox<|AY<|AE c]at i;have n:D<|R=AQ:=by grind [D]
  have t:¬k<(K ks:J):=AY<|AE c;go_wp2;go_ret;simp_all
 have f:k<K ks:=AY<|AE c;have t:k<(K ks:J):=E;obtain⟨x,l⟩:∃x,ks[k]?=H x:=⟨_,D7 f⟩
 obtain⟨w,rfl,q⟩:=m.out k x l;unfold CX at q;rw[K6 f,(Nt.1 l).2]at i;by_cases r:x=s
 .have n:D<|R=AP:=B9;have u:(x==s)=AP:=B9;go_wp2;go_ret;simp_all
 have o:D<|AR (s∈ks.drop (k+1))=R:=by grind [D]
 have u:(x==s)=AQ:=kex;go_wp2;go_roundg g;exact⟨Z,_,Bb,B9,o⟩;omega
theorem WU(n:I)(h:Ck W b s):Ck ((W.drewN n).setCell ⟨b,4,Ao⟩<|C Y k) b {s with c:=k}/\Ci b W ((W.drewN n).setCell ⟨b,4,Ao⟩<|C Y k):=by
 have c:(W.drewN n).heap[b]?=H _:=h.aq;have e:∀q,q≠b->((W.drewN n).setCell ⟨b,4,Ao⟩<|C Y k).heap[q]?=W.heap[q]?:=λq a=>CY _ _ _ _ Bl;refine⟨⟨?_,λi d=>?_,h.len,h.a⟩,⟨Z,Z,Z,Bv,λq _ a=>e q a⟩⟩
 .rw[VQ _ b 4 _ _ _ _ c,CR _ _ _ _ _ _ c];rfl
 obtain⟨g,off,f,j,l⟩:=h.c i d;grind [World.cell?_of_block]
theorem dj(h:Ck W b s)(c:¬(s.c:J)=s.b)(i:s.c<=1000000):Ar As 265 #[A8 b] W λe a=>e=Ak (Af #[])/\Ck a b {s with c:=s.c+1}/\Ci b W a:=by
 have j:AC W _=H (.int _ _):=Cc h.aq 1;have k:AC W _=H (.int _ _):=Cc h.aq 4;have g:=Dy W b 4 _ _ h.aq;have d:D (∀n,Ck ((W.drewN n).setCell _<|.int _<|s.c+1) b {s with c:=s.c+1}/\Ci b W ((W.drewN n).setCell _<|.int _<|s.c+1)):=λn=>WU n h;have f:(s.c==s.b)=AQ:=BO;go_enter func265,ntmps265;go_wp2
 go_quiet (fail)
 go_wp2;go_end0;grind [D]
def dk(h:Ck W b s)(f:(s.c:J)=s.b):Ar As 265 #[A8 b] W λe a=>D4 11 ((s.a:J)-1) e/\Ci b W a/\∃p,Ck a b {s with a:=p}:=by
 have g:AC W _=H (.int _ _):=Cc h.aq 1;have i:AC W _=H (.int _ _):=Cc h.aq 4;have d:=λn=>G4 11<|h.drewN n;have c:=T h;go_enter func265,ntmps265;go_wp2
 go_quiet (fail)
 go_wp2_with(first
  |(go_at_call 271;apply (d nq).mono;rintro e j ⟨hF,rfl⟩;obtain rfl:=hF))
 exact⟨Z,Z,Ci.of_below<|II,_,c.drewN nq⟩
theorem qR(h:Ck W b s)(c:s.c=k+1)(g:s.c<=1000000):Ar As 293 #[Ad<|H ⟨b,0,Ao⟩] W λe a=>e=Ak (Af #[])/\Ck a b {s with c:=k}/\Ci b W a:=by
 have i:AC W ⟨b,4,Ao⟩=H (C Y<|k+1):=by have:=Cc h.aq 4;rw[this];show H (Value.int Y (s.c:J))=_;rw[c];rfl
 have f:=Dy W b 4 _ _ h.aq;have d:D<|Ck (AB W _ _) b _/\Ci b W (AB W _<|.int _ k):=WU 0 h;go_enter func293,ntmps293;go_wp2;go_end0;grind [D]
def GX(rd:AH->AS (AI×AI) (AM Unit×AH)):AH->AH->AJ (AM Unit)->AS (AI×AI) (AJ (AM Unit)×AH)
 |0,p,acc=>.ok (acc,p)
 |k+1,p,acc=>match rd p with
  |.error e=>.error e
  |.ok (d,q)=>GX rd k q<|acc++[d]
def El(hd:AH->AH×AH×AH)(bs:A1)(lim:AI)(ks:AJ A1)(p:AH):A5 A1 :=
 match bs[p]? with
 |none=>.error (9,p)
 |some c=>if(p:AI)=lim then .error (8,p)else if(hd c.toNat).1=8 then
   match CZ bs lim (hd c.toNat).2.1 (p+1) (hd c.toNat).2.2 with
   |.error e=>.error e
   |.ok (x,q)=>match Ds bs lim x q [] 0 with
    |.error e=>.error e
    |.ok (l,r)=>if l∈ks then .error (12,(r:AI)-1)else .ok (l,r)
  else .error (9,p)
def GJ(kf:AJ A1->AH->A5 A1)(rd:AH->AS (AI×AI) (AM Unit×AH)):AH->AH->AJ A1->AJ (Lit×AM Unit)->AS (AI×AI) (AJ (Lit×AM Unit)×AH)
 |0,p,_,acc=>.ok (acc,p)
 |k+1,p,ks,acc=>match kf ks p with
  |.error e=>.error e
  |.ok (l,q)=>match rd q with
   |.error e=>.error e
   |.ok (d,r)=>GJ kf rd k r (l::ks)<|acc++[(.string l,d)]
def Gm(bs:A1)(lim:AI)(li:AH->AH->AS (AI×AI) (AJ (AM Unit)×AH))(ma:AH->AH->AS (AI×AI) (AJ (Lit×AM Unit)×AH))(so w x q:AH):AS (AI×AI) (AM Unit×AH) :=
 match so with
 |2=>.ok (.lit<|.bool AQ,q)
 |3=>.ok (.lit<|.bool AP,q)
 |4=>match FE 4 w x q with
  |.error e=>.error e
  |.ok z=>.ok (.lit<|.int Al z,q)
 |5=>match FE 5 w x q with
  |.error e=>.error e
  |.ok z=>.ok (.lit<|.int Al z,q)
 |6=>match FE 6 w x q with
  |.error e=>.error e
  |.ok z=>.ok (.lit<|.int Al z,q)
 |7=>match EV bs lim x q []with
  |.error e=>.error e
  |.ok (l,r)=>.ok (.ptr<|.lit<|.string l,r)
 |8=>match Ds bs lim x q [] 0 with
  |.error e=>.error e
  |.ok (l,r)=>.ok (.lit<|.string l,r)
 |9=>match li x q with
  |.error e=>.error e
  |.ok (ds,r)=>.ok (.agg ds,r)
 |10=>match ma x q with
  |.error e=>.error e
  |.ok (es,r)=>.ok (.map es,r)
 |_=>.ok (.nil,q)
def DR(hd:AH->AH×AH×AH)(bs:A1)(lim depth:AI):AH->AH->AH->AS (AI×AI) (AM Unit×AH)
 |0,_,_=>.error (0,0)
 |g+1,wi,p=>match bs[p]? with
  |none=>.error (9,p)
  |some c=>if(p:AI)=lim then .error (8,p)else if(hd c.toNat).1=0 then .error (9,p)else
   if((hd c.toNat).1=9\/(hd c.toNat).1=10)/\(wi:AI)=depth then .error (11,p)else
   match CZ bs lim (hd c.toNat).2.1 (p+1) (hd c.toNat).2.2 with
   |.error e=>.error e
   |.ok (x,q)=>Gm bs lim (λx q=>GX (DR hd bs lim depth g<|wi+1) x q []) (λx q=>GJ (El hd bs lim) (DR hd bs lim depth g<|wi+1) x q [] []) (hd c.toNat).1 (hd c.toNat).2.1 x q
theorem TC{w:I}(a:bs[p]?=H c)(b:¬(p:J)=lim)(d:hd c.toNat=(so,w,ar)):DR hd bs lim depth (g+1) wi p=(if so=0 then .error (9,(p:J))else if(so=9\/so=10)/\(wi:J)=depth then .error (11,(p:J))else
   match CZ bs lim w (p+1) ar with
   |.error e=>.error e
   |.ok (x,q)=>Gm bs lim (λx q=>GX (DR hd bs lim depth g<|wi+1) x q []) (λx q=>GJ (El hd bs lim) (DR hd bs lim depth g<|wi+1) x q [] []) so w x q):=by
 grind [DR]
def RC(k:AH)(W:Ap)(b:AH)(s:Cw)(r:AS (AI×AI)<|AM Unit×AH)(e:Ending)(W':Ap):Prop :=
 Ci b W W'/\match r with
 |.ok (d,p)=>(∃t y,e=Ak (Ai t y)/\CA k W' (λj=>Au (Av W)<=j/\j<Au (Av W')) (Ai t y) d)/\Ck W' b {s with a:=p}
 |.error (en,pl)=>D4 en pl e/\∃p,Ck W' b {s with a:=p}
def WV(k f b:AH)(s:Cw)(W0:Ap)(rd:AH->AS (AI×AI) (AM Unit×AH)):Prop :=
 ∀(V:Ap) (p:AH),Ck V b {s with a:=p}->Ci b W0 V->Ar As 301 #[Ag #[A8 b,.func (.func f) #[] #[]]] V (RC k V b {s with a:=p}<|rd p)
structure Ln(k:AH)(W:Ap)(b:AH)(fv:Aq)(s:Cw)(p:AH)(v:Aq)(ds:AJ (AM Unit))(V:Ap):Prop where
 e:Ck V b {s with a:=p}
 ai:Ci b W V
 h:V.heap[Au (Av W)]?=An (Aj #[A8 b,fv] 218)
 a2:∃xs,V.ownsRow (Au (Av W)+1) 89 1 v (At ds) xs/\∀(i:AH) (x:Aq) (d:A2),xs[i]?=An x->ds[i]?=An d->CA k V (λj=>Au (Av W)+1<=j/\j<Au (Av V)/\An j≠Ax v) x d
 size:Au (Av W)+1<=Au (Av V)
def TD(h:W.ownsRow base t size v n xs)(k:Ci b W W')(m:b<base):W'.ownsRow base t size v n xs:=by
 obtain⟨i,a⟩:=h;refine⟨i,?_⟩;rcases a with a|⟨g,d,f,e,l,c,j⟩
 .exact AF a
 exact AG ⟨g,d,f,e,l,Ca (k.block g (Cd c) E) c,j⟩
def Ln.but'(h:Ln k W b fv s p v ds V)(hb:b<O (U W))(l:Ck V' b {s with a:=q})(a:Ci b V V'):Ln k W b fv s q v ds V':=by obtain⟨n,e,f⟩:=h.a2;refine⟨l,h.ai.trans a,Ca (a.block _ (Cd h.h) E) h.h,⟨n,TD e a E,λi x d m g=>?_⟩,CE h.size a.size⟩;refine(f i x d m g).same (λj c=>⟨c.1,CQ c.2.1 a.size,c.2.2⟩) λj c=>a.block j c.2.1 E
def qS(h:Ck W b s):Ln k W b fv s s.a (G Ao 0 0) []<|Az W<|M #[A8 b,fv] 218:=by have a:Below _ W<|Az W<|M #[A8 b,fv] 218:=Cm;exact⟨h.ac a,Ci.of_below a,Cj W,⟨[],Fi _ _ _ _,λi x d c=>kf2⟩,Ba⟩
theorem Ln.push{x:Aq}{d:A2}(h:Ln k W b fv s p v ds V)(z:Ck W b s)(u:V.ownsRow (O (U W)+1) 89 1 v (K ds) xs)(hx:∀(i:I) (x:Aq) (d:A2),xs[i]?=H x->ds[i]?=H d->CA k V (λj=>O (U W)+1<=j/\j<O (U V)/\H j≠Ax v) x d)(A:CA k V (λj=>O (U V0)<=j/\j<O (U V)) x d)(R:∀g,Ax v=H g->g<O (U V0))(F:O (U W)+1<=O (U V0))(P:w5.ownsRow (O (U W)+1) 89 1 v' (K ds+1)<|xs++[x])(f:(Az V<|M #[x] 89).grownBy w5<|Ax v)(n:Ax v'=Ax v\/Ax v'=H (O<|U<|Az V<|M #[x] 89)):Ln k W b fv s p v' (ds++[d]) w5:=by
 have Q:=h.size;have L:O (U V)+1<=O (U w5):=kfc;have key:∀g,Ax v=H g->O (U W)+1<=g:=λg f=>DK u f;have q:=λj a m=>Ca (f.block j B7 m)<|CB _ _ _ a;have r:∀j,j<O (U W)+1->w5.heap[j]?=V.heap[j]?:=λj a=>q j E λe=>B9;refine⟨z.same Z Z h.e λj a=>r j E,⟨Ca f.os h.ai.os,Ca f.tape h.ai.tape,Ca f.output h.ai.output,E,λj a m=>Ca (r j E)<|h.ai.block j a m⟩,Ca (r _ E) h.h,⟨xs++[x],B9,λi y c o l=>?_⟩,E⟩;have t:∀j,j<O (U V)->H j≠Ax v->H j≠Ax v':=λj a m=>by
  rcases n with n|n
  .rw[n];exact m
  rw[n];intro e;injection e with e;simp at e;omega
 have B:K xs=K ds:=AY u.1;by_cases N:i<K ds
 .rw[Hg E]at o l;exact(hx i y c o l).same (λj a=>⟨a.1,AY a.2.1,t j a.2.1 a.2.2⟩) λj a=>q j a.2.1 a.2.2
 have e:i=K ds:=B9;subst e;rw[Jc E]at l;rw[Jc E,B]at o;simp at o l;subst o;subst l;have w:∀j,O (U V0)<=j->H j≠Ax v:=λj a e=>B9;exact A.same (λj a=>⟨E,E,t j a.2<|w j a.1⟩) λj a=>q j a.2<|w j a.1
def Qd(h:V.ownsRow base t size v n xs):∀g,Ax v=H g->g<O (U V):=λg a=>by
 rcases h.2 with⟨b,_⟩|⟨f,d,e,rfl,i,c,_⟩
 .subst b;cases a
 cases a;exact Cd c
def Ln.aq(h:Ln k W b fv s p v ds V):CA (k+1) V (λj=>O (U W)<=j/\j<O (U V)) (Ai 221 v)<|.agg ds:=by
 obtain⟨u,a,m⟩:=h.a2;unfold CA;refine⟨v,u,Z,⟨a.1,?_⟩,λi x d t q=>(m i x d t q).same (λj r=>⟨E,r.2.1⟩) λ_ _=>rfl⟩;rcases a.2 with n|⟨g,f,l,e,w,c,o⟩
 .exact AF n
 exact AG ⟨g,f,l,e,⟨E,(Cd c)⟩,c,o⟩
def Tryz.infoThing:(prog.info? 89).map (λi=>(i.zero,i.size,i.bytes))=H (H .nilIface,1,16):=B6
theorem qU{f:I}(hn:n<18446744073709551616)(h:Ck W b s)(a1:K s.e<=200000000)(t:WV k f b s W rd)(S:∀p d q,rd p=.ok (d,q)->p<q):Ar As 306 #[Ag #[A8 b,.func (.func f) #[] #[]],C .u64 n] W<|Ru W b s (λV v o=>(∃a n c,v=G a n c)/\CA (k+1) V (λj=>O (U W)<=j/\j<O (U V)) (Ai 221 v) (.agg o))<|GX rd n s.a []:=by
 obtain⟨i0,hi,ap,aq,ar⟩:=DL Tryz.infoThing;have ag:D<|Ln k W b _ s _ _ []<|Az W<|M #[.pointer _,.func (.func f) #[] #[]] _:=qS h;have ae:=T h;have ad:=T t;have ab:=T S;have aj:=Cd h.aq;have a0:=h.a;obtain⟨R,w⟩:=CC<|GX rd n s.a [];rw[AE w];clear h t S;go_enter func306,ntmps306;go_wp2;generalize Az W (M #[A8 b,.func (.func f) #[] #[]] 218)=W0 at *
 go_loopg[5,7] n (λg y av wr=>∃(m p:I) (a:A4) (l c:I) (o:AJ<|AM Unit),y=G a l c/\av=C .u64 m/\D (m+g=n)/\D (p<=K s.e)/\D (K o<=p)/\D (Ln k W b (.func (.func f) #[] #[]) s p (G a l c) o wr)/\D (GX rd g p o=R))
 grind [D];clear ag w;obtain⟨m,p,a,l,c0,o,rfl,rfl,N,hp,ha,i,w⟩:=hrel;have kb:=Cc i.h 0;have a3:=Cc i.h 1;obtain _|g:=gk
 .have hk:m=n:=AY<|AE N;subst hk;have B:D<|R=.ok _:=w.symm;clear w N;go_wp2;go_ret;rw[AE B];exact⟨i.ai,⟨_,Z,⟨_,_,_,Z⟩,i.aq⟩,i.e⟩
 have az:m<n:=AY<|AE N;have x:=ad.out wr p i.e i.ai;have r:=AE w;rw[GX]at r;rcases hq:rd p with er|dq
 .rw[hq]at r x;simp only[]at r;obtain⟨en,pl⟩:=er;have B:=T r.symm;clear w r hq
  go_wp2_with(first
   |(go_at_call 301;apply x.mono;clear x;rintro e A ⟨L,hF⟩;obtain⟨hF,pz,am⟩:=(show D4 en pl e/\∃p,Ck A b {s with a:=p}from hF);obtain rfl:=hF))
  rw[AE B];exact⟨Z,i.ai.trans L,Z,pz,am⟩
 obtain⟨d,q⟩:=dq;rw[hq]at r x;simp only[]at r;have a2:=ab.out p d q hq;have HN:=T r;have ay:K o<=200000000:=by grind [D]
 have aw:D<|K o+1<=q:=by grind [D]
 have af:=T i.size;have ac:D (∀g,Ax (AX a l c0)=H g->g<O (U wr)):=by obtain⟨xs,h1,_⟩:=i.a2;exact Qd h1
 go_wp2_with(first
  |(go_at_call 301;apply x.mono;rintro e A ⟨L,hF⟩;obtain⟨⟨au,y,rfl,hd⟩,Q⟩:=(show(∃au y,e=Ak _/\CA k A _ _ d)/\Ck A b {s with a:=q}from hF);have F:=T<|i.but' aj Q L;have HD:=T hd;have HQ:=T Q.a;obtain⟨xs,al,ao⟩:=F.a2;have P:=T al;have ai:=T ao;have aa:=T F.size)
  |(at_builtin;apply JG Z Z underlying221 hi ap aq ar Z B8 Z (P.alloc _) 1 1 Z Z (EU) (λa4 z=>by simp at z;subst z;rfl) B8 Bc E<|B1<|AE aa;intro v' w5 u ak an;have ah:=T<|F.push ae P ai HD ac af u ak an;obtain⟨g5,ax,rfl⟩:=ownsRow_succ u))
 go_roundg g;exact⟨_,q,_,_,_,_,Z,Bb,B9,HQ,by grind [D],ah,HN⟩;omega
def dl{c:Code}(T:I->X->Prop)(b:I->Act)(d:(∀x V,T x V->Q .normal (b x) V)->c.wp P Q a w)(e:∀x V,T x V->Q .normal (b x) V):c.wp P Q a w:=d e
theorem qV{u:FrameMode}(h:Ck W b s)(c:s.c=k+1)(i:s.c<=1000000):CallsD As 293 #[A8 b] u W λe d a=>d=u/\(e=Ak (Af #[])/\Ck a b {s with c:=k}/\Ci b W a):=by
 have j:AC W ⟨b,4,Ao⟩=H (C Y<|k+1):=by have:=Cc h.aq 4;rw[this];show H (Value.int Y (s.c:J))=_;rw[c];rfl
 have g:=Dy W b 4 _ _ h.aq;have f:D<|Ck (AB W _ _) b _/\Ci b W (AB W _<|.int _ k):=WU 0 h;apply callsD_of_wp func293 Z;simp only[ntmps293,K8,FN,J1,Nat.reduceAdd,Nat.reduceSub,Mo,Mp,Mr,Mq,K9,Kv];go_wp2;go_end0;grind [D]
def dm{f:I}(t:J)(h:Ck W b s)(r:∀V,Ck V b s->Ar As 270 #[A8 b] V λe m=>D4 t s.a e/\A0 V m):Ar As 301 #[Ag #[A8 b,.func (.func f) #[] #[]]] W λe m=>Ci b W m/\D4 t s.a e/\∃p,Ck m b {s with a:=p}:=by
 have l:=T h;have y:Below _ W (Az W<|M #[A8 b,.func (.func f) #[] #[]] 218).drew:=(Cm).drew;have g:=T y;have u:D<|(Az W _).drew.heap[O<|U W]?=H (M #[A8 b,.func (.func f) #[] #[]] 218):=Cj W
 go_enter_defers func301,ntmps301
 go_wp2_with fail
 apply Ei (S:=λV=>A7 V (O<|U W) #[A8 b,.func (.func f) #[] #[]] 218) B6;have d:=AE u;refine EN (i:=0) (v:=A9 (O<|U W) 1) rfl B6 B6 B6 (λc a w h=>NG results301 B8 h) (AF ⟨rfl,λV k=>rfl⟩) d <| EN (i:=1) (v:=.func (.func f) #[] #[]) rfl B6 B6 B6 (λc a w h=>NG results301 B8 h) (AF ⟨rfl,λV k=>(by have x:=Cc k 1;go_simp)⟩) d ?_;refine EN (i:=2) (v:=A8<|O<|U W) Z B6 B6 B6 (λc a w h=>NG results301 B8 h) (AF ⟨Z,λV k=>rfl⟩) d <| EN (i:=3) (v:=A8 b) Z B6 B6 B6 (λc a w h=>NG results301 B8 h) (AF ⟨Z,λV k=>(by have x:=Cc k 0;go_simp)⟩) d ?_;refine Hj 4 6 (λq o=>?_) λq o=>?_
 .go_simp;apply (r _<|l.ac g).mono;rintro e A ⟨hF,j⟩;obtain rfl:=hF;exact⟨(Ci.of_below g).trans<|Ci.of_below j,Z,_,(l.ac g).ac j⟩
 go_simp;have z:((Az W _).drew.alloc<|M #[C Y 0,C Y 0,C .u64 0] 275).heap[O<|U W]?=_:=(CB _ _ _<|Cd d).trans d;have n:Below _ W<|(Az W _).drew.alloc<|M #[C Y 0,C Y 0,C .u64 0] 275:=g.alloc g.size _;refine o.out _ _ z λ_=>?_;refine CH 4 λq o=>?_;go_simp;apply (r _<|l.ac n).mono;rintro e A ⟨hF,j⟩;obtain rfl:=hF;exact⟨(Ci.of_below n).trans<|Ci.of_below j,Z,_,(l.ac n).ac j⟩
section
variable{bs:A1} {lim:Int} {li:Nat->Nat->Except (Int×Int) (List (DataW Unit)×Nat)} {ma:Nat->Nat->Except (Int×Int) (List (Lit×DataW Unit)×Nat)} {w x q:Nat}
def qW:Gm bs lim li ma 1 w x q=.ok (.nil,q):=rfl
def qX:Gm bs lim li ma 2 w x q=.ok (.lit<|.bool AQ,q):=rfl
def qY:Gm bs lim li ma 3 w x q=.ok (.lit<|.bool AP,q):=rfl
def qZ:Gm bs lim li ma 7 w x q=(match EV bs lim x q []with|.error e=>.error e|.ok (l,r)=>.ok (.ptr<|.lit<|.string l,r)):=rfl
def r7:Gm bs lim li ma 8 w x q=(match Ds bs lim x q [] 0 with|.error e=>.error e|.ok (l,r)=>.ok (.lit<|.string l,r)):=rfl
def r8:Gm bs lim li ma 9 w x q=(match li x q with|.error e=>.error e|.ok (ds,r)=>.ok (.agg ds,r)):=rfl
def r9:Gm bs lim li ma 10 w x q=(match ma x q with|.error e=>.error e|.ok (ds,r)=>.ok (.map ds,r)):=rfl
def rf(h:4<=so/\so<=6):Gm bs lim li ma so w x q=(match FE so w x q with|.error e=>.error e|.ok z=>.ok (.lit<|.int Y z,q)):=by rcases(show so=4\/so=5\/so=6 by omega)with rfl|rfl|rfl<;>rfl
end
theorem dt{so w:J}{p:J}(h:FE so w x p=.ok z):-9223372036854775808<=z/\z<=9223372036854775807:=by grind [wrap64,FE,GF]
theorem RD:∀(k p a x q:I),CZ bs lim k p a=.ok (x,q)->x<(a+1)*256^k
 |0,p,a,x,q,h=>kfu
 |k+1,p,a,x,q,h=>by
  rw[CZ]at h;split at h
  .cases h
  next c _ =>
  split at h
  .cases h
  have b:=RD k _ _ x q h;have d:=c.toNat_lt;have e:(a*256+c.toNat+1)*256^k<=((a+1)*256)*256^k:=PM _ E;grind
def du{w:I}(h:w<=8/\(w=0\/g=0)/\g<18446744073709551616)(d:CZ bs lim w p g=.ok (x,q)):x<18446744073709551616:=by
 have a:=RD w p g x q d;obtain⟨b,c,e⟩:=h;rcases c with rfl|rfl
 .simp at a;omega
 have:256^w<=256^8:=OA B8 b;omega
def rg{d:A2}(e:O (U W)<=lo)(hb:b<O (U W))(h:CA k V (λj=>lo<=j/\j<O (U V)) v d)(c:Ci b V V'):CA k V' (λj=>O (U W)<=j/\j<O (U V')) v d :=
 h.same (λj a=>⟨E,CQ a.2 c.size⟩) λj a=>c.block j a.2 E
theorem rh{l:A1}(m:O (U W)<=lo)(h:Cn V lo v l):CA (k+1) V (λj=>O (U W)<=j/\j<O (U V)) (Ai 219 v)<|.ptr<|.lit<|.string l:=by
 unfold CA;refine⟨v,Z,Ba,?_⟩;rcases h.1.2 with f|⟨g,b,c,e,i,a,d⟩
 .grind
 exact AG ⟨g,b,c,e,⟨E,(Cd a)⟩,a,d⟩
theorem WW{t:A3}{u:FrameMode}(d:u≠.run)(h:Ck V b s)(c:s.c=k+1)(e:s.c<=1000000)(H:∀a,Ck a b {s with c:=k}->Ci b V a->Leaves As f301 t R [] (settle u) a):Leaves As f301 t R [{target:=.fn (.func 293) #[],args:=#[A8 b]}] u V:=by refine OI (f:=293) (args:=#[A8 b]) d C1 <| (qV h c e).mono ?_;grind
theorem ri(z:I->I×I×I){f w:I}(h:Ck W b s)(h1:JB s c)(bj:z c.toNat=(so,w,ar))(bv:so<=10)(hw:w<=8)(hg:w=0\/ar=0)(bi:ar<18446744073709551616)(bk:K s.e<=200000000)(bw:s.c<=100000)(hf:f=111\/f=112)(hU:∀V,Ci b W V->U8 V)(ag:7<b)(cH:∀V,Ci b W V->Ar As f #[C Am c.toNat] V λe V'=>e=Ak (Ag #[C Y so,C Y w,C .u64 ar])/\A0 V V')(cL:¬(s.c:J)=s.b->∀(V:X) (p n:I),Ck V b {s with a:=p,c:=s.c+1}->Ci b W V->n<18446744073709551616->Ar As 306 #[Ag #[A8 b,.func (.func f) #[] #[]],C .u64 n] V (Ru V b {s with a:=p,c:=s.c+1} (λV' v ds=>(∃a n c,v=G a n c)/\CA (g+1) V' (λa0=>O (U V)<=a0/\a0<O (U V')) (Ai 221 v) (.agg ds))<|GX (DR z s.e s.d s.b g<|s.c+1) n p []))(cM:¬(s.c:J)=s.b->∀(V:X) (p n:I),Ck V b {s with a:=p,c:=s.c+1}->Ci b W V->n<18446744073709551616->Ar As 307 #[Ag #[A8 b,.func (.func f) #[] #[]],C .u64 n] V (Ru V b {s with a:=p,c:=s.c+1} (λV' v es=>(∃a n c,v=G a n c)/\CA (g+1) V' (λa0=>O (U V)<=a0/\a0<O (U V')) (Ai 223 v) (.map es))<|GJ (El z s.e s.d) (DR z s.e s.d s.b g<|s.c+1) n p [] [])):Ar As 301 #[Ag #[A8 b,.func (.func f) #[] #[]]] W<|RC (g+1) W b s<|DR z s.e s.d s.b (g+1) s.c s.a:=by
 obtain⟨bu,HR⟩:=CC<|DR z s.e s.d s.b (g+1) s.c s.a;rw[AE HR];have t:=AE HR;rw[TC h1.1 h1.2 bj]at t;clear HR bj;have a7:=λV A=>J3 (W:=V) (b:=b) (s:=s) (c:=c) A h1;have cA:∀V,Ck V b s.next->Ar As 302 #[Ag #[A8 b,.func (.func f) #[] #[]],Ag #[C Y so,C Y w,C .u64 ar]] V (Q5 V b s.next (λx:I=>C .u64 x)<|CZ s.e s.d w (s.a+1) ar):=λV A=>WD (W:=V) (b:=b) (s:=s.next) f so (w:=w) (g:=ar) hw hg A
 have ae:∀V,Ck V b {s.next with c:=s.c+1}->Ar As 302 #[Ag #[A8 b,.func (.func f) #[] #[]],Ag #[C Y so,C Y w,C .u64 ar]] V (Q5 V b {s.next with c:=s.c+1} (λx:I=>C .u64 x)<|CZ s.e s.d w (s.a+1) ar):=λV A=>WD (W:=V) (b:=b) (s:={s.next with c:=s.c+1}) f so (w:=w) (g:=ar) hw hg A;have af:D (∀x q,CZ s.e s.d w (s.a+1) ar=.ok (x,q)->x<18446744073709551616):=λx q hx=>du ⟨hw,hg,bi⟩ hx;have cN:=λV p x A hx=>pN (W:=V) (b:=b) (s:={s with a:=p}) f so w ar (x:=x) hx A;have cB:=λV p x A hx=>qH (W:=V) (b:=b) (s:={s with a:=p}) f (n:=x) hx A bk;have cX:=λV p x A hB hx=>dg (W:=V) (b:=b) (s:={s with a:=p}) f (n:=x) hx A (hU V hB) ag bk;have av:=λV A=>by have:=G4 (W:=V) (b:=b) (s:=s.next) 9 A;rwa[show((s.next.a:J)-1)=s.a by show(((s.a+1:I)):J)-1=s.a;omega]at this
 have aq:∀V,Ck V b s.next->(s.c:J)=s.b->Ar As 265 #[A8 b] V λe W'=>D4 11 s.a e/\Ci b V W'/\∃p,Ck W' b {s with a:=p}:=λV A z=>by have:=dk (W:=V) (b:=b) (s:=s.next) A z;rwa[show((s.next.a:J)-1)=s.a by show(((s.a+1:I)):J)-1=s.a;omega]at this
 have au:∀V,Ck V b s.next->¬(s.c:J)=s.b->Ar As 265 #[A8 b] V λe W'=>e=Ak (Af #[])/\Ck W' b {s.next with c:=s.c+1}/\Ci b V W':=λV A z=>dj (W:=V) (b:=b) (s:=s.next) A z keI
 have HH:=T h;have bq:=Cd h.aq;have a8:A0 W (Az W<|Aj #[A8 b,.func (.func f) #[] #[]] 218).drew:=(Cm).drew;have a1:=T a8;have bc:=T<|h.ac a8;have bd:D<|(Az W<|Aj #[A8 b,.func (.func f) #[] #[]] 218).drew.heap[O<|U W]?=H (Aj #[A8 b,.func (.func f) #[] #[]] 218):=Cj W;have a2:D (∀(a5:A3) (V:X),(callFunc f a5).run As V=.ok (.enter f a5) V):=by show∀_ _,_;rcases hf with rfl|rfl<;>exact λa5 V=>B6
 clear h h1 a8 hw hg bi hf hU
 go_enter_defers func301,ntmps301
 go_wp2_with fail
 refine dl (λM V=>KD W b (O<|U W) M (.func (.func f) #[] #[]) so w ar s.next V) (λM=>{tmps:=#[Ag #[A8 b,.func (.func f) #[] #[]],A8<|O<|U W,.nilIface,A8 M,AO,A9 (O<|U W) 1,.func (.func f) #[] #[],A8<|O<|U W,A8 b,C Am c.toNat,Ag #[C Y so,C Y w,C .u64 ar],AO,AO,AO,AO,AO,AO,AO,AO,AO,AO,AO,AO,AO,AO,AO,AO,AO,AO,AO,AO,AO,AO,AO,AO,AO,AO,AO,AO,AO,AO,AO,AO,AO,AO,AO,AO,AO,AO,AO,AO,AO,AO,AO,AO,AO,AO,AO,AO,AO,AO,AO,AO,AO,AO,AO,AO,AO,AO,AO,AO,AO,AO],defers:=[]}) (λbb=>?reg) ?tail
 case reg =>
  refine Ei (S:=λV=>A7 V (O<|U W) #[A8 b,.func (.func f) #[] #[]] 218) B6 ?_;have hS:=AE bd;refine EN (i:=0) (v:=A9 (O<|U W) 1) Z B6 B6 B6 (λc a w h=>NG results301 (d:=5) B8 (c:=c) (a:=a) (w:=w) h) (AF ⟨Z,λV A=>rfl⟩) hS ?_;refine EN (i:=1) (v:=.func (.func f) #[] #[]) rfl B6 B6 B6 (λc a w h=>NG results301 (d:=6) B8 (c:=c) (a:=a) (w:=w) h) (AF ⟨rfl,λV A=>(by have h2:=Cc A 1;go_simp)⟩) hS ?_;refine EN (i:=2) (v:=A8<|O<|U W) Z B6 B6 B6 (λc a w h=>NG results301 (d:=7) B8 (c:=c) (a:=a) (w:=w) h) (AF ⟨Z,λV A=>rfl⟩) hS ?_;refine EN (i:=3) (v:=A8 b) Z B6 B6 B6 (λc a w h=>NG results301 (d:=8) B8 (c:=c) (a:=a) (w:=w) h) (AF ⟨Z,λV A=>(by have h2:=Cc A 0;go_simp)⟩) hS ?_;refine Hj 4 6 (λad y=>?_) λad y=>?_
  .go_simp;refine(a7 _ bc).mono ?_;rintro e w2 ⟨rfl,a4,am⟩;simp only[];have ai:=(am.block _ (Cd hS) E).trans hS;have al:=(Ci.of_below a1).trans am;have a9:=Cd ai;refine y.out _ _ ai λ_=>?_;clear y;refine Hj 5 6 (λad y=>?_) λad y=>?_
   .go_simp;rw[AE a2];refine Ce (cH _ al) ?_;rintro e w3 ⟨rfl,l⟩;simp only[];have ac:=(l.block _ a9).trans ai;have a3:=Cd ac;refine y.out _ _ ac λ_=>?_;clear y;refine CH 6 λad y=>?_;go_simp;have aj:(Az w3<|Aj #[C Y 0,C Y 0,C .u64 0] 275).heap[O<|U W]?=_:=(CB _ _ _ a3).trans ac;refine y.out _ _ aj λ_=>?_;clear y;refine CH 7 λad y=>?_;rw[Cp keJ];refine Je 275 _ _ Z (O<|U w3) #[C Y so,C Y w,C .u64 ar] Z Z 275 _ (Cj w3) OS Z BK ?_;have u:D (KD W b (O<|U W) (O<|U w3) (.func (.func f) #[] #[]) so w ar s.next<|(Az w3<|Aj #[C Y 0,C Y 0,C .u64 0] 275).setRow (O<|U w3) #[C Y so,C Y w,C .u64 ar]) :=
     Qa (M:=O<|U w3) HH ((a4.ac l).ac Cm) ((al.trans<|Ci.of_below l).trans<|Ci.of_below Cm) aj a3<|Cj w3
    refine y.out _ _ u.h λ_=>?_;clear y;refine CK ?_;exact bb _ _ u
   go_simp;have ac:(Az w2<|Aj #[C Y 0,C Y 0,C .u64 0] 275).heap[O<|U W]?=_:=(CB _ _ _ a9).trans ai;have an:A0 w2<|Az w2<|Aj #[C Y 0,C Y 0,C .u64 0] 275:=Cm;have a3:=Cd ac;refine y.out _ _ ac λ_=>?_;clear y;refine CH 5 λad y=>?_;go_simp;rw[AE a2];refine Ce (cH _<|al.trans<|Ci.of_below an) ?_;rintro e w3 ⟨rfl,l⟩;simp only[];have aj:=(l.block _ a3).trans ac;have az:=(l.block (O<|U w2) Ba).trans<|Cj w2 (o:=(Aj #[C Y 0,C Y 0,C .u64 0] 275));refine y.out _ _ aj λ_=>?_;clear y;refine CH 7 λad y=>?_;rw[Cp keJ];refine Je 275 _ _ Z (O<|U w2) #[C Y so,C Y w,C .u64 ar] Z Z 275 _ az OS Z BK ?_;have u:D (KD W b (O<|U W) (O<|U w2) (.func (.func f) #[] #[]) so w ar s.next<|AD w3 (O<|U w2) #[C Y so,C Y w,C .u64 ar]) :=
    Qa (M:=O<|U w2) HH ((a4.ac an).ac l) ((al.trans<|Ci.of_below an).trans<|Ci.of_below l) aj a9 az
   refine y.out _ _ u.h λ_=>?_;clear y;refine CK ?_;exact bb _ _ u
  go_simp;have ac:((Az W<|Aj #[A8 b,.func (.func f) #[] #[]] 218).drew.alloc<|Aj #[C Y 0,C Y 0,C .u64 0] 275).heap[O<|U W]?=_:=(CB _ _ _<|Cd hS).trans hS;have an:A0 W<|(Az W<|Aj #[A8 b,.func (.func f) #[] #[]] 218).drew.alloc<|Aj #[C Y 0,C Y 0,C .u64 0] 275:=a1.alloc a1.size _;have bh:((Az W<|Aj #[A8 b,.func (.func f) #[] #[]] 218).drew.alloc<|Aj #[C Y 0,C Y 0,C .u64 0] 275).heap[O (U W)+1]?=H (Aj #[C Y 0,C Y 0,C .u64 0] 275):=by have:=Cj (Az W<|Aj #[A8 b,.func (.func f) #[] #[]] 218).drew (o:=(Aj #[C Y 0,C Y 0,C .u64 0] 275));simp_all
  have bm:=T<|HH.ac an;refine y.out _ _ ac λ_=>?_;clear y;refine CH 4 λad y=>?_;go_simp;refine(a7 _ bm).mono ?_;rintro e w2 ⟨rfl,a4,am⟩;simp only[];have ai:=(am.block _ (Cd ac) E).trans ac;have bg:=(am.block _ (Cd bh) E).trans bh;have al:=(Ci.of_below an).trans am;refine y.out _ _ ai λ_=>?_;clear y;refine CH 5 λad y=>?_;go_simp;rw[AE a2];refine Ce (cH _ al) ?_;rintro e w3 ⟨rfl,l⟩;simp only[];have aj:=(l.block _<|Cd ai).trans ai;have az:=(l.block _<|Cd bg).trans bg;refine y.out _ _ aj λ_=>?_;clear y;refine CH 7 λad y=>?_;rw[Cp keJ];refine Je 275 _ _ Z (O (U W)+1) #[C Y so,C Y w,C .u64 ar] Z Z 275 _ az OS Z BK ?_;have u:D (KD W b (O<|U W) (O (U W)+1) (.func (.func f) #[] #[]) so w ar s.next<|AD w3 (O (U W)+1) #[C Y so,C Y w,C .u64 ar]) :=
   Qa (M:=(O (U W)+1)) HH (a4.ac l) (al.trans<|Ci.of_below l) aj E az
  refine y.out _ _ u.h λ_=>?_;clear y;refine CK ?_;exact bb _ _ u
 case tail =>
  intro M V hT;have u:=T hT;clear hT bd bc a1 HH cH a7 a2;have r:=Cc u.h 0;have j:=Cc u.h 1;have m0:=Cc u.c 0;have m1:=Cc u.c 1;have m2:=Cc u.c 2;have br:so=0\/so=1\/so=2\/so=3\/so=4\/so=5\/so=6\/so=7\/so=8\/so=9\/so=10:=E;rcases br with k|k|k|k|k|k|k|k|k|k|k
  all_goals
   first|have e0:((so:J)==0)=AP:=by rw[k];rfl|have e0:((so:J)==0)=AQ:=C8
   first|have e2:((so:J)==2)=AP:=by rw[k];rfl|have e2:((so:J)==2)=AQ:=C8
   first|have e3:((so:J)==3)=AP:=by rw[k];rfl|have e3:((so:J)==3)=AQ:=C8
   first|have e4:((so:J)==4)=AP:=by rw[k];rfl|have e4:((so:J)==4)=AQ:=C8
   first|have e5:((so:J)==5)=AP:=by rw[k];rfl|have e5:((so:J)==5)=AQ:=C8
   first|have e6:((so:J)==6)=AP:=by rw[k];rfl|have e6:((so:J)==6)=AQ:=C8
   first|have e7:((so:J)==7)=AP:=by rw[k];rfl|have e7:((so:J)==7)=AQ:=C8
   first|have e8:((so:J)==8)=AP:=by rw[k];rfl|have e8:((so:J)==8)=AQ:=C8
   first|have e9:((so:J)==9)=AP:=by rw[k];rfl|have e9:((so:J)==9)=AQ:=C8
   first|have bn:((so:J)==10)=AP:=by rw[k];rfl|have bn:((so:J)==10)=AQ:=C8
  .rw[Cp k]at t;subst t;have be:=av V u.e;clear k av cA ae cN cB cX aq au cL cM
   go_wp2_with(first
    |(go_at_call 271;refine be.mono ?_;clear be;rintro e w7 ⟨hF,rfl⟩;obtain rfl:=hF))
   exact⟨u.ai,Z,_,u.e⟩
  all_goals
   rw[Cl E]at t
   first
   |have h9:9<=so:=by omega
    clear h9;by_cases ao:(s.c:J)=s.b
    .rw[Cp ⟨E,ao⟩]at t;subst t;have cE:=aq V u.e ao;clear k av cA ae cN cB cX aq au cL cM
     go_wp2_with(first
      |(go_at_call 265;refine cE.mono ?_;clear cE;rintro e w7 ⟨hF,bo,bp⟩;obtain rfl:=hF))
     exact⟨u.ai.trans bo,Z,bp⟩
    rw[Cl λhh=>ao hh.2]at t;have cE:=au V u.e ao;clear av cA cN cB cX aq au;rcases ha:CZ s.e s.d w (s.a+1) ar with er|xq
    .rw[ha]at t;simp only[]at t;subst t;obtain⟨en,pl⟩:=er;rw[ha]at ae;clear k cL cM af
     go_wp2_with(first
      |(go_at_call 265;refine cE.mono ?_;clear cE;rintro e w4 ⟨rfl,ax,aw⟩;have F:=T<|u.a0 ax aw;clear u r j m0 m1 m2 aw ax;have r:=Cc F.h 0;have j:=Cc F.h 1;have m0:=Cc F.c 0;have m1:=Cc F.c 1;have m2:=Cc F.c 2;have L:=ae w4 F.e;clear ae)
      |(go_at_call 302;refine L.mono ?_;clear L;rintro e w5 ⟨N,rfl,pz,ba⟩))
     exact WW Ba ba Z B9 λB ay ag=>⟨(F.ai.trans N).trans ag,Z,_,ay⟩
    obtain⟨x,q⟩:=xq;rw[ha]at t ae;simp only[]at t;rw[k]at t;have ap:=af.out x q ha
    first
    |rw[r8]at t
     obtain⟨ak,HZ⟩:=CC<|GX (DR z s.e s.d s.b g<|s.c+1) x q [];have Q:=λB (hs:Ck B b {s with a:=q,c:=s.c+1}) (hb:Ci b W B)=>cL ao B q x hs hb ap
    |rw[r9]at t
     obtain⟨ak,HZ⟩:=CC<|GJ (El z s.e s.d) (DR z s.e s.d s.b g<|s.c+1) x q [] [];have Q:=λB (hs:Ck B b {s with a:=q,c:=s.c+1}) (hb:Ci b W B)=>cM ao B q x hs hb ap
    rw[AE HZ]at t Q;clear k cL cM af ha HZ;rcases ak with⟨en,pl⟩|⟨ds,bt⟩
    all_goals
     simp only[]at t;subst t
     go_wp2_with(first
      |(go_at_call 265;refine cE.mono ?_;clear cE;rintro e w4 ⟨rfl,ax,aw⟩;have F:=T<|u.a0 ax aw;clear u r j m0 m1 m2 aw ax;have r:=Cc F.h 0;have j:=Cc F.h 1;have m0:=Cc F.c 0;have m1:=Cc F.c 1;have m2:=Cc F.c 2;have L:=ae w4 F.e;clear ae)
      |(go_at_call 302;refine L.mono ?_;clear L;rintro e w5 ⟨N,rfl,ab⟩;have m:=T<|F.a0 ab N;clear F r j m0 m1 m2 N ab;have r:=Cc m.h 0;have j:=Cc m.h 1;have m0:=Cc m.c 0;have m1:=Cc m.c 1;have m2:=Cc m.c 2;have R:=Q w5 m.e m.ai;clear Q)
      |(go_at_call 306;refine R.mono ?_;clear R;rintro e w6 ⟨aa,ah⟩;first|(obtain⟨⟨v6,rfl,⟨a6,n6,c6,rfl⟩,bf⟩,P⟩:=ah)|(obtain⟨rfl,P⟩:=ah))
      |(go_at_call 307;refine R.mono ?_;clear R;rintro e w6 ⟨aa,ah⟩;first|(obtain⟨⟨v6,rfl,⟨a6,n6,c6,rfl⟩,bf⟩,P⟩:=ah)|(obtain⟨rfl,P⟩:=ah)))
     first
     |exact WW Ba P.choose_spec Z B9 λB ay ag=>⟨(m.ai.trans aa).trans ag,Z,_,ay⟩
     |exact WW Ba P Z B9 λB ay ag=>⟨_,Rr results301,(m.ai.trans aa).trans ag,⟨_,_,Z,rg m.ai.size bq bf ag⟩,ay⟩
   |rw[Cl E]at t
    clear av ae aq au cL cM;have L:=cA V u.e;clear cA;rcases ha:CZ s.e s.d w (s.a+1) ar with er|xq
    .rw[ha]at t L;simp only[]at t;subst t;obtain⟨en,pl⟩:=er;clear k cN cB cX af
     go_wp2_with(first
      |(go_at_call 302;refine L.mono ?_;clear L;rintro e w5 ⟨N,rfl,pz,ba⟩))
     exact⟨u.ai.trans N,Z,pz,ba⟩
    obtain⟨x,q⟩:=xq;rw[ha]at t L;simp only[]at t;have ap:=af.out x q ha
    first
    |have h9:so<=3:=by omega
     clear h9;rw[k]at t
     first|rw[qW]at t|rw[qX]at t|rw[qY]at t
     subst t;clear k cN cB cX af ha
     go_wp2_with(first
      |(go_at_call 302;refine L.mono ?_;clear L;rintro e w5 ⟨N,rfl,ab⟩;have m:=T<|u.a0 ab N;clear u r j m0 m1 m2 N ab;have r:=Cc m.h 0;have j:=Cc m.h 1;have m0:=Cc m.c 0;have m1:=Cc m.c 1;have m2:=Cc m.c 2))
     exact⟨_,Rr results301,m.ai,⟨_,_,Z,Z⟩,m.e⟩
    |have h9:7<=so:=by omega
     clear h9;rw[k]at t
     first
     |rw[qZ]at t
      obtain⟨ak,HZ⟩:=CC<|EV s.e s.d x q [];have Q:=λB (hs:Ck B b {s with a:=q}) (_:Ci b W B)=>cB B q x hs ap
     |rw[r7]at t
      obtain⟨ak,HZ⟩:=CC<|Ds s.e s.d x q [] 0;have Q:=λB (hs:Ck B b {s with a:=q}) (hb:Ci b W B)=>cX B q x hs hb ap
     rw[AE HZ]at t Q;clear k cN cB cX af ha HZ;rcases ak with⟨en,pl⟩|⟨bx,bt⟩
     all_goals
      simp only[]at t;subst t
      go_wp2_with(first
       |(go_at_call 302;refine L.mono ?_;clear L;rintro e w5 ⟨N,rfl,ab⟩;have m:=T<|u.a0 ab N;clear u r j m0 m1 m2 N ab;have r:=Cc m.h 0;have j:=Cc m.h 1;have m0:=Cc m.c 0;have m1:=Cc m.c 1;have m2:=Cc m.c 2;have R:=Q w5 m.e m.ai;clear Q)
       |(go_at_call 304;refine R.mono ?_;clear R;rintro e w6 ⟨aa,ah⟩;first|(obtain⟨⟨v6,rfl,o6,b6,a6,n6,c6,rfl⟩,P⟩:=ah)|(obtain⟨rfl,P⟩:=ah))
       |(go_at_call 305;refine R.mono ?_;clear R;rintro e w6 ⟨aa,rfl,P⟩))
      first
      |exact⟨m.ai.trans aa,Z,P⟩
      |exact⟨_,Rr results301,m.ai.trans aa,⟨_,_,Z,Z⟩,P⟩
      |exact⟨_,Rr results301,m.ai.trans aa,⟨_,_,Z,rh (AY m.ai.size) ⟨o6,b6,_,_,_,Z⟩⟩,P⟩
    |rw[rf E]at t
     have Q:=λB (hs:Ck B b {s with a:=q})=>cN B q x hs ap;obtain⟨ak,HZ⟩:=CC<|FE so w x q;rw[AE HZ]at t Q;clear k cN cB cX af ha;rcases ak with⟨en,pl⟩|bz
     all_goals
      simp only[]at t;subst t
      try have bl:=T<|dt HZ
      clear HZ
      go_wp2_with(first
       |(go_at_call 302;refine L.mono ?_;clear L;rintro e w5 ⟨N,rfl,ab⟩;have m:=T<|u.a0 ab N;clear u r j m0 m1 m2 N ab;have r:=Cc m.h 0;have j:=Cc m.h 1;have m0:=Cc m.c 0;have m1:=Cc m.c 1;have m2:=Cc m.c 2;have R:=Q w5 m.e;clear Q)
       |(go_at_call 303;refine R.mono ?_;clear R;rintro e w6 ⟨aa,rfl,P⟩))
      first
      |exact⟨m.ai.trans aa,Z,P⟩
      |exact⟨_,Rr results301,m.ai.trans aa,⟨_,_,Z,Z,bl⟩,P⟩
structure If(b m:AH)(W W':Ap):Prop where
 os:W'.os=W.os
 tape:W'.tape=W.tape
 output:W'.output=W.output
 size:Au (Av W)<=Au (Av W')
 block:∀k,k<Au (Av W)->k≠b->k≠m->W'.heap[k]?=W.heap[k]?
def If.of1(h:Ci b W W'):If b m W W':=⟨h.os,h.tape,h.output,h.size,λk a c _=>h.block k a c⟩
def If.of2(h:Ci m W W'):If b m W W':=⟨h.os,h.tape,h.output,h.size,λk a _ c=>h.block k a c⟩
def If.trans{A B C:X}(h:If b m A B)(k:If b m B C):If b m A C :=
 ⟨k.os.trans h.os,k.tape.trans h.tape,k.output.trans h.output,CE h.size k.size,λi d a c=>(k.block i Bn a c).trans<|h.block i d a c⟩
def Ck.a3(h:Ck V b s)(k:m≠b)(hi:∀g off,s.e≠[]->s.f=H ⟨g,off,Ao⟩->g≠m)(d:Ci m V V'):Ck V' b s :=
 ⟨(d.block b (Cd h.aq)<|Ne.symm k).trans h.aq,λi f=>by obtain⟨g,off,a,j,c⟩:=h.c i f;exact⟨g,off,a,j,(Jd<|d.block g (Fk c)<|hi g off (λe=>by simp[e]at f) a).trans c⟩,h.len,h.a⟩
def F5.ai(h:F5 V m ks)(d:m≠b)(a:Ci b V V'):F5 V' m ks :=
 h.kept (row:=H b) ⟨a.os,a.tape,a.output,a.size,λk c f=>a.block k c λe=>f<|by rw[e]⟩ (λe=>d<|by injection e)
def dv(W:Ap)(b m:AH)(s:Cw)(ks:AJ A1)(r:A5 A1)(e:Ending)(W':Ap):Prop :=
 If b m W W'/\match r with
 |.ok (l,p)=>e=Ak (Ae ⟨Aw l⟩)/\Ck W' b {s with a:=p}/\F5 W' m (l::ks)
 |.error (en,pl)=>D4 en pl e/\∃p,Ck W' b {s with a:=p}
theorem TE:∀(n p b:I) (a l:A1) (r:I),Ds bs lim n p a b=.ok (l,r)->K l=K a+n/\r=p+n
 |0,p,b,a,l,r,h=>kfF
 |n+1,p,b,a,l,r,h=>by
  rw[Ds]at h;split at h
  .cases h
  split at h
  .cases h
  split at h
  .cases h
  have:=TE n _ _ _ l r h;rw[Dj]at this;simp at this;omega
theorem rj(hd:I->I×I×I){f w:I}(h:Ck W b s)(h1:JB s c)(hk:F5 W m ks)(bf:m≠b)(bd:∀a7 off,s.e≠[]->s.f=H ⟨a7,off,Ao⟩->a7≠m)(bm:K ks<1000000000)(bc:hd c.toNat=(so,w,ar))(hw:w<=8)(hg:w=0\/ar=0)(bb:ar<18446744073709551616)(bn:K s.e<=200000000)(hf:f=111\/f=112)(hU:∀V,Ci b W V->U8 V)(bk:7<b)(cH:∀V,Ci b W V->Ar As f #[C Am c.toNat] V λe V'=>e=Ak (Ag #[C Y so,C Y w,C .u64 ar])/\A0 V V'):Ar As 309 #[Ag #[A8 b,.func (.func f) #[] #[]],.map<|H m] W<|dv W b m s ks<|El hd s.e s.d ks s.a:=by
 obtain⟨bp,HR⟩:=CC<|El hd s.e s.d ks s.a;rw[AE HR];have j:=AE HR;unfold El at j;rw[h1.1]at j;simp only[]at j;rw[Cl h1.2,bc]at j;simp only[]at j;clear HR bc;have an:=λV d=>J3 (W:=V) (b:=b) d h1;have cA:∀V,Ck V b _->Ar _ _ _ V (Q5 V b _ _<|CZ s.e s.d w (s.a+1) ar):=λV d=>WD (s:=s.next) f so hw hg d;have ak:D (∀x q,CZ s.e s.d w (s.a+1) ar=.ok (x,q)->x<18446744073709551616):=λx q hx=>du ⟨hw,hg,bb⟩ hx;have cX:∀(V:X) (p x:I),Ck V b _->Ci b W V->x<18446744073709551616->Ar _ _ _ V (Q5 V b _ _<|Ds s.e s.d x p [] 0):=λV p x d hB hx=>dg (s:={s with a:=p}) f hx d (hU V hB) bk bn;have am:=λV d=>by have:=G4 (W:=V) (b:=b) (s:=s.next) 9 d;rwa[show((s.next.a:J)-1)=s.a by show(((s.a+1)):J)-1=s.a;omega]at this
 have ah:∀(V:X) (p:I),Ck V b _->Ar _ _ _ V λe W'=>D4 12 (p-1) e/\W'=V:=λV p d=>G4 (s:={s with a:=p}) 12 d;have az:D (∀V,Ci b W V->F5 V m ks):=λV d=>hk.ai bf d;have bh:D (∀V V' p,Ck V b _->Ci m V V'->Ck V' b {s with a:=p}):=λV V' p d hB=>d.a3 bf bd hB;have HH:=T h;have bq:=Cd h.aq;have ao:Below _ W (Az W<|M #[A8 b,.func (.func f) #[] #[]] 218).drew:=(Cm).drew;have ae:=T ao;have a1:=T<|h.ac ao;have a2:D<|(Az W _).drew.heap[O<|U W]?=H (M #[A8 b,.func (.func f) #[] #[]] 218):=Cj W;have af:D (∀(al:A3) (V:X),(callFunc f al).run As V=.ok (.enter f al) V):=by show∀_ _,_;rcases hf with rfl|rfl<;>exact λal V=>B6
 clear h h1 ao hw hg bb hf hU hk bd;go_enter func309,ntmps309
 go_wp2_with fail
 refine dl (λaa V=>KD W b (O<|U W) aa (.func (.func f) #[] #[]) so w ar s.next V) (λaa=>{tmps:=#[Ag #[A8 b,.func (.func f) #[] #[]],.map<|H m,A8<|O<|U W,AO,Ae ⟨#[]⟩,A8 aa,AO,A9 (O<|U W) 1,.func (.func f) #[] #[],A8<|O<|U W,A8 b,C Am c.toNat,Ag #[C Y so,C Y w,C .u64 ar],AO,AO,AO,AO,AO,AO,AO,AO,AO,AO,AO,AO,AO,AO,AO,AO,AO,AO,AO],defers:=[]}) (λax=>?reg) ?tail
 case reg =>
  apply Ei (S:=λV=>A7 V (O<|U W) #[A8 b,.func (.func f) #[] #[]] 218) B6;have A:=AE a2;refine EN (i:=0) (v:=A9 (O<|U W) 1) rfl B6 B6 B6 (λ_ _ _ h=>h) (AF ⟨rfl,λV d=>rfl⟩) A <| EN (i:=1) (v:=.func (.func f) #[] #[]) rfl B6 B6 B6 (λ_ _ _ h=>h) (AF ⟨rfl,λV d=>(by have h2:=Cc d 1;go_simp)⟩) A ?_;refine EN (i:=2) (v:=A8<|O<|U W) Z B6 B6 B6 (λ_ _ _ h=>h) (AF ⟨Z,λV d=>rfl⟩) A <| EN (i:=3) (v:=A8 b) Z B6 B6 B6 (λ_ _ _ h=>h) (AF ⟨Z,λV d=>(by have h2:=Cc d 0;go_simp)⟩) A ?_;refine Hj 4 6 (λn a=>?_) λn a=>?_
  .go_simp;apply (an _ a1).mono;rintro e r ⟨rfl,aj,P⟩;simp only[];have B:=(P.block _ (Cd A) E).trans A;have N:=(Ci.of_below ae).trans P;have au:=Cd B;refine a.out _ _ B λ_=>?_;clear a;refine Hj 5 6 (λn a=>?_) λn a=>?_
   .go_simp;rw[AE af];apply Ce<|cH _ N;rintro e w3 ⟨rfl,t⟩;simp only[];have y:=(t.block _ au).trans B;have ai:=Cd y;refine a.out _ _ y λ_=>?_;clear a;refine CH 6 λn a=>?_;go_simp;have F:(Az w3<|M #[C Y 0,C Y 0,C .u64 0] 275).heap[O<|U W]?=_:=(CB _ _ _ ai).trans y;refine a.out _ _ F λ_=>?_;clear a;refine CH 7 λn a=>?_;rw[Cp keJ];refine Je _ _ _ Z _ _ Z Z _ _ (Cj w3) OS Z BK ?_;have k:D (KD W b _ _ _ so w ar _ _) :=
     Qa HH ((aj.ac t).ac Cm) ((N.trans<|Ci.of_below t).trans<|Ci.of_below Cm) F ai<|Cj w3
    refine a.out _ _ k.h λ_=>?_;clear a;exact CK <| ax _ _ k
   go_simp;have y:(Az r<|M #[C Y 0,C Y 0,C .u64 0] 275).heap[O<|U W]?=_:=(CB _ _ _ au).trans B;have R:Below _ r<|Az r<|M #[C Y 0,C Y 0,C .u64 0] 275:=Cm;have ai:=Cd y;refine a.out _ _ y λ_=>?_;clear a;refine CH 5 λn a=>?_;go_simp;rw[AE af];refine Ce (cH _<|N.trans<|Ci.of_below R) ?_;rintro e w3 ⟨rfl,t⟩;simp only[];have F:=(t.block _ ai).trans y;have ad:=(t.block _ Ba).trans<|Cj r (o:=(M _ 275));refine a.out _ _ F λ_=>?_;clear a;refine CH 7 λn a=>?_;rw[Cp keJ];apply Je 275 _ _ Z (O<|U r) #[C Y so,C Y w,C .u64 ar] Z Z 275 _ ad OS Z BK;have k:D (KD W b _ _ _ so w ar _ _) :=
    Qa HH ((aj.ac R).ac t) ((N.trans<|Ci.of_below R).trans<|Ci.of_below t) F au ad
   refine a.out _ _ k.h λ_=>?_;clear a;exact CK <| ax _ _ k
  go_simp;have y:((Az W _).drew.alloc<|M #[C Y 0,C Y 0,C .u64 0] 275).heap[O<|U W]?=_:=(CB _ _ _<|Cd A).trans A;have R:Below _ W<|(Az W _).drew.alloc<|M #[C Y 0,C Y 0,C .u64 0] 275:=ae.alloc ae.size _;have ba:((Az W<|M #[A8 b,.func (.func f) #[] #[]] 218).drew.alloc<|M #[C Y 0,C Y 0,C .u64 0] 275).heap[O (U W)+1]?=H (M #[C Y 0,C Y 0,C .u64 0] 275):=by have:=Cj (Az W<|M #[A8 b,.func (.func f) #[] #[]] 218).drew (o:=(M #[C Y 0,C Y 0,C .u64 0] 275));simp_all
  have bi:=T<|HH.ac R;refine a.out _ _ y λ_=>?_;clear a;refine CH 4 λn a=>?_;go_simp;apply (an _ bi).mono;rintro e r ⟨rfl,aj,P⟩;simp only[];have B:=(P.block _ (Cd y) E).trans y;have a9:=(P.block _ (Cd ba) E).trans ba;have N:=(Ci.of_below R).trans P;refine a.out _ _ B λ_=>?_;clear a;refine CH 5 λn a=>?_;go_simp;rw[AE af];apply Ce<|cH _ N;rintro e w3 ⟨rfl,t⟩;simp only[];have F:=(t.block _<|Cd B).trans B;have ad:=(t.block _<|Cd a9).trans a9;refine a.out _ _ F λ_=>?_;clear a;refine CH 7 λn a=>?_;rw[Cp keJ];apply Je 275 _ _ Z (O (U W)+1) #[C Y so,C Y w,C .u64 ar] Z Z 275 _ ad OS Z BK;have k:D (KD W b _ _ _ so w ar _ _) :=
   Qa HH (aj.ac t) (N.trans<|Ci.of_below t) F E ad
  refine a.out _ _ k.h λ_=>?_;clear a;exact CK <| ax _ _ k
 case tail =>
  intro aa V hT;have k:=T hT;clear hT a2 a1 ae HH cH an af;have k0:=Cc k.h 0;have k1:=Cc k.h 1;have m0:=Cc k.c 0;have m1:=Cc k.c 1;have m2:=Cc k.c 2;by_cases l:so=8
  .have e8:((so:J)==8)=AP:=kfE;have bj:((so:J) != 8)=AQ:=kfE;rw[Cp l]at j;clear am l
   go_wp2_with fail
   apply Ei (S:=λV9=>A7 V9 (O<|U W) #[A8 b,.func (.func f) #[] #[]] 218/\A7 V9 aa #[C Y so,C Y w,C .u64 ar] 275) B6;have z:=T<|k.a0 (k.e.ac (Cu _ _).drew)<|Ci.of_below (Cu _ _).drew;change wpAnyH _ _ _ _ _ _ _ _ (World.drew V);refine EN (i:=0) (v:=Ag #[A8 b,.func (.func f) #[] #[]]) rfl B6 B6 B6 (λ_ _ _ h=>h) (AF ⟨rfl,λV9 d=>keq⟩) ⟨z.h,z.c⟩ ?_;refine EN (i:=1) (v:=Ag #[A8 b,.func (.func f) #[] #[]]) rfl B6 B6 B6 (λ_ _ _ h=>h) (AF ⟨rfl,λV9 d=>keq⟩) ⟨z.h,z.c⟩ ?_;refine EN (i:=2) (v:=Ag #[C Y so,C Y w,C .u64 ar]) Z B6 B6 B6 (λ_ _ _ h=>h) (AF ⟨Z,λV9 d=>(by have c0:=Cc d.2 0;have c1:=Cc d.2 1;have c2:=Cc d.2 2;go_simp)⟩) ⟨z.h,z.c⟩ ?_;have a3:=cA _ z.e;clear cA k k0 k1 m0 m1 m2;refine CH 3 λn a=>?_;go_simp;apply a3.mono;clear a3;rintro e w5 ⟨ap,ab⟩;rcases ha:CZ s.e s.d w (s.a+1) ar with er|xq
   .rw[ha]at j ab;simp only[]at j;subst j;obtain⟨en,pl⟩:=er;obtain⟨hF,pz,aw⟩:=(show D4 en pl e/\∃p,Ck w5 b {s with a:=p}from ab)
    obtain rfl:=hF;exact⟨Z,.of1<|z.ai.trans ap,Z,pz,aw⟩
   obtain⟨x,q⟩:=xq;rw[ha]at j ab;simp only[]at j;have bo:=ak.out x q ha;obtain⟨rfl,a8⟩:=(show e=Ak (.int _ x)/\Ck w5 b {s with a:=q}from ab)
   have L:=T<|z.a0 a8 ap;simp only[];refine a.out _ _ ⟨L.h,L.c⟩ λ_=>?_;clear a;have a6:=cX w5 q x L.e L.ai bo;clear cX ak ha ab ap a8 z;refine CH 4 λn a=>?_;go_simp;apply a6.mono;clear a6;rintro e w6 ⟨aq,ac⟩;rcases hz:Ds s.e s.d x q [] 0 with er|lr
   .rw[hz]at j ac;simp only[]at j;subst j;obtain⟨en,pl⟩:=er;obtain⟨hF,pz,aw⟩:=(show D4 en pl e/\∃p,Ck w6 b {s with a:=p}from ac)
    obtain rfl:=hF;exact⟨Z,.of1<|L.ai.trans aq,Z,pz,aw⟩
   obtain⟨bg,ay⟩:=lr;rw[hz]at j ac;simp only[]at j;have be:=TE _ _ _ _ _ _ hz;simp only[J1,Gf]at be;obtain⟨rfl,av⟩:=(show e=Ak (.string _)/\Ck w6 b {s with a:=ay}from ac)
   have u:=T<|L.a0 av aq;have a0:D<|K bg<=1000000000:=by show _<=_;have h1:ay<=K s.e:=av.a;omega
   simp only[];refine a.out _ _ ⟨u.h,u.c⟩ λ_=>?_;clear a hz be ac aq av L;refine CH 5 λn a=>?_;go_simp;refine a.out _ _ ⟨u.h,u.c⟩ λ_=>?_;clear a;refine CK ?_;have k0:=Cc u.h 0;by_cases g:bg∈ks
   .rw[Cp g]at j;subst j;have cK:=dh (az w6 u.ai) g a0;clear g
    go_wp2_with(first
     |(go_at_call 294;apply cK.mono;clear cK k0;rintro e w7 ⟨rfl,Q⟩;have ag:=T<|u.a0 (u.e.ac Q)<|Ci.of_below Q;clear u Q;have k0:=Cc ag.h 0;have a5:=ah w7 ay ag.e;clear ah)
     |(go_at_call 271;apply a5.mono;clear a5;rintro e w8 ⟨hF,rfl⟩;obtain rfl:=hF))
    exact⟨Z,.of1 ag.ai,Z,_,ag.e⟩
   rw[Cl g]at j;subst j;have cK:=di (az w6 u.ai) g bm a0;clear g ah
   go_wp2_with(first
    |(go_at_call 294;apply cK.mono;clear cK k0;rintro e w7 ⟨rfl,bl,Q⟩))
   go_ret;exact⟨(If.of1 u.ai).trans<|If.of2 Q,Z,bh _ _ _ u.e Q,bl⟩
  have e8:((so:J)==8)=AQ:=B7;have bj:((so:J) != 8)=AP:=B7;rw[Cl l]at j;subst j;have a4:=am V k.e;clear l am cA cX ah ak
  go_wp2_with(first
   |(go_at_call 271;apply a4.mono;clear a4;rintro e w7 ⟨hF,rfl⟩;obtain rfl:=hF))
  exact⟨Z,.of1 k.ai,Z,_,k.e⟩
def dw{f:I}(r:J)(h:Ck W b s)(q:∀V,Ck V b s->Ar As 270 #[A8 b] V λe k=>D4 r s.a e/\A0 V k):Ar As 309 #[Ag #[A8 b,.func (.func f) #[] #[]],.map<|H m] W λe k=>Ci b W k/\D4 r s.a e/\∃p,Ck k b {s with a:=p}:=by
 have j:=T h;have t:Below _ W (Az W<|M #[A8 b,.func (.func f) #[] #[]] 218).drew:=(Cm).drew;have c:=T t;have u:D<|(Az W _).drew.heap[O<|U W]?=H (M #[A8 b,.func (.func f) #[] #[]] 218):=Cj W;clear h t;go_enter func309,ntmps309
 go_wp2_with fail
 apply Ei (S:=λV=>A7 V (O<|U W) #[A8 b,.func (.func f) #[] #[]] 218) B6;have a:=AE u;refine EN (i:=0) (v:=A9 (O<|U W) 1) rfl B6 B6 B6 (λ_ _ _ h=>h) (AF ⟨rfl,λV g=>rfl⟩) a <| EN (i:=1) (v:=.func (.func f) #[] #[]) rfl B6 B6 B6 (λ_ _ _ h=>h) (AF ⟨rfl,λV g=>(by have w:=Cc g 1;go_simp)⟩) a ?_;refine EN (i:=2) (v:=A8<|O<|U W) Z B6 B6 B6 (λ_ _ _ h=>h) (AF ⟨Z,λV g=>rfl⟩) a <| EN (i:=3) (v:=A8 b) Z B6 B6 B6 (λ_ _ _ h=>h) (AF ⟨Z,λV g=>(by have w:=Cc g 0;go_simp)⟩) a ?_;refine Hj 4 6 (λo l=>?_) λo l=>?_
 .go_simp;apply (q _<|j.ac c).mono;rintro e y ⟨hF,d⟩;obtain rfl:=hF;exact⟨Z,(Ci.of_below c).trans<|Ci.of_below d,Z,_,(j.ac c).ac d⟩
 go_simp;have x:((Az W _).drew.alloc<|M #[C Y 0,C Y 0,C .u64 0] 275).heap[O<|U W]?=_:=(CB _ _ _<|Cd a).trans a;have n:Below _ W<|(Az W _).drew.alloc<|M #[C Y 0,C Y 0,C .u64 0] 275:=c.alloc c.size _;refine l.out _ _ x λ_=>?_;clear l;refine CH 4 λo l=>?_;go_simp;apply (q _<|j.ac n).mono;rintro e y ⟨hF,d⟩;obtain rfl:=hF;exact⟨Z,(Ci.of_below n).trans<|Ci.of_below d,Z,_,(j.ac n).ac d⟩
structure NN(f:AH)(hd:AH->AH×AH×AH)(b:AH)(W:Ap):Prop where
 fn:f=111\/f=112
 so:∀c,c<256->(hd c).1<=10
 a:∀c,c<256->(hd c).2.1<=8/\((hd c).2.1=0\/(hd c).2.2=0)/\(hd c).2.2<18446744073709551616
 call:∀(c:AU) (V:Ap),Ci b W V->Ar As f #[Ab Am c.toNat] V λe V'=>e=Ak (Ag #[Ab Al (hd c.toNat).1,Ab Al (hd c.toNat).2.1,Ab .u64 (hd c.toNat).2.2])/\A0 V V'
def NN.ai{f:I}(h:NN f hd b W)(d:Ci b W V):NN f hd b V:=⟨h.fn,h.so,h.a,λc a e=>h.call c a<|d.trans e⟩
def rk{f:I}(h:Ck W b s)(p:F5 W m ks)(t:m≠b)(o:∀g off,s.e≠[]->s.f=H ⟨g,off,Ao⟩->g≠m)(q:K ks<1000000000)(r:K s.e<=200000000)(n:∀V,Ci b W V->U8 V)(l:7<b)(d:NN f hd b W):Ar As 309 #[Ag #[A8 b,.func (.func f) #[] #[]],.map<|H m] W<|dv W b m s ks<|El hd s.e s.d ks s.a:=by
 rcases JC h with a|a|⟨c,a⟩
 .have e:El hd s.e s.d ks s.a=.error (9,s.a):=by unfold El;rw[I6 (by have:s.a=K s.e:=a;omega)]
  rw[e];apply (dw 9 h λV k=>KA k a).mono;rintro e w ⟨a,i,j⟩;exact⟨.of1 a,i,j⟩
 .have e:El hd s.e s.d ks s.a=.error (8,s.a):=by unfold El;rw[D7 a.1];simp only[];rw[Cp a.2]
  rw[e];apply (dw 8 h λV k=>KB k a).mono;rintro e w ⟨a,i,j⟩;exact⟨.of1 a,i,j⟩
 exact rj hd h a p t o q Z (d.a _ c.toNat_lt).1 (d.a _ c.toNat_lt).2.1 (d.a _ c.toNat_lt).2.2 r d.fn n l<|d.call c
def JI(k:AH)(V:Ap)(F:AH->Prop)(xs:AJ Aq)(es:AJ<|Lit×AM Unit):Prop :=
 ∀(i:AH) (key:Lit) (d:A2),es[i]?=An (key,d)->∃l x,key=.string l/\xs[2*i]?=An (Ae ⟨Aw l⟩)/\xs[2*i+1]?=An x/\CA k V F x d
theorem JI.same{G:I->Prop}(h:JI k V F xs es)(f:∀k,F k->G k)(j:∀k,F k->V'.heap[k]?=V.heap[k]?):JI k V' G xs es:=λi key d g=>by obtain⟨l,x,a,b,c,e⟩:=h i key d g;exact⟨l,x,a,b,c,e.same f j⟩
def Ci.ac{A B C:X}(h:Ci b A B)(k:If b m B C)(d:O (U A)<=m:=by omega):Ci b A C :=
 ⟨Ca k.os h.os,Ca k.tape h.tape,Ca k.output h.output,CE h.size k.size,λi c a=>Ca (k.block i Bn a E)<|h.block i c a⟩
structure Lo(k:AH)(W:Ap)(b:AH)(fv:Aq)(s:Cw)(p:AH)(v:Aq)(es:AJ (Lit×AM Unit))(ks:AJ A1)(V:Ap):Prop where
 e:Ck V b {s with a:=p}
 ai:Ci b W V
 h:V.heap[Au (Av W)]?=An (Aj #[A8 b,fv] 218)
 q:F5 V (Au (Av W)+1) ks
 a2:∃xs,V.ownsRow (Au (Av W)+2) 225 2 v (At es) xs/\JI k V (λj=>Au (Av W)+2<=j/\j<Au (Av V)/\An j≠Ax v) xs es
 size:Au (Av W)+2<=Au (Av V)
def dx(h:W.ownsRow base t size v n xs)(k:If b m W W')(p:b<base)(o:m<base):W'.ownsRow base t size v n xs:=by
 obtain⟨i,a⟩:=h;refine⟨i,?_⟩;rcases a with a|⟨g,d,f,e,l,c,j⟩
 .exact AF a
 exact AG ⟨g,d,f,e,l,Ca (k.block g (Cd c) E E) c,j⟩
def Lo.a0{ks':AJ A1}(h:Lo k W b fv s p v es ks V)(hb:b<O (U W))(g:Ck V' b {s with a:=q})(a:If b (O (U W)+1) V V')(f:F5 V' (O (U W)+1) ks'):Lo k W b fv s q v es ks' V':=by obtain⟨i,d,e⟩:=h.a2;refine⟨g,h.ai.ac a,Ca (a.block _ (Cd h.h) E E) h.h,f,⟨i,dx d a E E,?_⟩,CE h.size a.size⟩;exact e.same (λj c=>⟨c.1,CQ c.2.1 a.size,c.2.2⟩) λj c=>a.block j c.2.1 E E
theorem Lo.push{x:Aq}{l:A1}{d:A2}(h:Lo k W b fv s p v es ks V)(B:Ck W b s)(u:V.ownsRow (O (U W)+2) 225 2 v (K es) xs)(hx:JI k V (λj=>O (U W)+2<=j/\j<O (U V)/\H j≠Ax v) xs es)(N:CA k V (λj=>O (U V0)<=j/\j<O (U V)) x d)(ad:∀g,Ax v=H g->g<O (U V0))(aa:O (U W)+2<=O (U V0))(R:w5.ownsRow (O (U W)+2) 225 2 v' (K es+1)<|xs++[Ae ⟨Aw l⟩,x])(f:(Az V<|M #[Ae ⟨Aw l⟩,x] 225).grownBy w5<|Ax v)(o:Ax v'=Ax v\/Ax v'=H (O<|U<|Az V<|M #[Ae ⟨Aw l⟩,x] 225)):Lo k W b fv s p v' (es++[(.string l,d)]) ks w5:=by
 have ac:=h.size;have ab:O (U V)+1<=O (U w5):=kfc;have key:∀g,Ax v=H g->O (U W)+2<=g:=λg f=>DK u f;have q:=λj a n=>Ca (f.block j B7 n)<|CB _ _ _ a;have r:∀j,j<O (U W)+2->w5.heap[j]?=V.heap[j]?:=λj a=>q j E λe=>B9;have Q:F5 w5 (O (U W)+1) ks:=by have L:Ci (O (U W)+2) V<|Az V<|M #[Ae ⟨Aw l⟩,x] 225:=Ci.of_below Cm;have F:=h.q.ai E L;exact F.kept f λe=>B9
 refine⟨B.same Z Z h.e λj a=>r j E,⟨Ca f.os h.ai.os,Ca f.tape h.ai.tape,Ca f.output h.ai.output,E,λj a n=>Ca (r j E)<|h.ai.block j a n⟩,Ca (r _ E) h.h,Q,⟨_,by rw[Dj];exact R,λi y c m=>?_⟩,E⟩;have t:∀j,j<O (U V)->H j≠Ax v->H j≠Ax v':=λj a n=>by
  rcases o with o|o
  .rw[o];exact n
  rw[o];intro e;injection e with e;simp at e;omega
 have ae:=u.1;by_cases P:i<K es
 .rw[Hg P]at m;obtain⟨S,x',z,e2,e3,A⟩:=hx i y c m;refine⟨S,x',z,B9,B9,?_⟩;exact A.same (λj a=>⟨a.1,AY a.2.1,t j a.2.1 a.2.2⟩) λj a=>q j a.2.1 a.2.2
 have e:i=K es:=B9;subst e;rw[Jc E]at m;simp at m;obtain⟨rfl,rfl⟩:=m;have w:∀j,O (U V0)<=j->H j≠Ax v:=λj a e=>B9;refine⟨l,x,Z,?_,?_,N.same (λj a=>⟨E,E,t j a.2<|w j a.1⟩) λj a=>q j a.2<|w j a.1⟩<;>grind
def Lo.aq(h:Lo k W b fv s p v es ks V):CA (k+1) V (λj=>O (U W)<=j/\j<O (U V)) (Ai 223 v)<|.map es:=by
 obtain⟨o,a,i⟩:=h.a2;unfold CA;refine⟨v,o,Z,⟨a.1,?_⟩,i.same (λj n=>⟨E,n.2.1⟩) λ_ _=>rfl⟩;rcases a.2 with l|⟨g,d,f,e,q,c,m⟩
 .exact AF l
 exact AG ⟨g,d,f,e,⟨E,(Cd c)⟩,c,m⟩
def Tryz.infoEntry:(prog.info? 225).map (λi=>(i.zero,i.size,i.bytes))=H (H<|Ag #[.string ByteArray.empty,.nilIface],2,32):=B6
theorem WX(bs:A1)(lim:J):∀(k p a x q:I),CZ bs lim k p a=.ok (x,q)->q=p+k
 |0,p,a,x,q,h=>kfu
 |k+1,p,a,x,q,h=>by
  rw[CZ]at h;split at h
  .cases h
  split at h
  .cases h
  have:=WX bs lim k _ _ x q h;omega
def dz{l:A1}(h:El hd bs lim ks p=.ok (l,q)):p<q:=by
 unfold El at h;split at h
 .cases h
 split at h
 .cases h
 split at h
 .split at h
  .cases h
  next x q' ha =>
  split at h
  .cases h
  next l' r hb =>
  split at h
  .cases h
  injection h with h;injection h with h1 h2;have:=WX _ _ _ _ _ _ _ ha;have:=TE _ _ _ _ _ _ hb;omega
 cases h
theorem rl(h:Ck W b s):Lo k W b fv s s.a (G Ao 0 0) [] []<|Az (Az W<|M #[A8 b,fv] 218)<|.map #[] 0:=by have a:Below _ W<|Az (Az W<|M #[A8 b,fv] 218)<|.map #[] 0:=(Cm).alloc Ba _;refine⟨h.ac a,Ci.of_below a,Ca (CB _ _ _ Ba)<|Cj W,⟨.map [],?_,λl=>kfC⟩,⟨[],Fi _ _ _ _,λi key d c=>kf2⟩,Ba⟩;grind [World.ownsMap_made,World.size_alloc]
theorem ro{f:I}(hn:n<18446744073709551616)(h:Ck W b s)(a6:K s.e<=200000000)(hU:∀V,Ci b W V->U8 V)(a1:7<b)(cH:NN f hd b W)(ak:WV k f b s W rd)(ai:∀p d q,rd p=.ok (d,q)->p<q):Ar As 307 #[Ag #[A8 b,.func (.func f) #[] #[]],C .u64 n] W<|Ru W b s (λV ao x=>(∃a n c,ao=G a n c)/\CA (k+1) V (λal=>O (U W)<=al/\al<O (U V)) (Ai 223 ao) (.map x))<|GJ (El hd s.e s.d) rd n s.a [] []:=by
 obtain⟨i0,hi,bb,bc,bd⟩:=DL Tryz.infoEntry;have a7:∀V:X,(Instr.makeMap 399 Ao).run As V=.ok (.map<|H<|O<|U V) (Az V<|.map #[] 0):=λV=>B6;have ax:D<|Lo k W b _ s _ _ [] []<|Az (Az W<|M #[.pointer _,.func (.func f) #[] #[]] _) _:=rl h;have ab:=Cd h.aq;have ae:D (∀g off,s.e≠[]->s.f=H ⟨g,off,Ao⟩->g≠O (U W)+1):=λg off bj e=>by have hl:0<K s.e:=B9;obtain⟨g',bm,N,_,e3⟩:=h.c 0 hl;rw[e]at N;injection N with N;injection N with N;have:g'<O (U W):=Fk e3;omega
 have v:=λV p ks hV B hk hl=>rk (W:=V) (s:={s with a:=p}) (ks:=ks) hV hk E ae hl a6 (λa0 a2=>hU a0<|B.trans a2) a1<|cH.ai B;have av:=T h;have af:=T ak;have ar:=T ai;have bi:=h.a;obtain⟨ag,F⟩:=CC<|GJ (El hd s.e s.d) rd n s.a [] [];rw[AE F];clear h ak ai cH hU ae;go_enter func307,ntmps307;go_wp2;generalize Az (Az W<|M #[A8 b,.func (.func f) #[] #[]] 218) (.map #[] 0)=W0 at *;clear a7
 go_loopg[5,10] n (λg y be wr=>∃(m p:I) (a:A4) (ad c:I) (x:AJ<|Lit×AM Unit) (ks:AJ A1),y=G a ad c/\be=C .u64 m/\D (m+g=n)/\D (p<=K s.e)/\D (K x<=p/\K ks<=p)/\D (Lo k W b (.func (.func f) #[] #[]) s p (G a ad c) x ks wr)/\D (GJ (El hd s.e s.d) rd g p ks x=ag))
 grind [D];clear ax F;obtain⟨m,p,a,ad,c0,x,ks,rfl,rfl,hg,hp,ha,w,F⟩:=hrel;have kb:=Cc w.h 0;have am:=Cc w.h 1;obtain _|g:=gk
 .have hk:m=n:=AY<|AE hg;subst hk;have P:D<|ag=.ok _:=F.symm;clear F hg v;go_wp2;go_ret;rw[AE P];exact⟨w.ai,⟨_,Z,⟨_,_,_,Z⟩,w.aq⟩,w.e⟩
 have bh:m<n:=AY<|AE hg;have N:AR (m<(n:J))=AP:=B7;have a5:K ks<1000000000:=by grind [D]
 have L:=v wr p ks w.e w.ai w.q a5;have o:=AE F;rw[GJ]at o;clear F v;rcases hq:El hd s.e s.d ks p with er|lq
 .rw[hq]at o L;simp only[]at o;obtain⟨R,pl⟩:=er;have P:=T o.symm;clear o hq
  go_wp2_with(first
   |(go_at_call 309;apply L.mono;clear L;rintro e A ⟨B,hF⟩;obtain⟨hF,pz,ac⟩:=(show D4 R pl e/\∃p,Ck A b {s with a:=p}from hF);obtain rfl:=hF))
  rw[AE P];exact⟨Z,w.ai.ac B,Z,pz,ac⟩
 obtain⟨key,q⟩:=lq;rw[hq]at o L;simp only[]at o;have bk:=dz hq;clear hq;rcases hq2:rd q with er|dr
 .rw[hq2]at o;simp only[]at o;obtain⟨R,pl⟩:=er;have P:=T o.symm;have j:=T hq2;clear o hq2
  go_wp2_with(first
   |(go_at_call 309;apply L.mono;rintro e A ⟨B,hF⟩;obtain⟨rfl,aa,l⟩:=(show e=Ak _/\Ck A b {s with a:=q}/\F5 A _ _ from hF);have i:=T<|w.a0 ab aa B l;have kb:=Cc i.h 0;have am:=Cc i.h 1;have Q:=af.out A q i.e i.ai;rw[AE j]at Q)
   |(go_at_call 301;apply Q.mono;rintro e z ⟨u,S⟩;obtain⟨S,pz,ac⟩:=(show D4 R pl e/\∃p,Ck z b {s with a:=p}from S);obtain rfl:=S))
  rw[AE P];exact⟨Z,i.ai.trans u,Z,pz,ac⟩
 obtain⟨d,r⟩:=dr;rw[hq2]at o;simp only[]at o;have j:=T hq2;have bl:=ar.out q d r hq2;have HN:=T o;have bg:K x<=200000000:=by grind [D]
 have aq:D<|K x+1<=r/\K ks+1<=r:=⟨AY ha.out.1,AY ha.out.2⟩
 go_wp2_with(first
  |(go_at_call 309;apply L.mono;rintro e A ⟨B,hF⟩;obtain⟨rfl,aa,l⟩:=(show e=Ak _/\Ck A b {s with a:=q}/\F5 A _ _ from hF);have i:=T<|w.a0 ab aa B l;have kb:=Cc i.h 0;have am:=Cc i.h 1;have Q:=af.out A q i.e i.ai;rw[AE j]at Q;have aw:=T i.size;have au:D _:=by{obtain⟨xs,h1,_⟩:=i.a2;exact Qd h1})
  |(go_at_call 301;apply Q.mono;rintro e z ⟨u,S⟩;obtain⟨⟨an,y,rfl,a3⟩,ah⟩:=(show(∃an y,e=Ak _/\CA k z _ _ d)/\Ck z b {s with a:=r}from S);have t:=T<|i.a0 ab ah (.of1 u)<|i.q.ai E u;have HD:=T a3;have HQ:=T ah.a;obtain⟨xs,a8,ba⟩:=t.a2;have HO:=T a8;have az:=T ba;have ap:=T t.size)
  |(at_builtin;refine JG Z Z underlying223 hi bb bc bd Z B8 Z (HO.alloc _) 1 1 (news:=[.string _,Ai an y]) Z Z (EU) (λbn hu=>BJ) B8 Bc E (B1<|AE ap) ?_;intro v' w5 aj a4 a9;have ay:=T<|t.push av HO az HD au aw aj a4 a9;obtain⟨g5,bf,rfl⟩:=ownsRow_succ aj))
 go_roundg g;exact⟨m+1,r,_,_,_,x++[(.string key,d)],key::ks,Z,Bb,B9,HQ,⟨by grind [D],aq.2⟩,ay,HN⟩;omega
theorem dA:∀(n p:I) (a l:A1) (r:I),EV bs lim n p a=.ok (l,r)->r=p+n
 |0,p,a,l,r,h=>by grind [EV]
 |n+1,p,a,l,r,h=>by
  rw[EV]at h;split at h
  .cases h
  split at h
  .cases h
  have:=dA n _ _ l r h;omega
theorem dB(a:∀p d q,rd p=.ok (d,q)->p<q):∀(n p:I) (acc ds:AJ<|AM Unit) (r:I),GX rd n p acc=.ok (ds,r)->p<=r
 |0,p,acc,ds,r,h=>by grind [GX]
 |n+1,p,acc,ds,r,h=>by
  rw[GX]at h;split at h
  .cases h
  next d q hq =>
  have b:=a _ _ _ hq;have c:=dB a n q _ ds r h;omega
theorem dC(b:∀a p l q,kf a p=.ok (l,q)->p<q)(c:∀p d q,rd p=.ok (d,q)->p<q):∀(n p:I) (a:AJ A1) (acc es:AJ<|Lit×AM Unit) (r:I),GJ kf rd n p a acc=.ok (es,r)->p<=r
 |0,p,a,acc,es,r,h=>by grind [GJ]
 |n+1,p,a,acc,es,r,h=>by
  rw[GJ]at h;split at h
  .cases h
  next l q hq =>
  split at h
  .cases h
  next d r' hr =>
  have e:=b _ _ _ _ hq;have f:=c _ _ _ hr;have g:=dC b c n r' _ _ es r h;omega
theorem rp{w:I}{d:A2}{r:I}(c:∀x q a r,li x q=.ok (a,r)->q<=r)(e:∀x q b r,ma x q=.ok (b,r)->q<=r)(h:Gm bs lim li ma so w x q=.ok (d,r)):q<=r:=by
 unfold Gm at h;split at h
 .grind
 .grind
 .grind
 .grind
 .grind
 .grind [dA]
 .split at h
  .cases h
  next l r' hl =>
  injection h with h;injection h with h1 h2;have:=TE _ _ _ _ _ _ hl;omega
 .grind
 .grind
 grind
theorem Qe(e:I->I×I×I)(bs:A1)(lim depth:J):∀(g b p:I) (d:A2) (q:I),DR e bs lim depth g b p=.ok (d,q)->p<q
 |0,_,_,_,_,h=>by rw[DR]at h;cases h
 |g+1,b,p,d,q,h=>by
  have f:=Qe e bs lim depth g<|b+1;rcases hc:bs[p]? with _|c
  .grind [DR]
  by_cases m:(p:J)=lim
  .grind [DR]
  rw[TC hc m rfl]at h;split at h
  .cases h
  split at h
  .cases h
  split at h
  .cases h
  next x q' ha =>
  have n:=WX _ _ _ _ _ _ _ ha;have o:=rp (λx q i r a=>dB f x q [] i r a) (λx q j r a=>dC (λs p l q k=>dz k) f x q [] [] j r a) h;omega
theorem RE(d:I->I×I×I)(f:I):∀(g:I) (W:X) (b:I) (s:Cw),Ck W b s->K s.e<=200000000->(∀V,Ci b W V->U8 V)->7<b->NN f d b W->s.b<=100000->(s.c:J)<=s.b->s.b<s.c+g ->
  Ar As 301 #[Ag #[A8 b,.func (.func f) #[] #[]]] W (RC g W b s<|DR d s.e s.d s.b g s.c s.a)
 |0,W,b,s,_,_,_,_,_,_,a,h2=>E
 |g+1,W,b,s,h,hlen,hU,h7,cH,hdp,hwd,hgd=>by
  have r:¬s.c=s.b->∀V,Ci b W V->WV g f b {s with c:=s.c+1} V (DR d s.e s.d s.b g<|s.c+1):=λl V j t p k i =>
   RE d f g t b _ k hlen (λm o=>hU m<|(j.trans i).trans o) h7 (cH.ai<|j.trans i) hdp B9 B9
  rcases JC h with a|a|⟨c,a⟩
  .have e:DR d s.e s.d s.b (g+1) s.c s.a=.error (9,s.a):=by unfold DR;rw[I6 (by have:s.a=K s.e:=a;omega)]
   rw[e];exact dm 9 h λV j=>KA j a
  .have e:DR d s.e s.d s.b (g+1) s.c s.a=.error (8,s.a):=by unfold DR;rw[D7 a.1];simp only[];rw[Cp a.2]
   rw[e];exact dm 8 h λV j=>KB j a
  exact ri d h a Z (cH.so _ c.toNat_lt) (cH.a _ c.toNat_lt).1 (cH.a _ c.toNat_lt).2.1 (cH.a _ c.toNat_lt).2.2 hlen E cH.fn hU h7 (cH.call c)
   (λl V p n k i q=>qU q k hlen (r l V i)<|Qe d _ _ _ g _)
   (λl V p n k i q=>ro q k hlen (λm o=>hU m<|i.trans o) h7 (cH.ai i) (r l V i)<|Qe d _ _ _ g _)
def FT{α:Type}(bs:A1)(lim:AI)(itF:α->AH->A5 α)(last:AH):AH->AH->α->A5 α
 |0,p,_=>.error (9,p)
 |g+1,p,acc=>match DW bs lim (At bs+1-p) p with
  |.error e=>.error e
  |.ok (_,p1)=>match itF acc p1 with
   |.error e=>.error e
   |.ok (acc',p2)=>match DW bs lim (At bs+1-p2) p2 with
    |.error e=>.error e
    |.ok (_,p3)=>match bs[p3]? with
     |none=>.error (9,p3)
     |some c=>if(p3:AI)=lim then .error (8,p3)else if c.toNat=last then .ok (acc',p3+1)else if c.toNat=44 then FT bs lim itF last g (p3+1) acc' else .error (9,p3)
def Gn{α:Type}(bs:A1)(lim:AI)(itF:α->AH->A5 α)(last p:AH)(acc:α):A5 α :=
 match DW bs lim (At bs+1-p) p with
 |.error e=>.error e
 |.ok (_,p1)=>match bs[p1]? with
  |none=>FT bs lim itF last (At bs+1-p1) p1 acc
  |some c=>if(p1:AI)=lim then .error (8,p1)else if c.toNat=last then .ok (acc,p1+1)else FT bs lim itF last (At bs+1-p1) p1 acc
def G6(rd:AH->AS (AI×AI) (AM Unit×AH))(ds:AJ<|AM Unit)(p:AH):AS (AI×AI) (AJ (AM Unit)×AH) :=
 match rd p with
 |.error e=>.error e
 |.ok (d,q)=>.ok (ds++[d],q)
def Jj(bs:A1)(lim:AI)(ks:AJ A1)(p:AH):A5 A1 :=
 match Dt bs lim [34] p with
 |.error e=>.error e
 |.ok (_,q)=>match DA bs lim (At bs+1-q) q [] 0 with
  |.error e=>.error e
  |.ok (l,r)=>if l∈ks then .error (12,(r:AI)-1)else .ok (l,r)
def FF(bs:A1)(lim:AI)(rd:AH->AS (AI×AI) (AM Unit×AH))(a:AJ A1×AJ (Lit×AM Unit))(p:AH):AS (AI×AI) ((AJ A1×AJ (Lit×AM Unit))×AH) :=
 match Jj bs lim a.1 p with
 |.error e=>.error e
 |.ok (l,p1)=>match DW bs lim (At bs+1-p1) p1 with
  |.error e=>.error e
  |.ok (_,p2)=>match Dt bs lim [58] p2 with
   |.error e=>.error e
   |.ok (_,p3)=>match DW bs lim (At bs+1-p3) p3 with
    |.error e=>.error e
    |.ok (_,p4)=>match rd p4 with
     |.error e=>.error e
     |.ok (d,p5)=>.ok ((l::a.1,a.2++[(.string l,d)]),p5)
def Kf(bs:A1)(lim depth:AI)(wi:AH)(rd:AH->AS (AI×AI) (AM Unit×AH))(nm:AU->AH->A5 AI)(c:AU)(p:AH):AS (AI×AI) (AM Unit×AH) :=
 if c.toNat=110 then match Dt bs lim [117,108,108] p with
  |.error e=>.error e
  |.ok (_,q)=>.ok (.nil,q)
 else if c.toNat=116 then match Dt bs lim [114,117,101] p with
  |.error e=>.error e
  |.ok (_,q)=>.ok (.lit<|.bool AP,q)
 else if c.toNat=102 then match Dt bs lim [97,108,115,101] p with
  |.error e=>.error e
  |.ok (_,q)=>.ok (.lit<|.bool AQ,q)
 else if c.toNat=34 then match DA bs lim (At bs+1-p) p [] 0 with
  |.error e=>.error e
  |.ok (l,q)=>.ok (.lit<|.string l,q)
 else if c.toNat=91 then(if(wi:AI)=depth then .error (11,(p:AI)-1)else match Gn bs lim (G6 rd) 93 p []with
  |.error e=>.error e
  |.ok (ds,q)=>.ok (.agg ds,q))
 else if c.toNat=123 then(if(wi:AI)=depth then .error (11,(p:AI)-1)else match Gn bs lim (FF bs lim rd) 125 p ([],[])with
  |.error e=>.error e
  |.ok (es,q)=>.ok (.map es.2,q))
 else if c.toNat=45\/Ey c=AP then match nm c p with
  |.error e=>.error e
  |.ok (z,q)=>.ok (.lit<|.int Al z,q)
 else .error (9,(p:AI)-1)
def Fw(bs:A1)(lim depth:AI)(nm:AU->AH->A5 AI):AH->AH->AH->AS (AI×AI) (AM Unit×AH)
 |0,_,_=>.error (0,0)
 |g+1,wi,p=>match bs[p]? with
  |none=>.error (9,p)
  |some c=>if(p:AI)=lim then .error (8,p)else Kf bs lim depth wi (Fw bs lim depth nm g<|wi+1) nm c (p+1)
def NO(k:AH)(W:Ap)(b:AH)(s:Cw)(r:AS (AI×AI)<|AM Unit×AH)(e:Ending)(W':Ap):Prop :=
 Ci b W W'/\match r with
 |.ok (d,p)=>(∃t y,e=Ak (Ai t y)/\CA k W' (λj=>Au (Av W)<=j/\j<Au (Av W')) (Ai t y) d)/\Ck W' b {s with a:=p}
 |.error (en,pl)=>D4 en pl e
def Qf(k b:AH)(s:Cw)(W0:Ap)(rd:AH->AS (AI×AI) (AM Unit×AH)):Prop :=
 ∀(V:Ap) (p:AH),Ck V b {s with a:=p}->Ci b W0 V->Ar As 272 #[Ag #[A8 b]] V (NO k V b {s with a:=p}<|rd p)
def TF{α:Type}(St:AH->α->Ap->Prop)(Fr:Ap->Prop)(r:A5 α)(e:Ending)(V:Ap):Prop :=
 match r with
 |.ok (a,q)=>e=Ak (Af #[])/\St q a V
 |.error (en,pl)=>D4 en pl e/\Fr V
structure WY{α:Type}(b:AH)(s:Cw)(St:AH->AH->AH->α->Ap->Prop)(Fr:Ap->Prop):Prop where
 e:∀N wi p a V,St N wi p a V->Ck V b {s with a:=p,c:=wi}
 a0:∀N wi p a V wi' q V',St N wi p a V->Ck V' b {s with a:=q,c:=wi' }->Ci b V V'->p<=q->St N wi' q a V'
 h:∀N wi p a V,St N wi p a V->V.heap[N]?=An (Aj #[A8 b] 215)
 fr:∀N wi p a V,St N wi p a V->Fr V
 c:∀V V',Fr V->Ci b V V'->Fr V'
theorem Lp:∀(g p:I) (u:Unit) (q:I),DW bs lim g p=.ok (u,q)->p<=q
 |0,p,u,q,h=>by grind [DW]
 |g+1,p,u,q,h=>by
  rw[DW]at h;split at h
  .grind
  split at h
  .cases h
  split at h
  .have:=Lp g _ u q h;omega
  grind
theorem dD{α:Type}(last:I)(ae:FuncId)(cp:A3)(ax:∀(an:A3) (V:X),(callFunc ae an).run As V=.ok (.enter ae an) V){itF:α->I->A5 α}(acc:α){St:I->I->I->α->X->Prop}{Fr:X->Prop}(hI:WY b s St Fr)(h:Ck W b s)(hd:¬(s.c:J)=s.b)(bg:s.c<=100000)(a7:St (O<|U W) s.c s.a acc<|Az W<|M #[A8 b] 215)(ay:∀am p a V,St am (s.c+1) p a V->Ar As ae cp V (TF (St am<|s.c+1) Fr<|itF a p))(a6:∀a p a' ai,itF a p=.ok (a',ai)->p<ai):Ar As 285 #[Ag #[A8 b],C Am last,.func (.func ae) #[] cp] W<|TF (λai a V=>St (O<|U W) s.c ai a V) Fr<|Gn s.e s.d itF last s.a acc:=by
 have az:=T ax;clear ax;have HS:=T a7;have f:=T hI;have a0:=T a6;have cE:=dj (W:=(Az W<|M #[A8 b] 215)) (h.ac Cm) hd E;have o:∀(V:X) (p:I),Ck V b {s with a:=p,c:=s.c+1}->Ar _ _ _ V λe u=>e=Ak _/\Ck u b {s with a:=p}/\Ci b V u:=λV p j=>qR j Z B9;obtain⟨ad,S⟩:=CC<|Gn s.e s.d itF last s.a acc;rw[AE S];have d:=AE S;unfold Gn at d;have m:=Cc (f.h _ _ _ _ _ HS) 0;go_enter func285,ntmps285;go_wp2;go_step3
 go_wp2_with fail
 apply cE.mono;rintro e w2 ⟨rfl,a5,a1⟩;have H2:=T<|f.a0 _ _ _ _ _ _ _ _ HS a5 a1 E;have m:=Cc (f.h _ _ _ _ _ H2) 0
 go_wp2_with fail
 apply (Rn<|f.e _ _ _ _ _ H2).mono;rintro e w3 ⟨ao,af⟩;rcases h1:DW s.e s.d (K s.e+1-s.a) s.a with y|up
 .obtain⟨x,A⟩:=y;simp only[h1]at d af;subst d;obtain rfl:=(show D4 x A e from af)
  go_wp2;exact⟨Z,Z,f.c _ _ (f.fr _ _ _ _ _ H2) ao⟩
 obtain⟨bh,i⟩:=up;simp only[h1]at d af;have bc:=Lp _ _ _ _ h1;obtain⟨rfl,au⟩:=(show e=Ak _/\Ck w3 b _ from af)
 have v:=T<|f.a0 _ _ _ _ _ _ _ _ H2 au ao E;have ba:D<|i<=K s.e:=au.a;have m:=Cc (f.h _ _ _ _ _ v) 0;have a8:(Rl {s with a:=i,c:=s.c+1}/\ad=.error (8,i))\/(∃c,JB {s with a:=i,c:=s.c+1} c/\c.toNat=last/\ad=.ok (acc,i+1))\/((Ar As 280 #[A8 b,C Am last] w3 λe u=>e=Ak (Ah AQ)/\Ck u b {s with a:=i,c:=s.c+1}/\Ci b w3 u)/\FT s.e s.d itF last (K s.e+1-i) i acc=ad):=by
  have j:=(f.e _ _ _ _ _ v)
  rcases h2:s.e[i]? with _|c
  .rw[h2]at d;refine AG<|AG ⟨WC last j ?_,d⟩;have t:i<=K s.e:=j.a;have N:=List.getElem?_eq_none_iff.1 h2;show i=K s.e;omega
  rw[h2]at d;simp only[]at d;have N:=Dk h2;by_cases k:(i:J)=s.d
  .rw[Cp k]at d;exact AF ⟨⟨N,k⟩,d.symm⟩
  rw[Cl k]at d;by_cases l:c.toNat=last
  .rw[Cp l]at d;exact AG<|AF ⟨c,⟨h2,k⟩,l,d.symm⟩
  rw[Cl l]at d;refine AG<|AG ⟨?_,d⟩;have:=Tk last j ⟨h2,k⟩;rwa[show((c.toNat:J)==last)=AQ by simp;omega]at this
 go_wp2_with fail
 rcases a8 with⟨a4,rfl⟩|⟨c,ar,hc,rfl⟩|⟨cF,d⟩
 .apply (bL (f.e _ _ _ _ _ v) a4).mono;rintro e w4 ⟨rfl,R⟩;go_wp2;exact⟨Z,Z,f.c _ _ (f.fr _ _ _ _ _ v)<|Ci.of_below R⟩
 .have cF:=Tk last (f.e _ _ _ _ _ v) ar;rw[show((c.toNat:J)==last)=AP by rw[hc];simp]at cF;apply cF.mono;rintro e w4 ⟨rfl,ak,R⟩;have n:=T<|f.a0 _ _ _ _ _ _ _ _ v ak R E;have m:=Cc (f.h _ _ _ _ _ n) 0
  go_wp2_with fail
  apply (J3 (f.e _ _ _ _ _ n) ar).mono;rintro e w5 ⟨rfl,ag,aa⟩;have B:=T<|f.a0 _ _ _ _ _ _ _ _ n (show Ck w5 b {s with a:=i+1,c:=s.c+1}from ag) aa E;have m:=Cc (f.h _ _ _ _ _ B) 0
  go_wp2_with fail
  apply (o w5 _<|f.e _ _ _ _ _ B).mono;rintro e w6 ⟨rfl,ah,a2⟩;have w:=T<|f.a0 _ _ _ _ _ _ _ _ B ah a2 E;go_wp2;apply MF;go_end0;exact⟨Z,w⟩
 have S:=T d;apply cF.mono;rintro e w4 ⟨rfl,ak,R⟩;have n:=T<|f.a0 _ _ _ _ _ _ _ _ v ak R E;go_wp2;go_step3;go_wp2
 go_loopg[21] (K s.e+1-i) (λg _ wr=>∃(p:I) (a:α),D (K s.e+1<=p+g)/\D (p<=K s.e)/\D (St (O<|U W) (s.c+1) p a wr)/\D (FT s.e s.d itF last g p a=ad))
 grind [D];obtain⟨p,a,hg,hp,n,S⟩:=hrel;obtain⟨g,rfl⟩:∃g,gk=g+1:=⟨gk-1,by grind [D]⟩
 have m:=Cc (f.h _ _ _ _ _ n) 0;have d:=AE S;rw[FT]at d
 go_wp2_with fail
 apply (Rn<|f.e _ _ _ _ _ n).mono;rintro e w5 ⟨aa,ab⟩;rcases h1:DW s.e s.d (K s.e+1-p) p with y|up
 .obtain⟨x,A⟩:=y;simp only[h1]at d ab;subst d;obtain rfl:=(show D4 x A e from ab)
  go_wp2;exact⟨Z,Z,f.c _ _ (f.fr _ _ _ _ _ n) aa⟩
 obtain⟨u1,q1⟩:=up;simp only[h1]at d ab;have bd:=Lp _ _ _ _ h1;clear h1;obtain⟨rfl,ag⟩:=(show e=Ak _/\Ck w5 b _ from ab)
 have B:=T<|f.a0 _ _ _ _ _ _ _ _ n ag aa E;clear n ag aa ab
 go_wp2_with fail
 go_simp;rw[AE az];go_simp;apply (ay _ _ _ _ B).mono;clear ay;rintro e w6 z;rcases h2:itF a q1 with y|aq
 .obtain⟨x,A⟩:=y;rw[h2]at d z;simp only[]at d;subst d;clear h2 o;obtain⟨z,a3⟩:=(show D4 x A e/\Fr w6 from z)
  obtain rfl:=z;go_wp2;exact⟨Z,Z,a3⟩
 obtain⟨a',q2⟩:=aq;rw[h2]at d z;simp only[]at d;have be:=a0.out _ _ _ _ h2;clear h2;obtain⟨rfl,ah⟩:=(show e=Ak _/\St _ _ q2 a' w6 from z)
 have w:=T ah;clear B z ah;have m:=Cc (f.h _ _ _ _ _ w) 0
 go_wp2_with fail
 apply (Rn<|f.e _ _ _ _ _ w).mono;clear m;rintro e w7 ⟨aj,ac⟩;rcases k:DW s.e s.d (K s.e+1-q2) q2 with y|up
 .obtain⟨x,A⟩:=y;simp only[k]at d ac;subst d;clear k o;obtain rfl:=(show D4 x A e from ac)
  go_wp2;exact⟨Z,Z,f.c _ _ (f.fr _ _ _ _ _ w) aj⟩
 obtain⟨u3,r⟩:=up;simp only[k]at d ac;have bf:=Lp _ _ _ _ k;clear k;obtain⟨rfl,av⟩:=(show e=Ak _/\Ck w7 b _ from ac)
 have F:=T<|f.a0 _ _ _ _ _ _ _ _ w av aj E;clear w av aj ac;have m:=Cc (f.h _ _ _ _ _ F) 0
 go_wp2_with fail
 have j:=(f.e _ _ _ _ _ F)
 rcases l:s.e[r]? with _|c
 .simp only[l]at d;subst d;apply (KA j (by show r=K s.e;have t:r<=K s.e:=j.a;grind)).mono;clear l o j;rintro e w8 ⟨rfl,Q⟩;go_wp2;exact⟨Z,Z,f.c _ _ (f.fr _ _ _ _ _ F)<|Ci.of_below Q⟩
 rw[l]at d;simp only[]at d;have N:=Dk l;by_cases t:(r:J)=s.d
 .rw[Cp t]at d;subst d;apply (KB j ⟨N,t⟩).mono;clear l t N o j;rintro e w8 ⟨rfl,Q⟩;go_wp2;exact⟨Z,Z,f.c _ _ (f.fr _ _ _ _ _ F)<|Ci.of_below Q⟩
 rw[Cl t]at d;apply (J3 j ⟨l,t⟩).mono;clear l t m j;rintro e w8 ⟨rfl,al,Q⟩;have L:=T<|f.a0 _ _ _ _ _ _ _ _ F (show Ck w8 b {s with a:=r+1,c:=s.c+1}from al) Q E;have bb:D<|r+1<=K s.e:=al.a;clear F al Q;have m:=Cc (f.h _ _ _ _ _ L) 0;by_cases P:c.toNat=last
 .rw[Cp P]at d;subst d;have e1:((c.toNat:J)==last)=AP:=by rw[P];simp
  clear P
  go_wp2_with fail
  apply (o w8 _<|f.e _ _ _ _ _ L).mono;clear o m;rintro e w9 ⟨rfl,aw,ap⟩;have H9:=T<|f.a0 _ _ _ _ _ _ _ _ L aw ap E;clear L aw ap;go_wp2
  first|(refine MF ?_;go_end0)|go_end0
  exact⟨Z,H9⟩
 rw[Cl P]at d;have e1:=(show((c.toNat:J)==last)=AQ by simp;omega)
 by_cases q:c.toNat=44
 .rw[Cp q]at d;have HN:=T d;have e2:((c.toNat:J)==44)=AP:=by rw[q];rfl
  have a9:D<|K s.e+1<=(r+1)+g:=by grind [D]
  clear P q d o;go_wp2;go_roundg g
  case measure=>omega
  grind
 rw[Cl q]at d;subst d;have e2:=Df (c:=c) 44 E;have cR:=G4 9<|f.e _ _ _ _ _ L;rw[show((({s with a:=r+1,c:=s.c+1}:Cw).a:J)-1)=r by grind]at cR;clear P q o
 go_wp2_with fail
 apply cR.mono;rintro e w9 ⟨rfl,rfl⟩;go_wp2;exact⟨Z,Z,f.fr _ _ _ _ _ L⟩
def dE{β:Type}(L:Array AK)(b:I)(c:β->AJ (I×Aq))(T:β->Prop)(d:β->X)(e:(∀x,T x->wpAny P md ops Q b L ((c x).foldl (λa p=>a.put (H p.1) p.2) a) (d x))->wpAny P md ops Q fuel listed a w)(f:∀x,T x->wpAny P md ops Q b L ((c x).foldl (λa p=>a.put (H p.1) p.2) a) (d x)):wpAny P md ops Q fuel listed a w:=e f
def RF{K:Act->X->Prop}{s x:Operand}(V:o.op=.call {callee:=.builtin .append,args:=#[s,x],argTypes:=#[t,t]}){i:TypeInfo}{z:Aq}(A:P.underlying t=H (.slice e))(hi:P.info? e=H i)(B:i.zero=H z)(y:i.size=size)(k:i.bytes=bytes)(ab:z.cells.size=size)(aa:0<size)(W:a.eval s=v)(q:w.ownsRow base e size v n xs)(m c:I)(hx:a.eval x=G (H ad) m c)(hl:At news=m*size)(p:∀j u,news[j]?=H u->AC w (ad.add j)=H u)(f:∀u∈news,u.oneCell'=AP)(S:0<m)(g:n+m<=maxLen)(l:(n+m)*bytes<=140737488355328)(R:base<=O (U w))(h:∀b d,d.ownsRow base e size b (n+m) (xs++news)->w.grownBy d (Ax v)->(Ax b=Ax v\/Ax b=H (O<|U w))->K (a.put o.dst b) d):o.wp P a w K Q:=by obtain⟨b,d,r,F,L,_⟩:=Rd w base t o.type e i z size bytes A hi B y k ab aa v n xs q ad m c news hl p f g l R;have N:=WP A hi B y k q hl p f S g l r;unfold Oper.wp execOp;simp only[V,resolve,invoke,builtin,GT,Ge,FZ,OE,I7,Mv,W,hx,r];exact h b d F L N
structure Lq(k:AH)(W:Ap)(b:AH)(s:Cw)(N wi p:AH)(ds:AJ (AM Unit))(V:Ap):Prop where
 e:Ck V b {s with a:=p,c:=wi}
 ai:Ci b W V
 f:V.heap[Au (Av W)]?=An (Aj #[Ad (An ⟨b,0,Ao⟩)] 215)
 h:V.heap[N]?=An (Aj #[Ad (An ⟨b,0,Ao⟩)] 215)
 g:Au (Av W)+2<=N
 a2:∃a l c xs,V.heap[Au (Av W)+1]?=An (Aj #[Ac a l c] 221)/\V.ownsRow (Au (Av W)+2) 89 1 (Ac a l c) (At ds) xs/\An N≠Ax (AX a l c)/\∀(i:AH) (x:Aq) (d:A2),xs[i]?=An x->ds[i]?=An d->CA k V (λj=>Au (Av W)+2<=j/\j<Au (Av V)/\An j≠Ax (AX a l c)) x d
 size:Au (Av W)+2<=Au (Av V)
 len:At ds<=p
def Lq.a0(h:Lq k W b s N wi p ds V)(hb:b<O (U W))(u:Ck V' b {s with a:=q,c:=wi' })(e:Ci b V V')(t:K ds<=q):Lq k W b s N wi' q ds V':=by obtain⟨a,l,c,w,g,m,n,o⟩:=h.a2;have z:=h.size;have y:=h.g;exact⟨u,h.ai.trans e,Ca (e.block _ (Cd h.f) E) h.f,Ca (e.block _ (Cd h.h) E) h.h,h.g,⟨a,l,c,w,Ca (e.block _ (Cd g) E) g,TD m e E,n,λi x d v r=>(o i x d v r).same (λj f=>⟨f.1,CQ f.2.1 e.size,f.2.2⟩) λj f=>e.block j f.2.1 E⟩,CE h.size e.size,t⟩
def Lq.push{d:A2}{a:A4}{l c:I}{x:Aq}(h:Lq k W b s N wi p ds V)(h0:Ck W b s)(hb:b<O (U W))(m:Ci b V V3)(hS:Ck V3 b {s with a:=q,c:=wi})(hd:CA k V3 (λj=>O (U V)<=j/\j<O (U V3)) x d)(Q:V.heap[O (U W)+1]?=H (M #[G a l c] 221))(F:V.ownsRow (O (U W)+2) 89 1 (G a l c) (K ds) xs)(R:H N≠Ax (AX a l c))(ai:∀(i:I) (x:Aq) (d:A2),xs[i]?=H x->ds[i]?=H d->CA k V (λj=>O (U W)+2<=j/\j<O (U V)/\H j≠Ax (AX a l c)) x d)(L:w5.ownsRow (O (U W)+2) 89 1 v' (K ds+1)<|xs++[x])(n:(Az V3<|M #[x] 89).grownBy w5<|Ax<|AX a l c)(t:Ax v'=Ax (AX a l c)\/Ax v'=H (O<|U<|Az V3<|M #[x] 89))(af:K ds+1<=q):Lq k W b s N wi q (ds++[d])<|AB w5 ⟨O (U W)+1,0,Ao⟩ v':=by
 have an:=h.size;have hN:=h.g;have ac:=Cd h.h;have al:=m.size;have am:O (U V3)+1<=O (U w5):=BZ;have key:∀g,Ax (AX a l c)=H g->O (U W)+2<=g:=λg n=>DK F n;have aj:=Qd F;have v:∀j,j<O (U V3)->H j≠Ax (AX a l c)->j≠O (U W)+1->(AB w5 ⟨_,0,Ao⟩ v').heap[j]?=V3.heap[j]?:=λj f r hl=>Ca (CY w5 _ _ _ keL)<|Ca (n.block j B7 r)<|CB _ _ _ f;have A:∀j,j<O (U W)+1->(AB w5 _ v').heap[j]?=V3.heap[j]?:=λj f=>v j E (λe=>AY<|key j e.symm) E;have ab:=Ca (n.block _ B7 λe=>AY<|key _ e.symm)<|Ca (CB _ _ _ E)<|Ca (m.block _ (Cd Q) E) Q;have w:O (U<|AB w5 ⟨O (U W)+1,0,Ao⟩ v')=O (U w5):=Bd;obtain⟨P,z,rfl⟩:=ownsRow_succ L;have ag:(AB w5 ⟨O (U W)+1,0,Ao⟩<|G (H ⟨P,0,Ao⟩) (K ds+1) z).ownsRow (O (U W)+2) 89 1 (G (H ⟨P,0,Ao⟩) (K ds+1) z) (K ds+1)<|xs++[x]:=by
  refine⟨L.1,?_⟩;rcases L.2 with h2|⟨g,y,aa,e,ad,ae,h5⟩
  .exact AF h2
  exact AG ⟨g,y,aa,e,ad,Ca (CY w5 _ _ _ B7) ae,h5⟩
 have B:∀j,j<O (U V3)->H j≠Ax (AX a l c)->H j≠Ax (AX _ _ z):=λj f r=>by
  rcases t with t|t
  .rw[t];exact r
  rw[t];intro e;injection e with e;simp at e;omega
 refine⟨h0.same Z Z hS λj f=>A j E,⟨Ca n.os<|Ca m.os h.ai.os,Ca n.tape<|Ca m.tape h.ai.tape,Ca n.output<|Ca m.output h.ai.output,by rw[w];have:=h.ai.size;omega,λj f r=>Ca (A j E)<|Ca (m.block j E r)<|h.ai.block j f r⟩,Ca (A _ E)<|Ca (m.block _ E E) h.f,Ca (v N E R E)<|Ca (m.block N ac E) h.h,h.g,⟨_,_,_,_,?_,by rw[Dj];exact ag,?_,λi ak dd u o=>?_⟩,by rw[w];omega,by rw[Dj];exact af⟩
 .rw[DX _ _ _ _ _ _ ab];rfl
 .exact B N E R
 have ah:K xs=K ds:=AY F.1;by_cases hi:i<K ds
 .rw[Hg E]at u o;exact(ai i ak dd u o).same (λj f=>⟨f.1,by rw[w];have:=f.2.1;omega,B j E f.2.2⟩) λj f=>Ca (v j E f.2.2 E)<|m.block j f.2.1 E
 have e:i=K ds:=by have:=Dk o;rw[Dj]at this;simp at this;omega
 subst e;rw[Jc E]at o;rw[Jc E,ah]at u;simp at u o;subst u;subst o;have S:∀j,O (U V)<=j->H j≠Ax (AX a l c):=λj f e=>AY<|aj j e.symm;exact hd.same (λj f=>⟨E,by rw[w];omega,B j f.2<|S j f.1⟩) λj f=>v j f.2 (S j f.1) E
def rq(h0:Ck W b s)(ai:Qf k b {s with c:=wi} W rd)(ag:∀p d q,rd p=.ok (d,q)->p<q)(ar:K s.e<=200000000)(h:Lq k W b s N wi p ds V):Ar As 286 #[A8<|O (U W)+1,A8<|O<|U W] V<|TF (Lq k W b s N wi) (λV=>Ci b W V)<|G6 rd ds p:=by
 obtain⟨i0,hi,am,an,ao⟩:=DL Tryz.infoThing;have af:=Cd h0.aq;obtain⟨w,B,z,xs,n,u,ah,al⟩:=h.a2;have S:O (U W)+1<O (U<|World.drew V):=Cd n;have aq:K ds<=200000000:=by have h1:=h.len;have h2:p<=K s.e:=h.e.a;omega
 have A:=h.e.ac (Cu _ _).drew;have l:=h.ai.trans<|Ci.of_below (Cu _ _).drew;have k0:(World.drew V).cell? _=H (G w B z):=Cc n 0;have k1:(World.drew V).cell? _=H (.pointer _):=Cc h.f 0;have aj:=h.size;have m:∀v,Ck v b {s with a:=p,c:=wi}->Ci b W v->Ar _ _ _ v (NO k v b {s with a:=p,c:=wi} _):=λv h1 h2=>ai v p h1 h2;rcases hq:rd p with er|dq
 .obtain⟨L,R⟩:=er;have j:G6 rd ds p=.error (L,R):=by unfold G6;rw[hq]
  rw[j];rw[hq]at m;go_enter func286,ntmps286
  go_wp2_with fail
  apply SW B6;change wpAny _ _ _ _ _ _ _ (World.drew V);refine Ld 0 1 Z Z B6 (λf a=>?_) λf a=>?_
  .go_simp;refine a _ _ <| ER 1 Z B6 λf a=>?_;go_simp;refine a _ _ <| ER 2 Z B6 λf a=>?_;go_simp;apply (m _ A l).mono;rintro e c ⟨g,i⟩;obtain rfl:=(show D4 L R e from i)
   exact⟨Z,Z,l.trans g⟩
  go_simp;refine a _ _ <| Ld 0 2 Z Z B6 (λf a=>?_) λf a=>?_
  .go_simp;refine a _ _ <| ER 2 Z B6 λf a=>?_;go_simp;apply (m _ A l).mono;rintro e c ⟨g,i⟩;obtain rfl:=(show D4 L R e from i)
   exact⟨Z,Z,l.trans g⟩
  go_simp;apply (m _ A l).mono;rintro e c ⟨g,i⟩;obtain rfl:=(show D4 L R e from i)
  exact⟨Z,Z,l.trans g⟩
 obtain⟨d,q⟩:=dq;have j:G6 rd ds p=.ok (ds++[d],q):=by unfold G6;rw[hq]
 rw[j];have au:=ag p d q hq;rw[hq]at m;go_enter func286,ntmps286
 go_wp2_with fail
 apply SW B6;change wpAny _ _ _ _ _ _ _ (World.drew V);refine dE (β:=AN×Aq×X) #[AP,AP,AP,AP,AQ,AQ] 2 (λx=>[(2,G w B z),(3,Ag #[A8 b]),(4,Ai x.1 x.2.1),(5,G (Aa<|O<|U x.2.2) 1 1)]) (λx=>Ci b (World.drew V) x.2.2/\Ck x.2.2 b {s with a:=q,c:=wi}/\CA k x.2.2 (λad=>O (U<|World.drew V)<=ad/\ad<O (U x.2.2)) (Ai x.1 x.2.1) d) (λx=>x.2.2.alloc<|M #[Ai x.1 x.2.1] 89) (λQ=>?reg) ?tail
 case reg =>
  refine Ld 0 1 Z Z B6 (λf a=>?_) λf a=>?_
  .go_simp;refine a _ _ <| ER 1 Z B6 λf a=>?_;go_simp;refine a _ _ <| ER 2 Z B6 λf a=>?_;go_simp;apply (m _ A l).mono;rintro e c ⟨g,i⟩;obtain⟨⟨t,y,rfl,r⟩,o⟩:=(show(∃t y,e=Ak _/\CA k c _ _ d)/\Ck c b {s with a:=q,c:=wi}from i)
   simp only[];have F:AC c _=H (G w B z):=Cc (Ca (g.block _ S E) n) 0;have hrel:Ci b _ c/\Ck c b _/\CA k c _ _ d:=⟨g,o,r⟩
   refine a _ _ <| ER 3 Z B6 λf a=>?_;go_simp;exact a _ _ <| Q ⟨t,y,c⟩ hrel
  go_simp;refine a _ _ <| Ld 0 2 Z Z B6 (λf a=>?_) λf a=>?_
  .go_simp;refine a _ _ <| ER 2 Z B6 λf a=>?_;go_simp;apply (m _ A l).mono;rintro e c ⟨g,i⟩;obtain⟨⟨t,y,rfl,r⟩,o⟩:=(show(∃t y,e=Ak _/\CA k c _ _ d)/\Ck c b {s with a:=q,c:=wi}from i)
   simp only[];have F:AC c _=H (G w B z):=Cc (Ca (g.block _ S E) n) 0;have hrel:Ci b _ c/\Ck c b _/\CA k c _ _ d:=⟨g,o,r⟩
   refine a _ _ <| ER 3 Z B6 λf a=>?_;go_simp;exact a _ _ <| Q ⟨t,y,c⟩ hrel
  go_simp;apply (m _ A l).mono;rintro e c ⟨g,i⟩;obtain⟨⟨t,y,rfl,r⟩,o⟩:=(show(∃t y,e=Ak _/\CA k c _ _ d)/\Ck c b {s with a:=q,c:=wi}from i)
  simp only[];have F:AC c _=H (G w B z):=Cc (Ca (g.block _ S E) n) 0;have hrel:Ci b _ c/\Ck c b _/\CA k c _ _ d:=⟨g,o,r⟩
  refine a _ _ <| Ld 0 3 Z Z B6 (λf a=>?_) λf a=>?_
  .go_simp;refine a _ _ <| ER 3 Z B6 λf a=>?_;go_simp;exact a _ _ <| Q ⟨t,y,c⟩ hrel
  go_simp;refine a _ _ <| ER 0 Z B6 λf a=>?_;have c4:(Az c<|M #[Ai t y] 89).cell? _=H _:=Ca (Iw c _ _<|by rw[F];rfl) F;go_simp;exact a _ _ <| Q ⟨t,y,c⟩ hrel
 case tail =>
  rintro⟨t,y,c⟩ ⟨g,o,r⟩;simp only[]at g o r ⊢;have P:=(Ci.of_below (Cu _ _).drew).trans g;have ae:=TD u P E;have av:=CE aj P.size;simp only[List.foldl];refine ER 4 Z B6 λf a=>?_;rw[Cp keJ];apply RF Z underlying221 hi am an ao Z B8 Z (ae.alloc _) 1 1 Z Z (EU) (λaw hu=>by simp at hu;subst hu;rfl) B8 Bc E B7;intro v' w5 ac ab ak;have hJ:=h.push h0 af P o r n u ah al ac ab ak<|AY h.len;have aa:=Ca (ab.block _ B7 λe=>AY<|DK u e.symm)<|Ca (CB _ _ _ E)<|Ca (P.block _ (Cd n) E) n;have c5:AC w5 _=H (G w B z):=Cc aa 0;have f5:=Dy w5 _ 0 _ _ aa;obtain⟨g5,ap,rfl⟩:=ownsRow_succ ac;refine a _ _ <| ER 5 Z B6 λf a=>?_;go_simp;refine a _ _ <| Wl B6 ?_ _;go_end0;exact⟨Z,hJ⟩
theorem Qg:∀(g p b:I) (a l:A1) (r:I),DA bs lim g p a b=.ok (l,r)->p<r/\K l+4*p<=K a+4*r
 |0,p,b,a,l,r,h=>by rw[DA]at h;cases h
 |g+1,p,b,a,l,r,h=>by
  rw[DA]at h;split at h
  .cases h
  split at h
  .cases h
  split at h
  .grind
  split at h
  .split at h
   .cases h
   next rr q hq =>
   have c:=Qg g q _ _ l r h;have d:=(WO hq).2;grind [Rq]
  split at h
  .cases h
  split at h
  .cases h
  have c:=Qg g _ _ _ l r h;grind
theorem OY(bs:A1)(lim:J):∀(l:A1) (p:I) (u:Unit) (q:I),Dt bs lim l p=.ok (u,q)->q=p+K l
 |[],p,u,q,h=>kfG
 |x::xs,p,u,q,h=>by
  rw[Dt]at h;split at h
  .cases h
  split at h
  .cases h
  split at h
  .have:=OY bs lim xs _ u q h;simp;omega
  cases h
def dF{l:A1}(h:Jj bs lim ks p=.ok (l,q)):p<q:=by
 unfold Jj at h;split at h
 .cases h
 next u q1 h1 =>
 split at h
 .cases h
 next l' r h2 =>
 split at h
 .cases h
 injection h with h;injection h with h3 h4;have:=OY _ _ _ _ _ _ h1;have:=Qg _ _ _ _ _ _ h2;omega
def dG(W:Ap)(b m:AH)(s:Cw)(ks:AJ A1)(r:A5 A1)(e:Ending)(W':Ap):Prop :=
 If b m W W'/\match r with
 |.ok (l,p)=>e=Ak (Ae ⟨Aw l⟩)/\Ck W' b {s with a:=p}/\F5 W' m (l::ks)
 |.error (en,pl)=>D4 en pl e
def rt(h:Ck W b s)(hk:F5 W m ks)(ac:m≠b)(ah:∀ab off,s.e≠[]->s.f=H ⟨ab,off,Ao⟩->ab≠m)(ai:K ks<1000000000)(aj:K s.e<=200000000)(hU:∀V,Ci b W V->U8 V)(h7:7<b):Ar As 288 #[Ag #[A8 b],.map<|H m] W<|dG W b m s ks<|Jj s.e s.d ks s.a:=by
 have n:=T<|Lh h;have o:=Q6 [34] Ba n.e;have cX:∀(V:X) (p:I),Ck V b _->Ci b W V->Ar _ _ _ V (Ho V b {s with a:=p} _<|DA s.e s.d (K s.e+1-p) p [] 0):=λV p k g=>co k (hU V g) h7 aj;have ae:∀(V:X) (p:I),Ck V b {s with a:=p}->Ar _ _ _ V λe W'=>D4 12 (p-1) e/\W'=V:=λV p k=>G4 12 k;have aa:D (∀V,Ci b W V->F5 V m ks):=λV k=>hk.ai ac k;have ad:D (∀V S p,Ck V b _->Ci m V S->Ck S b {s with a:=p}):=λV S p k g=>k.a3 ac ah g;obtain⟨al,HR⟩:=CC<|Jj s.e s.d ks s.a;rw[AE HR];have a:=AE HR;unfold Jj at a;have t:=Cc n.h 0;rcases ha:Dt s.e s.d [34] s.a with R|uq
 .rw[ha]at a o;simp only[]at a;subst a;obtain⟨u,pl⟩:=R;go_enter func288,ntmps288
  go_wp2_with(first
   |(go_at_call 274;apply o.mono;rintro e f ⟨i,j⟩;obtain rfl:=(show D4 u pl e from j)))
  exact⟨Z,.of1<|n.ai.trans i,Z⟩
 obtain⟨am,q⟩:=uq;rw[ha]at a o;simp only[]at a;have w:=λV9 hs hb=>cX V9 q hs hb;rcases hz:DA s.e s.d (K s.e+1-q) q [] 0 with R|lr
 .rw[hz]at a w;simp only[]at a;subst a;obtain⟨u,pl⟩:=R;go_enter func288,ntmps288
  go_wp2_with(first
   |(go_at_call 274;apply o.mono;rintro e f ⟨i,j⟩;obtain⟨rfl,B⟩:=(show e=Ak (.tuple _)/\Ck f b _ from j);have c:=T<|n.a0 B i;have t:=Cc c.h 0;have x:=w f c.e c.ai)
   |(go_at_call 275;apply x.mono;rintro e v ⟨y,A⟩;obtain rfl:=(show D4 u pl e from A)))
  exact⟨Z,.of1<|c.ai.trans y,Z⟩
 obtain⟨l,r⟩:=lr;rw[hz]at a w;simp only[]at a;have ak:=Qg _ _ _ _ _ _ hz;simp only[J1,Gf]at ak;by_cases L:l∈ks
 .rw[Cp L]at a;subst a;have N:=T L;go_enter func288,ntmps288
  go_wp2_with(first
   |(go_at_call 274;apply o.mono;rintro e f ⟨i,j⟩;obtain⟨rfl,B⟩:=(show e=Ak (.tuple _)/\Ck f b _ from j);have c:=T<|n.a0 B i;have t:=Cc c.h 0;have x:=w f c.e c.ai)
   |(go_at_call 275;apply x.mono;rintro e v ⟨y,A⟩;obtain⟨rfl,F⟩:=(show e=Ak (.string _)/\Ck v b {s with a:=r}from A);have d:=T<|c.a0 F y;have P:D<|K l<=1000000000:=(show _<=_ from by have h1:r<=K s.e:=F.a;omega);have t:=Cc d.h 0)
   |(go_at_call 294;apply (dh (aa v d.ai) N P).mono;rintro e w7 ⟨rfl,z⟩;have Q:=T<|d.a0 (d.e.ac z)<|Ci.of_below z;have t:=Cc Q.h 0;have af:=ae w7 r Q.e)
   |(go_at_call 271;apply af.mono;rintro e w8 ⟨hF,rfl⟩;obtain rfl:=hF))
  exact⟨Z,.of1 Q.ai,Z⟩
 rw[Cl L]at a;subst a;have N:=T L;go_enter func288,ntmps288
 go_wp2_with(first
  |(go_at_call 274;apply o.mono;rintro e f ⟨i,j⟩;obtain⟨rfl,B⟩:=(show e=Ak (.tuple _)/\Ck f b _ from j);have c:=T<|n.a0 B i;have t:=Cc c.h 0;have x:=w f c.e c.ai)
  |(go_at_call 275;apply x.mono;rintro e v ⟨y,A⟩;obtain⟨rfl,F⟩:=(show e=Ak (.string _)/\Ck v b {s with a:=r}from A);have d:=T<|c.a0 F y;have P:D<|K l<=1000000000:=(show _<=_ from by have h1:r<=K s.e:=F.a;omega);have t:=Cc d.h 0)
  |(go_at_call 294;apply (di (aa v d.ai) N ai P).mono;rintro e w7 ⟨rfl,ag,z⟩))
 go_ret;exact⟨(If.of1 d.ai).trans<|If.of2 z,Z,ad _ _ _ d.e z,ag⟩
structure Ig(k:AH)(W:Ap)(b:AH)(s:Cw)(N wi p:AH)(a:AJ A1×AJ (Lit×AM Unit))(V:Ap):Prop where
 e:Ck V b {s with a:=p,c:=wi}
 ai:Ci b W V
 f:V.heap[Au (Av W)]?=An (Aj #[Ad (An ⟨b,0,Ao⟩)] 215)
 d:V.heap[Au (Av W)+3]?=An (Aj #[.map (An (Au (Av W)+2))] 399)
 q:F5 V (Au (Av W)+2) a.1
 h:V.heap[N]?=An (Aj #[Ad (An ⟨b,0,Ao⟩)] 215)
 g:Au (Av W)+4<=N
 a2:∃ad l c xs,V.heap[Au (Av W)+1]?=An (Aj #[Ac ad l c] 223)/\V.ownsRow (Au (Av W)+4) 225 2 (Ac ad l c) (At a.2) xs/\An N≠Ax (AX ad l c)/\JI k V (λj=>Au (Av W)+4<=j/\j<Au (Av V)/\An j≠Ax (AX ad l c)) xs a.2
 size:Au (Av W)+4<=Au (Av V)
 len:At a.2<=p/\At a.1<=p
def Ig.a0{a:AJ A1×AJ (Lit×AM Unit)}(h:Ig k W b s N wi p a V)(hb:b<O (U W))(t:Ck V' b {s with a:=q,c:=wi' })(d:If b (O (U W)+2) V V')(o:F5 V' (O (U W)+2) ks)(r:K a.2<=q/\K ks<=q):Ig k W b s N wi' q (ks,a.2) V':=by obtain⟨g,l,c,u,f,i,m,n⟩:=h.a2;have v:=h.g;exact⟨t,h.ai.ac d,Ca (d.block _ (Cd h.f) E E) h.f,Ca (d.block _ (Cd h.d) E E) h.d,o,Ca (d.block _ (Cd h.h) E E) h.h,h.g,⟨g,l,c,u,Ca (d.block _ (Cd f) E E) f,dx i d E E,m,n.same (λj e=>⟨e.1,CQ e.2.1 d.size,e.2.2⟩) λj e=>d.block j e.2.1 E E⟩,CE h.size d.size,r⟩
def Ig.go'{a:AJ A1×AJ (Lit×AM Unit)}(h:Ig k W b s N wi p a V)(hb:b<O (U W))(e:Ck V' b {s with a:=q,c:=wi' })(c:Ci b V V')(d:K a.2<=q/\K a.1<=q):Ig k W b s N wi' q a V' :=
 h.a0 (ks:=a.1) hb e (.of1 c) (h.q.ai E c) d
def Ig.go{a:AJ A1×AJ (Lit×AM Unit)}(h:Ig k W b s N wi p a V)(hb:b<O (U W))(d:Ck V' b {s with a:=q,c:=wi' })(c:Ci b V V')(e:p<=q):Ig k W b s N wi' q a V' :=
 h.go' hb d c ⟨AY h.len.1,AY h.len.2⟩
theorem Ig.push{d:A2}{key:A1}{a:A4}{l c:I}{x:Aq}(h:Ig k W b s N wi p (ks,es) V)(h0:Ck W b s)(hb:b<O (U W))(m:Ci b V V3)(hS:Ck V3 b {s with a:=q,c:=wi})(hd:CA k V3 (λj=>O (U V)<=j/\j<O (U V3)) x d)(P:V.heap[O (U W)+1]?=H (M #[G a l c] 223))(B:V.ownsRow (O (U W)+4) 225 2 (G a l c) (K es) xs)(ah:H N≠Ax (AX a l c))(aj:JI k V (λj=>O (U W)+4<=j/\j<O (U V)/\H j≠Ax (AX a l c)) xs es)(F:w5.ownsRow (O (U W)+4) 225 2 v' (K es+1)<|xs++[Ae ⟨Aw key⟩,x])(n:(Az V3<|M #[Ae ⟨Aw key⟩,x] 225).grownBy w5<|Ax<|AX a l c)(t:Ax v'=Ax (AX a l c)\/Ax v'=H (O<|U<|Az V3<|M #[Ae ⟨Aw key⟩,x] 225))(ao:K es+1<=q)(ag:K ks<=q):Ig k W b s N wi q (ks,es++[(.string key,d)])<|AB w5 ⟨O (U W)+1,0,Ao⟩ v':=by
 have ap:=h.size;have hN:=h.g;have ac:=Cd h.h;have al:=m.size;have am:O (U V3)+1<=O (U w5):=BZ;have an:∀g,Ax (AX a l c)=H g->O (U W)+4<=g:=λg n=>DK B n;have ar:=Qd B;have u:∀j,j<O (U V3)->H j≠Ax (AX a l c)->j≠O (U W)+1->(AB w5 ⟨_,0,Ao⟩ v').heap[j]?=V3.heap[j]?:=λj f o A=>Ca (CY w5 _ _ _ keH)<|Ca (n.block j B7 o)<|CB _ _ _ f;have v:∀j,j<O (U W)+4->j≠O (U W)+1->(AB w5 _ v').heap[j]?=V3.heap[j]?:=λj f A=>u j E (λe=>B9) A;have ab:=Ca (n.block _ B7 λe=>B9)<|Ca (CB _ _ _ E)<|Ca (m.block _ (Cd P) E) P;have S:O (U<|AB w5 ⟨O (U W)+1,0,Ao⟩ v')=O (U w5):=Bd;have af:F5 (AB w5 ⟨O (U W)+1,0,Ao⟩ v') (O (U W)+2) ks:=by have h1:F5 V3 _ ks:=h.q.ai E m;have z:F5 (Az V3<|M #[Ae ⟨Aw key⟩,x] 225) _ ks:=h1.ai (b:=O (U W)+1) E<|Ci.of_below Cm;have h3:=z.kept n λe=>B9;exact h3.ai (b:=O (U W)+1) E ⟨Z,Z,Z,Bd,λj _ f=>CY w5 _ _ _ keR⟩
 obtain⟨L,w,rfl⟩:=ownsRow_succ F;have ai:(AB w5 ⟨O (U W)+1,0,Ao⟩<|G (H ⟨L,0,Ao⟩) (K es+1) w).ownsRow (O (U W)+4) 225 2 (G (H ⟨L,0,Ao⟩) (K es+1) w) (K es+1)<|xs++[Ae ⟨Aw key⟩,x]:=by
  refine⟨F.1,?_⟩;rcases F.2 with z|⟨g,y,aa,e,ad,ae,h5⟩
  .exact AF z
  exact AG ⟨g,y,aa,e,ad,Ca (CY w5 _ _ _ B7) ae,h5⟩
 have Q:∀j,j<O (U V3)->H j≠Ax (AX a l c)->H j≠Ax (AX _ _ w):=λj f o=>by
  rcases t with t|t
  .rw[t];exact o
  rw[t];intro e;injection e with e;simp at e;omega
 refine⟨h0.same Z Z hS λj f=>v j E E,⟨Ca n.os<|Ca m.os h.ai.os,Ca n.tape<|Ca m.tape h.ai.tape,Ca n.output<|Ca m.output h.ai.output,E,λj f o=>Ca (v j E E)<|Ca (m.block j E o)<|h.ai.block j f o⟩,Ca (v _ E E)<|Ca (m.block _ E E) h.f,Ca (v _ E E)<|Ca (m.block _ E E) h.d,af,Ca (u N E ah E)<|Ca (m.block N ac E) h.h,h.g,⟨_,_,_,_,?_,by rw[Dj];exact ai,?_,λi ak dd r=>?_⟩,by rw[S];omega,⟨B9,ag⟩⟩
 .rw[DX _ _ _ _ _ _ ab];rfl
 .grind
 have aq:=B.1;by_cases hi:i<K es
 .rw[Hg hi]at r;obtain⟨l',x',e1,e2,e3,e4⟩:=aj i ak dd r;refine⟨l',x',e1,B9,B9,?_⟩;exact e4.same (λj f=>⟨f.1,E,Q j E f.2.2⟩) λj f=>Ca (u j E f.2.2 E)<|m.block j f.2.1 E
 have e:i=K es:=B9;subst e;rw[Jc E]at r;simp at r;obtain⟨rfl,rfl⟩:=r;have R:∀j,O (U V)<=j->H j≠Ax (AX a l c):=λj f e=>B9;refine⟨key,x,Z,?_,?_,hd.same (λj f=>⟨E,by rw[S];omega,Q j f.2<|R j f.1⟩) λj f=>u j f.2 (R j f.1) E⟩<;>grind
theorem ru(h0:Ck W b s)(a1:Qf k b {s with c:=wi} W rd)(a4:∀p d q,rd p=.ok (d,q)->p<q)(a5:K s.e<=200000000)(hU:∀V,Ci b W V->U8 V)(h7:7<b){a:AJ A1×AJ (Lit×AM Unit)}(h:Ig k W b s N wi p a V):Ar As 287 #[A8<|O<|U W,A8<|O (U W)+3,A8<|O (U W)+1] V<|TF (Ig k W b s N wi) (λV=>Ci b W V)<|FF s.e s.d rd a p:=by
 obtain⟨i0,hi,bb,bc,bd⟩:=DL Tryz.infoEntry;have af:=Cd h0.aq;have ax:∀aj off,s.e≠[]->s.f=H ⟨aj,off,Ao⟩->aj≠O (U W)+2:=λaj off ay e=>by have hl:0<K s.e:=B9;obtain⟨g',bk,e1,_,e3⟩:=h0.c 0 hl;rw[e]at e1;injection e1 with e1;injection e1 with e1;have:g'<O (U W):=Fk e3;omega
 have ab:=T h;have cK:Ar _ _ _ V<|dG V b _ _ _<|Jj s.e s.d _ p:=rt h.e h.q E ax (by have r:=h.len.2;have A:p<=K s.e:=h.e.a;omega) a5 (λw h9=>hU w<|h.ai.trans h9) h7;have cS:∀(V:X) (p:I),Ck V b _->Ar _ _ _ V (Ho V b {s with a:=p,c:=wi} _<|DW s.e s.d (K s.e+1-p) p):=λV p hV=>Rn hV;have cR:∀(V:X) (p:I),Ck V b _->Ar _ _ _ V (Ho V b {s with a:=p,c:=wi} _<|Dt s.e s.d _ p):=λV p hV=>Q6 [58] Ba hV;have ai:∀(w:X) (q:I),Ck w b {s with a:=q,c:=wi}->Ci b W w->Ar _ _ _ w (NO k w b {s with a:=q,c:=wi} _):=λw q r A=>a1 w q r A;have g:=Cc h.f 0;have k2:=Cc h.d 0;clear h a1 hU ax;obtain⟨be,HR⟩:=CC<|FF s.e s.d rd a p;rw[AE HR];have o:=AE HR;unfold FF at o;clear HR;go_enter func287,ntmps287
 go_wp2_with fail
 apply cK.mono;clear cK;rintro e w1 ⟨ak,ac⟩;rcases r:Jj s.e s.d a.1 p with Q|lq
 .obtain⟨z,F⟩:=Q;simp only[r]at o ac;subst o;clear r cS cR ai;obtain rfl:=(show D4 z F e from ac)
  go_wp2;exact⟨Z,Z,ab.out.ai.ac ak⟩
 obtain⟨key,q1⟩:=lq;have bh:=dF r;simp only[r]at o ac;clear r;obtain⟨rfl,ar,ap⟩:=(show e=Ak _/\Ck w1 b _/\F5 w1 _ _ from ac)
 have H1:=T (ab.out.a0 af ar ak ap ⟨AY ab.out.len.1,by have:=ab.out.len.2;grind⟩);clear ab ar ak ap ac g k2;have g:=Cc H1.f 0
 go_wp2_with fail
 apply (cS w1 q1 H1.e).mono;rintro e w2 ⟨al,ad⟩;rcases A:DW s.e s.d (K s.e+1-q1) q1 with Q|uq
 .obtain⟨z,F⟩:=Q;simp only[A]at o ad;subst o;clear A;obtain rfl:=(show D4 z F e from ad)
  go_wp2;exact⟨Z,Z,H1.ai.trans al⟩
 obtain⟨u2,q2⟩:=uq;have a6:=Lp _ _ _ _ A;simp only[A]at o ad;clear A;obtain⟨rfl,au⟩:=(show e=Ak _/\Ck w2 b _ from ad)
 have H2:=T<|H1.go af au al a6;clear H1 au al ad g;have g:=Cc H2.f 0
 go_wp2_with fail
 apply (cR w2 q2 H2.e).mono;rintro e f ⟨m,n⟩;rcases h3:Dt s.e s.d [58] q2 with Q|uq
 .obtain⟨z,F⟩:=Q;simp only[h3]at o n;subst o;clear h3;obtain rfl:=(show D4 z F e from n)
  go_wp2;exact⟨Z,Z,H2.ai.trans m⟩
 obtain⟨u3,q3⟩:=uq;have a7:q2<=q3:=AY<|OY _ _ _ _ _ _ h3;simp only[h3]at o n;clear h3;obtain⟨rfl,B⟩:=(show e=Ak _/\Ck f b _ from n)
 have H3:=T<|H2.go af B m a7;clear H2 B m n g;have g:=Cc H3.f 0
 go_wp2_with fail
 apply (cS f q3 H3.e).mono;rintro e P ⟨am,ae⟩;rcases h4:DW s.e s.d (K s.e+1-q3) q3 with Q|uq
 .obtain⟨z,F⟩:=Q;simp only[h4]at o ae;subst o;clear h4;obtain rfl:=(show D4 z F e from ae)
  go_wp2;exact⟨Z,Z,H3.ai.trans am⟩
 obtain⟨u4,q4⟩:=uq;have a8:=Lp _ _ _ _ h4;simp only[h4]at o ae;clear h4;obtain⟨rfl,av⟩:=(show e=Ak _/\Ck P b _ from ae)
 have L:=T<|H3.go af av am a8;clear H3 av am ae g
 go_wp2_with fail
 have u:=λw r A=>ai w q4 r A;clear ai;obtain⟨a0,l0,c0,xs,R,ho,ay,ao⟩:=L.a2;have ho:P.ownsRow _ _ 2 _ (K a.2) xs:=ho;have ao:JI k P _ xs a.2:=ao;have an:O (U W)+1<O (U<|World.drew P):=Cd R;have aa:=L.e.ac (Cu _ _).drew;have S:=L.ai.trans<|Ci.of_below (Cu _ _).drew;have k0:(World.drew P).cell? _=H (G a0 l0 c0):=Cc R 0;have g:(World.drew P).cell? _=H (.pointer _):=Cc L.f 0;have a9:=L.size;apply SW B6;change wpAny _ _ _ _ _ _ _ (World.drew P);apply wpAny_take (i:=1) (v:=.string _) Z B6 B6 B6 (λ_ _ _ h=>h)<|AF ⟨Z,λw=>rfl⟩;rcases h5:rd q4 with Q|dq
 .obtain⟨z,F⟩:=Q;simp only[h5]at o;subst o;rw[h5]at u;clear h5;refine Ld 0 2 Z Z B6 (λl c=>?_) λl c=>?_
  .go_simp;apply c _ _;clear c;refine ER 2 Z B6 λl c=>?_;go_simp;apply c _ _;clear c;refine ER 3 Z B6 λl c=>?_;go_simp;apply (u _ aa S).mono;rintro e f ⟨m,n⟩;obtain rfl:=(show D4 z F e from n)
   exact⟨Z,Z,S.trans m⟩
  go_simp;apply c _ _;clear c;refine Ld 0 3 Z Z B6 (λl c=>?_) λl c=>?_
  .go_simp;apply c _ _;clear c;refine ER 3 Z B6 λl c=>?_;go_simp;apply (u _ aa S).mono;rintro e f ⟨m,n⟩;obtain rfl:=(show D4 z F e from n)
   exact⟨Z,Z,S.trans m⟩
  go_simp;apply (u _ aa S).mono;rintro e f ⟨m,n⟩;obtain rfl:=(show D4 z F e from n)
  exact⟨Z,Z,S.trans m⟩
 obtain⟨d,q5⟩:=dq;have bi:=a4 q4 d q5 h5;simp only[h5]at o;subst o;rw[h5]at u;clear h5;have bg:K a.2<=200000000:=by have r:K a.2<=q4:=L.len.1;have A:q4<=K s.e:=L.e.a;omega
 refine dE (β:=AN×Aq×X) #[AP,AP,AP,AP,AP,AP,AQ,AQ] 2 (λx=>[(13,G a0 l0 c0),(15,Ag #[A8 b]),(16,Ai x.1 x.2.1),(17,Ag #[Ae ⟨Aw key⟩,Ai x.1 x.2.1]),(18,G (Aa<|O<|U x.2.2) 1 1)]) (λx=>Ci b (World.drew P) x.2.2/\Ck x.2.2 b {s with a:=q5,c:=wi}/\CA k x.2.2 (λa2=>O (U<|World.drew P)<=a2/\a2<O (U x.2.2)) (Ai x.1 x.2.1) d) (λx=>x.2.2.alloc<|M #[Ae ⟨Aw key⟩,Ai x.1 x.2.1] 225) (λag=>?reg) ?tail
 case reg =>
  refine Ld 0 2 Z Z B6 (λl c=>?_) λl c=>?_
  .go_simp;apply c _ _;clear c;refine ER 2 Z B6 λl c=>?_;go_simp;apply c _ _;clear c;refine ER 3 Z B6 λl c=>?_;go_simp;apply (u _ aa S).mono;rintro e f ⟨m,n⟩;obtain⟨⟨t,y,rfl,j⟩,B⟩:=(show(∃t y,e=Ak _/\CA k f _ _ d)/\Ck f b {s with a:=q5,c:=wi}from n)
   simp only[];have c3:AC f _=H (G a0 l0 c0):=Cc (Ca (m.block _ an E) R) 0;have hrel:Ci b _ f/\Ck f b _/\CA k f _ _ d:=⟨m,B,j⟩
   apply c _ _;clear c;refine ER 4 Z B6 λl c=>?_;go_simp;apply c _ _;clear c;refine ER 5 Z B6 λl c=>?_;go_simp;apply c _ _;clear c;exact ag ⟨t,y,f⟩ hrel
  go_simp;apply c _ _;clear c;refine Ld 0 3 Z Z B6 (λl c=>?_) λl c=>?_
  .go_simp;apply c _ _;clear c;refine ER 3 Z B6 λl c=>?_;go_simp;apply (u _ aa S).mono;rintro e f ⟨m,n⟩;obtain⟨⟨t,y,rfl,j⟩,B⟩:=(show(∃t y,e=Ak _/\CA k f _ _ d)/\Ck f b {s with a:=q5,c:=wi}from n)
   simp only[];have c3:AC f _=H (G a0 l0 c0):=Cc (Ca (m.block _ an E) R) 0;have hrel:Ci b _ f/\Ck f b _/\CA k f _ _ d:=⟨m,B,j⟩
   apply c _ _;clear c;refine ER 4 Z B6 λl c=>?_;go_simp;apply c _ _;clear c;refine ER 5 Z B6 λl c=>?_;go_simp;apply c _ _;clear c;exact ag ⟨t,y,f⟩ hrel
  go_simp;apply (u _ aa S).mono;rintro e f ⟨m,n⟩;obtain⟨⟨t,y,rfl,j⟩,B⟩:=(show(∃t y,e=Ak _/\CA k f _ _ d)/\Ck f b {s with a:=q5,c:=wi}from n)
  simp only[];have c3:AC f _=H (G a0 l0 c0):=Cc (Ca (m.block _ an E) R) 0;have hrel:Ci b _ f/\Ck f b _/\CA k f _ _ d:=⟨m,B,j⟩
  apply c _ _;clear c;refine Ld 0 4 Z Z B6 (λl c=>?_) λl c=>?_
  .go_simp;apply c _ _;clear c;refine ER 4 Z B6 λl c=>?_;go_simp;apply c _ _;clear c;refine ER 5 Z B6 λl c=>?_;go_simp;apply c _ _;clear c;exact ag ⟨t,y,f⟩ hrel
  go_simp;apply c _ _;clear c;refine Ld 0 5 Z Z B6 (λl c=>?_) λl c=>?_
  .go_simp;apply c _ _;clear c;refine ER 5 Z B6 λl c=>?_;go_simp;apply c _ _;clear c;exact ag ⟨t,y,f⟩ hrel
  go_simp;apply c _ _;clear c;refine ER 0 Z B6 λl c=>?_;have c4:(Az f<|M #[Ae ⟨Aw key⟩,Ai t y] 225).cell? _=H _:=Ca (Iw f _ _<|by rw[c3];rfl) c3;go_simp;apply c _ _;clear c;exact ag ⟨t,y,f⟩ hrel
 case tail =>
  rintro⟨t,y,f⟩ ⟨m,B,j⟩;simp only[]at m B j ⊢;have ah:=(Ci.of_below (Cu _ _).drew).trans m;have a3:=TD ho ah E;have bj:=CE a9 ah.size;simp only[List.foldl];refine ER 6 Z B6 λl c=>?_;rw[Cp keJ];refine RF Z underlying223 hi bb bc bd Z B8 Z (a3.alloc _) 1 1 Z Z (EU) (λbl hu=>BJ) B8 Bc E B7 ?_;intro v' w5 az aw ba;have hJ:Ig k W b s N wi q5 (key::a.1,a.2++[(.string key,d)])<|AB w5 ⟨O (U W)+1,0,Ao⟩ v':=L.push h0 af ah B j R ho ay ao az aw ba (by have r:K a.2<=q4:=L.len.1;omega) (by have r:K (key::a.1)<=q4:=L.len.2;omega);have aq:A7 w5 (O (U W)+1) #[G a0 l0 c0] 223:=Ca (aw.block _ B7 λe=>AY<|DK ho e.symm)<|Ca (CB _ _ _ E)<|Ca (ah.block _ (Cd R) E) R;have c5:AC w5 _=H (G a0 l0 c0):=Cc aq 0;have f5:=Dy w5 _ 0 _ _ aq;obtain⟨g5,bf,rfl⟩:=ownsRow_succ az;apply c _ _;clear c;refine ER 7 Z B6 λl c=>?_;go_simp;apply c _ _;clear c;refine Wl B6 ?_ _;go_end0;exact⟨Z,hJ⟩
def TG{α:Type}(W:Ap)(b:AH)(s:Cw)(val:Ap->Aq->α->Prop)(r:A5 α)(e:Ending)(W':Ap):Prop :=
 Ci b W W'/\match r with
 |.ok (x,p)=>(∃v,e=Ak v/\val W' v x)/\Ck W' b {s with a:=p}
 |.error (en,pl)=>D4 en pl e
def rz(hb:b<O (U W)):WY b s (Lq k W b s) (λV=>Ci b W V) :=
 ⟨λ_ _ _ _ _ h=>h.e,λ_ _ _ _ _ _ _ _ h c a d=>h.a0 hb c a<|AY h.len,λ_ _ _ _ _ h=>h.h,λ_ _ _ _ _ h=>h.ai,λ_ _ h a=>h.trans a⟩
def rA(hb:b<O (U W)):WY b s (Ig k W b s) (λV=>Ci b W V) :=
 ⟨λ_ _ _ _ _ h=>h.e,λ_ _ _ _ _ _ _ _ h d a c=>h.go hb d a c,λ_ _ _ _ _ h=>h.h,λ_ _ _ _ _ h=>h.ai,λ_ _ h a=>h.trans a⟩
theorem dH(c:∀p d q,rd p=.ok (d,q)->p<q):∀a p b q,G6 rd a p=.ok (b,q)->p<q:=λa p b q h=>by grind [G6]
theorem WZ(c:∀p d q,rd p=.ok (d,q)->p<q):∀a p b q,FF bs lim rd a p=.ok (b,q)->p<q:=λa p b q h=>by
 unfold FF at h;split at h
 .cases h
 next l p1 h1 =>
 split at h
 .cases h
 next u2 p2 h2 =>
 split at h
 .cases h
 next u3 p3 h3 =>
 split at h
 .cases h
 next u4 p4 h4 =>
 split at h
 .cases h
 next d p5 h5 =>
 injection h with h;injection h with h6 h7;have:=dF h1;have:=Lp _ _ _ _ h2;have:=OY _ _ _ _ _ _ h3;have:=Lp _ _ _ _ h4;grind
theorem rB(k:I)(h:Ck W b s):Lq k W b s (O (U W)+2) s.c s.a []<|Az (Az (Az W<|M #[A8 b] 215)<|M #[G Ao 0 0] 221)<|M #[A8 b] 215:=by have a:Below _ W<|Az (Az (Az W<|M #[A8 b] 215)<|M #[G Ao 0 0] 221)<|M #[A8 b] 215:=((Cm).alloc Ba _).alloc B7 _;refine⟨h.ac a,Ci.of_below a,?_,?_,Cr _,⟨Ao,0,0,[],?_,Fi _ _ _ _,by simp[Value.ownBlock],λi x d c=>kf2⟩,Ba,Ex _⟩<;>grind [Below.heap_alloc,Cj,World.size_alloc]
theorem rC(k:I)(h:Ck W b s):Ig k W b s (O (U W)+4) s.c s.a ([],[])<|Az (Az (Az (Az (Az W<|M #[A8 b] 215)<|M #[G Ao 0 0] 223)<|.map #[] 0)<|M #[.map<|H<|O (U W)+2] 399)<|M #[A8 b] 215:=by
 have a:Below _ W<|Az (Az (Az (Az (Az W<|M #[A8 b] 215)<|M #[G Ao 0 0] 223)<|.map #[] 0)<|M #[.map<|H<|O (U W)+2] 399)<|M #[A8 b] 215:=((((Cm).alloc Ba _).alloc B7 _).alloc B7 _).alloc B7 _;generalize hA:Az W (M #[A8 b] 215)=A at *;have c:O (U A)=O (U W)+1:=by rw[<-hA];simp
 have g:A7 A (O<|U W) #[A8 b] 215:=by grind [Cj]
 generalize hC:A.alloc (M #[G Ao 0 0] 223)=C at *;have n:O (U C)=O (U W)+2:=by rw[<-hC];simp[c]
 have j:A7 C (O<|U W) #[A8 b] 215:=by grind [Below.heap_alloc]
 have m:A7 C (O (U W)+1) #[G Ao 0 0] 223:=by grind [Cj]
 have e:F5 (C.alloc<|.map #[] 0) (O (U W)+2) []:=⟨.map [],by grind [World.ownsMap_made],λl=>kfC⟩
 refine⟨h.ac a,Ci.of_below a,?_,?_,?_,?_,Cr _,⟨Ao,0,0,[],?_,Fi _ _ _ _,by simp[Value.ownBlock],λi x d f=>by simp at f⟩,B7,⟨Ex _,Ex _⟩⟩
 .grind [Below.heap_alloc]
 .grind [Below.heap_alloc,Cj,World.size_alloc]
 .exact(e.ai (b:=O<|U W) E<|Ci.of_below Cm).ai (b:=O<|U W) E<|Ci.of_below Cm
 .grind [Cj,World.size_alloc]
 grind [Below.heap_alloc]
theorem rD(k:I)(h:Ck W b s)(aa:Qf k b {s with c:=s.c+1} W rd)(y:∀p d q,rd p=.ok (d,q)->p<q)(x:K s.e<=200000000)(r:¬(s.c:J)=s.b)(ab:s.c<=100000):Ar As 276 #[Ag #[A8 b]] W<|TG W b s (λV v m=>(∃a ae c,v=G a ae c)/\CA (k+1) V (λj=>O (U W)<=j/\j<O (U V)) (Ai 221 v) (.agg m))<|Gn s.e s.d (G6 rd) 93 s.a []:=by
 have n:=Cd h.aq;have N:Below _ W<|Az (Az W<|M #[A8 b] 215)<|M #[G Ao 0 0] 221:=(Cm).alloc Ba _;have f:=dD 93 _ _ (λ_ _=>B6) [] (rz n) (h.ac N) r ab (by grind [World.size_alloc,rB]) (λag p m V hV=>rq h aa y x hV)<|dH y;have kr:(Az (Az W<|M #[.pointer _] 215)<|M #[G Ao 0 0] 221).cell? _=H (A8 b):=Cc (Ca (CB _ _ _ Ba)<|Cj W) 0;rcases hr:Gn s.e s.d (G6 rd) 93 s.a []with R|P
 .obtain⟨Q,pl⟩:=R;rw[hr]at f;go_enter func276,ntmps276
  go_wp2_with(first
   |(go_at_call 285;apply f.mono;rintro e t hF;obtain⟨hF,i⟩:=(show D4 Q pl e/\Ci b W t from hF);obtain rfl:=hF))
  exact⟨Z,i,Z⟩
 obtain⟨m,q⟩:=P;rw[hr]at f;go_enter func276,ntmps276
 go_wp2_with(first
  |(go_at_call 285;apply f.mono;rintro e t hF;obtain⟨rfl,o⟩:=(show e=Ak _/\Lq k W b s _ _ q m t from hF);obtain⟨a,ai,c,xs,hL,ho,ah,ac⟩:=o.a2;have kl:=Cc hL 0;have u:=T ho;have B:=T ac;have z:=T o.ai;have A:=T o.e))
 go_ret;refine⟨z,⟨_,Z,⟨_,_,_,Z⟩,?_⟩,A⟩;unfold CA;refine⟨_,xs,Z,⟨u.1,?_⟩,λad af d hx r=>(B ad af d hx r).same (λj hj=>⟨E,hj.2.1⟩) λ_ _=>rfl⟩;rcases u.2 with S|⟨g,F,L,e,hb,w,l⟩
 .exact AF S
 exact AG ⟨g,F,L,e,⟨E,(Cd w)⟩,w,l⟩
theorem rE(k:I)(h:Ck W b s)(ab:Qf k b {s with c:=s.c+1} W rd)(u:∀p d q,rd p=.ok (d,q)->p<q)(aa:K s.e<=200000000)(hU:∀V,Ci b W V->U8 V)(R:7<b)(hd:¬(s.c:J)=s.b)(ac:s.c<=100000):Ar As 277 #[Ag #[A8 b]] W<|TG W b s (λV v i=>(∃a ae c,v=G a ae c)/\CA (k+1) V (λj=>O (U W)<=j/\j<O (U V)) (Ai 223 v) (.map i.2))<|Gn s.e s.d (FF s.e s.d rd) 125 s.a ([],[]):=by
 have n:=Cd h.aq;have ag:∀V:X,(Instr.makeMap 399 Ao).run As V=.ok (.map<|H<|O<|U V) (Az V<|.map #[] 0):=λV=>B6;have S:Below _ W<|Az (Az (Az (Az W<|M #[A8 b] 215)<|M #[G Ao 0 0] 223)<|.map #[] 0)<|M #[.map<|H<|O (U W)+2] 399:=(((Cm).alloc Ba _).alloc B7 _).alloc B7 _;have f:=dD 125 _ _ (λ_ _=>B6) ([],[]) (rA n) (h.ac S) hd ac (by grind [World.size_alloc,rC]) (λaf p i V hV=>ru h ab u aa hU R hV)<|WZ u;have kr:(Az (Az (Az (Az W<|M #[.pointer _] 215)<|M #[G Ao 0 0] 223)<|.map #[] 0)<|M #[.map<|H<|O (U W)+2] 399).cell? _=H (A8 b):=Cc (Ca (CB _ _ _ B7)<|Ca (CB _ _ _ B7)<|Ca (CB _ _ _ Ba)<|Cj W) 0;rcases hr:Gn s.e s.d (FF s.e s.d rd) 125 s.a ([],[])with L|B
 .obtain⟨F,pl⟩:=L;rw[hr]at f;go_enter func277,ntmps277
  go_wp2_with(first
   |(go_at_call 285;apply f.mono;rintro e o hF;obtain⟨hF,l⟩:=(show D4 F pl e/\Ci b W o from hF);obtain rfl:=hF))
  exact⟨Z,l,Z⟩
 obtain⟨i,q⟩:=B;rw[hr]at f;go_enter func277,ntmps277
 go_wp2_with(first
  |(go_at_call 285;apply f.mono;rintro e o hF;obtain⟨rfl,m⟩:=(show e=Ak _/\Ig k W b s _ _ q i o from hF);obtain⟨a,ai,c,xs,N,ho,ah,ad⟩:=m.a2;have kl:=Cc N 0;have r:=T ho;have y:=T ad;have w:=T m.ai;have x:=T m.e))
 go_ret;refine⟨w,⟨_,Z,⟨_,_,_,Z⟩,?_⟩,x⟩;unfold CA;refine⟨_,xs,Z,⟨r.1,?_⟩,y.same (λj hj=>⟨E,hj.2.1⟩) λ_ _=>rfl⟩;rcases r.2 with P|⟨g,z,A,e,hb,t,Q⟩
 .exact AF P
 exact AG ⟨g,z,A,e,⟨E,(Cd t)⟩,t,Q⟩
def dI(last:J)(f:Fn)(g cs:A3)(h:Ck W b s)(j:(s.c:J)=s.b):Ar As 285 #[Ag #[A8 b],C Am last,.func f g cs] W λe c=>D4 11 ((s.a:J)-1) e/\Ci b W c:=by
 have a:=T<|Lh h;have d:=dk a.e j;have k:=Cc a.h 0;go_enter func285,ntmps285;go_wp2;go_step3
 go_wp2_with(first
  |(go_at_call 265;apply d.mono;rintro e l ⟨hF,i,_⟩;obtain rfl:=hF))
 exact⟨Z,Z,a.ai.trans i⟩
def rG(h:Ck W b s)(k:(s.c:J)=s.b):Ar As 276 #[Ag #[A8 b]] W λe d=>D4 11 ((s.a:J)-1) e/\Ci b W d:=by
 have a:Below _ W<|Az (Az W<|M #[A8 b] 215)<|M #[G Ao 0 0] 221:=(Cm).alloc Ba _;have c:D<|Ci b W _:=Ci.of_below a;have f:=λlast g i cs=>dI last g i cs (h.ac a) k;have l:(Az (Az W<|M #[.pointer _] 215)<|M #[G Ao 0 0] 221).cell? _=H (A8 b):=Cc (Ca (CB _ _ _ Ba)<|Cj W) 0;go_enter func276,ntmps276
 go_wp2_with(first
  |(go_at_call 285;apply (f _ _ _ _).mono;rintro e m ⟨hF,j⟩;obtain rfl:=hF))
 exact⟨Z,Z,c.trans j⟩
def rH(h:Ck W b s)(k:(s.c:J)=s.b):Ar As 277 #[Ag #[A8 b]] W λe d=>D4 11 ((s.a:J)-1) e/\Ci b W d:=by
 have a:Below _ W<|Az (Az (Az (Az W<|M #[A8 b] 215)<|M #[G Ao 0 0] 223)<|.map #[] 0)<|M #[.map<|H<|O (U W)+2] 399:=(((Cm).alloc Ba _).alloc B7 _).alloc B7 _;have c:D<|Ci b W _:=Ci.of_below a;have l:∀V:X,(Instr.makeMap 399 Ao).run As V=.ok (.map<|H<|O<|U V) (Az V<|.map #[] 0):=λV=>B6;have f:=λlast g i cs=>dI last g i cs (h.ac a) k;have m:(Az (Az (Az (Az W<|M #[.pointer _] 215)<|M #[G Ao 0 0] 223)<|.map #[] 0)<|M #[.map<|H<|O (U W)+2] 399).cell? _=H (A8 b):=Cc (Ca (CB _ _ _ B7)<|Ca (CB _ _ _ B7)<|Ca (CB _ _ _ Ba)<|Cj W) 0;go_enter func277,ntmps277
 go_wp2_with(first
  |(go_at_call 285;apply (f _ _ _ _).mono;rintro e n ⟨hF,j⟩;obtain rfl:=hF))
 exact⟨Z,Z,c.trans j⟩
theorem X2{z:AK}:∀{g p num:I} {x q:I},Ee bs lim most z g p num=.ok (x,q)->p<=q
 |0,p,num,x,q,h=>by grind [Ee]
 |g+1,p,num,x,q,h=>by
  unfold Ee at h;split at h
  .grind
  split at h
  .cases h
  split at h
  .split at h
   .cases h
   split at h
   .cases h
   have:=X2 h;omega
  grind
theorem X3(d:c.toNat=45\/Ey c=AP)(h:GV s c=.ok (z,q)):(-9223372036854775808<=z/\z<=9223372036854775807)/\s.a<=q:=by
 unfold GV at h;split at h
 .split at h
  .cases h
  split at h
  .cases h
  split at h
  .next c' _ _ a =>
   have b:=Dr a;split at h
   .next x p hx =>
    injection h with h;injection h with h1 h2;have:=Rm E B8 hx;have:=X2 hx;omega
   cases h
  cases h
 next hn =>
 have a:Ey c=AP:=B9;have b:=Dr a;split at h
 .next x p hx =>
  injection h with h;injection h with h1 h2;have:=Rm E B8 hx;have:=X2 hx;omega
 cases h
def Ih(s:Cw)(c:AU)(p:AH):A5 AI:=GV {s with a:=p} c
def OZ(k:J){p:AK}(h:AR ((c.toNat:J)=k)=p:=by(first|exact Fm (by omega)|exact FO<|by omega)):((c.toNat:J)==k)=p:=E
def rI{p:AK}(h:AR (48<=(c.toNat:J)/\(c.toNat:J)<=57)=p:=by(first|exact Fm (by omega)|exact FO<|by omega)):AR (48<=(c.toNat:J)/\(c.toNat:J)<=57)=p:=h
def Lr(W:Ap)(b:AH)(s:Cw)(f:FuncId)(args:A3)(R:AS (AI×AI)<|AM Unit×AH)(val:Ap->Ap->Aq->A2->Prop):Prop :=
 ∀V,Ck V b s.next->Ci b W V->Ar As f args V λe W'=>Ci b V W'/\match R with
 |.ok (d,q)=>(∃v,e=Ak v/\val V W' v d)/\Ck W' b {s with a:=q}
 |.error (en,pl)=>D4 en pl e
def P2{α:Type}{R:AS (J×J)<|AM Unit×I}{val:X->X->Aq->A2->Prop}{vl:X->X->Aq->α->Prop}(r:A5 α)(k:α->A2)(c:∀V,Ck V b s.next->Ci b W V->Ar As f args V (TG V b s.next (vl V) r))(m:∀V a v x q,r=.ok (x,q)->vl V a v x->val V a v (k x))(g:(∀e,r=.error e->R=.error e)/\∀x q,r=.ok (x,q)->R=.ok (k x,q):=by exact⟨λe d=>by rw[d]at hr;exact hr.symm,λx q d=>by rw[d]at hr;exact hr.symm⟩):Lr W b s f args R val:=λV j l=>Ce (c V j l) λe a h=>by
 rcases r with n|⟨x,q⟩
 .obtain rfl:=g.1 _ rfl;exact h
 obtain rfl:=g.2 _ _ rfl;exact⟨h.1,h.2.1.imp λv i=>⟨i.1,m V a v x q Z i.2⟩,h.2.2⟩
def RG{α:Type}{val:α->Aq}{r:A5 α}(h:Ar As f args V<|Ho V b s val r):Ar As f args V<|TG V b s (λ_ v x=>v=val x) r:=Ce h λe a h=>by
 rcases r with c|⟨x,q⟩
 .exact h
 exact⟨h.1,⟨_,h.2.1,Z⟩,h.2.2⟩
theorem rJ(g:I)(W:Ap)(b:I)(s:Cw)(c:AU)(h:Ck W b s)(h1:JB s c)(rd:I->AS (J×J) (AM Unit×I))(hlen:K s.e<=200000000)(hU:∀V,Ci b W V->U8 V)(h7:7<b)(hdp:s.b<=100000)(hwd:(s.c:J)<=s.b)(ih:¬(s.c:J)=s.b->Qf g b {s with c:=s.c+1} W rd)(hgo:∀p d q,rd p=.ok (d,q)->p<q):Ar As 272 #[Ag #[A8 b]] W<|NO (g+1) W b s<|Kf s.e s.d s.b s.c rd (Ih s) c<|s.a+1:=by
 obtain⟨R,hr⟩:=DF<|Kf s.e s.d s.b s.c rd (Ih s) c<|s.a+1;rw[hr];have HX0:=T<|Lh h;have kb:=HX0.cell;have cT:=J3 HX0.e h1;have hpp:(((s.a+1:I)):J)-1=s.a:=E;have hw:(c.toNat=110/\D (Lr W b s 274 #[Ag #[A8 b],Ae ⟨#[117,108,108]⟩] R λ_ _ v d=>v=Af #[]/\d=.nil))\/(c.toNat=116/\D (Lr W b s 274 #[Ag #[A8 b],Ae ⟨#[114,117,101]⟩] R λ_ _ v d=>v=Af #[]/\d=.lit (.bool AP)))\/(c.toNat=102/\D (Lr W b s 274 #[Ag #[A8 b],Ae ⟨#[97,108,115,101]⟩] R λ_ _ v d=>v=Af #[]/\d=.lit (.bool AQ)))
   \/ (c.toNat=34/\D (Lr W b s 275 #[Ag #[A8 b]] R λ_ _ v d=>∃l:A1,v=Ae ⟨Aw l⟩/\d=.lit (.string l)))\/(c.toNat=91/\D (Lr W b s 276 #[Ag #[A8 b]] R λV W' v d=>∃a n c,v=G a n c/\CA (g+1) W' (λj=>O (Av V)<=j/\j<O (Av W')) (Ai 221 v) d))\/(c.toNat=123/\D (Lr W b s 277 #[Ag #[A8 b]] R λV W' v d=>∃a n c,v=G a n c/\CA (g+1) W' (λj=>O (Av V)<=j/\j<O (Av W')) (Ai 223 v) d))
   \/ (c.toNat=45/\D (Lr W b s 279 #[Ag #[A8 b],C Am c.toNat] R λ_ _ v d=>∃z,v=C Y z/\d=.lit (.int Y z) /\ -9223372036854775808<=z/\z<=9223372036854775807))\/((48<=(c.toNat:J)/\(c.toNat:J)<=57)/\D (Lr W b s 279 #[Ag #[A8 b],C Am c.toNat] R λ_ _ v d=>∃z,v=C Y z/\d=.lit (.int Y z) /\ -9223372036854775808<=z/\z<=9223372036854775807))
   \/ (¬(c.toNat=110\/c.toNat=116\/c.toNat=102\/c.toNat=34\/c.toNat=91\/c.toNat=123\/c.toNat=45\/(48<=c.toNat/\c.toNat<=57))/\R=.error (9,s.a)):=by
  unfold Kf at hr;have deep:∀f val,(∀V,Ck V b _->Ar _ f _ V λe W'=>D4 11 (s.next.a-1) e/\Ci b V W')->D (Lr W b s f #[Ag #[A8 b]] (.error (11,(s.a+1:I)-1)) val):=λf val cd V hV _=>Ce (cd V hV) λe W' hh=>⟨hh.2,hh.1⟩
  have num:∀R',(c.toNat=45\/Ey c=AP)->(match Ih s c (s.a+1)with|.error e=>.error e|.ok (z,q)=>.ok (.lit<|.int Y z,q))=R'->D (Lr W b s _ _ R' λ_ _ v d=>∃z,v=.int _ z/\d=.lit (.int _ z) /\ -9223372036854775808<=z/\z<=9223372036854775807):=λR' hc hr=>P2 (Ih s c _) _ (λV hV _=>RG<|pG hV hc) λ_ _ _ z q hz e=>⟨z,e,rfl,(X3 hc hz).1⟩
  by_cases c1:c.toNat=110
  .rw[Cp c1]at hr;exact AF ⟨c1,P2 (Dt s.e s.d _<|s.a+1) _ (λV hV _=>RG<|Q6 _ Ba hV) λ_ _ _ _ _ _ e=>⟨e,Z⟩⟩
  rw[Cl c1]at hr;by_cases c2:c.toNat=116
  .rw[Cp c2]at hr;exact AG<|AF ⟨c2,P2 (Dt s.e s.d _<|s.a+1) _ (λV hV _=>RG<|Q6 _ Ba hV) λ_ _ _ _ _ _ e=>⟨e,Z⟩⟩
  rw[Cl c2]at hr;by_cases c3:c.toNat=102
  .rw[Cp c3]at hr;exact AG<|AG<|AF ⟨c3,P2 (Dt s.e s.d _<|s.a+1) _ (λV hV _=>RG<|Q6 _ Ba hV) λ_ _ _ _ _ _ e=>⟨e,Z⟩⟩
  rw[Cl c3]at hr;by_cases c4:c.toNat=34
  .rw[Cp c4]at hr;exact AG<|AG<|AG<|AF ⟨c4,P2 (DA s.e s.d (K s.e+1-(s.a+1)) (s.a+1) [] 0) _ (λV hV hB=>RG<|co hV (hU V hB) h7 hlen) λ_ _ _ l _ _ e=>⟨l,e,Z⟩⟩
  rw[Cl c4]at hr;by_cases c5:c.toNat=91
  .rw[Cp c5]at hr;refine AG<|AG<|AG<|AG<|AF ⟨c5,?_⟩;by_cases hd:(s.c:J)=s.b
   .rw[Cp hd]at hr;subst hr;exact deep _ _ λV hV=>rG hV hd
   rw[Cl hd]at hr;exact P2 (Gn s.e s.d _ 93 (s.a+1) []) _ (λV hV hB=>rD g hV (λU p h1 h2=>ih hd U p h1<|hB.trans h2) hgo hlen hd keI) λ_ _ _ _ _ _ ⟨⟨a,n,c,e⟩,hT⟩=>⟨a,n,c,e,hT⟩
  rw[Cl c5]at hr;by_cases c6:c.toNat=123
  .rw[Cp c6]at hr;refine AG<|AG<|AG<|AG<|AG<|AF ⟨c6,?_⟩;by_cases hd:(s.c:J)=s.b
   .rw[Cp hd]at hr;subst hr;exact deep _ _ λV hV=>rH hV hd
   rw[Cl hd]at hr;exact P2 (Gn s.e s.d (FF s.e s.d rd) _ (s.a+1) _) _ (λV hV hB=>rE g hV (λU p h1 h2=>ih hd U p h1<|hB.trans h2) hgo hlen (λX hX=>hU X<|hB.trans hX) h7 hd keI) λ_ _ _ _ _ _ ⟨⟨a,n,c,e⟩,hT⟩=>⟨a,n,c,e,hT⟩
  grind [Ey]
 clear hr ih hgo h1 hU hlen h;rcases hw with⟨hc,HC⟩|⟨hc,HC⟩|⟨hc,HC⟩|⟨hc,HC⟩|⟨hc,HC⟩|⟨hc,HC⟩|⟨hc,HC⟩|⟨hc,HC⟩|⟨hc,rfl⟩
 all_goals
  have e1:=OZ (c:=c) 110;have e2:=OZ (c:=c) 116;have e3:=OZ (c:=c) 102;have e4:=OZ (c:=c) 34;have e5:=OZ (c:=c) 91;have e6:=OZ (c:=c) 123;have e7:=OZ (c:=c) 45;have hdc:=rI (c:=c);clear hc;go_enter func272,ntmps272
  go_wp2_with(first
   |(go_at_call 270;refine Ce cT ?_;rintro e w2 ⟨rfl,hS2,hB2⟩;have HX:=T<|HX0.a0 hS2 hB2;have kb:=HX.cell)
   |(go_at_call 278;apply (Q2).mono;rintro e w3 ⟨rfl,rfl⟩;rw[hdc]))
 rotate_right
 .apply (G4 9 HX.e).mono;rintro e w7 ⟨hF,rfl⟩;obtain rfl:=hF;exact⟨rfl,HX.ai,by rw[show((s.next.a:J)-1)=s.a from hpp];rfl⟩
 all_goals
  refine Ce (HC _ HX.e HX.ai) ?_;rintro e w4 ⟨hB4,hF4⟩;rcases R with⟨en,pl⟩|⟨d,q⟩
  .obtain rfl:=hF4;exact⟨Z,HX.ai.trans hB4,Z⟩
  obtain⟨⟨v,rfl,hv⟩,hS4⟩:=hF4
  first|(obtain⟨rfl,rfl⟩:=hv)|(obtain⟨l,rfl,rfl⟩:=hv)|(obtain⟨z,rfl,rfl,hz⟩:=hv)|(obtain⟨a4,n4,c4,rfl,hD⟩:=hv)
  go_wp2;go_ret
  first|exact⟨HX.ai.trans hB4,⟨_,_,rfl,rfl⟩,hS4⟩|exact⟨HX.ai.trans hB4,⟨_,_,rfl,rfl,hz⟩,hS4⟩|exact⟨HX.ai.trans hB4,⟨_,_,rfl,hD.same (λj hj=>⟨CE HX.ai.size hj.1,hj.2⟩) λ_ _=>rfl⟩,hS4⟩
def dJ(d:J)(h:Ck W b s)(g:∀V,Ck V b s->Ar As 270 #[A8 b] V λe c=>D4 d s.a e/\A0 V c):Ar As 272 #[Ag #[A8 b]] W λe c=>Ci b W c/\D4 d s.a e:=by
 have a:=T<|Lh h;have j:=a.cell;have f:=g _ a.e;go_enter func272,ntmps272
 go_wp2_with(first
  |(go_at_call 270;apply f.mono;rintro e k ⟨hF,i⟩;obtain rfl:=hF))
 exact⟨Z,a.ai.trans<|Ci.of_below i,Z⟩
theorem X4{α:Type}{itF:α->I->A5 α}(c:∀a p b q,itF a p=.ok (b,q)->p<q):∀(g p:I) (a b:α) (q:I),FT bs lim itF last g p a=.ok (b,q)->p<q
 |0,p,a,b,q,h=>by rw[FT]at h;cases h
 |g+1,p,a,b,q,h=>by
  rw[FT]at h;split at h
  .cases h
  next u1 p1 h1 =>
  split at h
  .cases h
  next a2 p2 h2 =>
  split at h
  .cases h
  next u3 p3 h3 =>
  have:=Lp _ _ _ _ h1;have:=c _ _ _ _ h2;have:=Lp _ _ _ _ h3;split at h
  .cases h
  split at h
  .cases h
  split at h
  .grind
  split at h
  .have:=X4 c g _ a2 b q h;omega
  cases h
theorem dK{α:Type}{itF:α->I->A5 α}(b:∀a p a' q,itF a p=.ok (a',q)->p<q){a a':α}(h:Gn bs lim itF last p a=.ok (a',q)):p<q:=by
 unfold Gn at h;split at h
 .cases h
 next u1 p1 h1 =>
 have:=Lp _ _ _ _ h1;split at h
 .have:=X4 b _ _ _ _ _ h;omega
 split at h
 .cases h
 split at h
 .grind
 have:=X4 b _ _ _ _ _ h;omega
theorem rK{d:A2}(a:∀p d q,rd p=.ok (d,q)->p<q)(b:∀z q,(c.toNat=45\/Ey c=AP)->nm c p=.ok (z,q)->p<=q)(h:Kf bs lim depth wi rd nm c p=.ok (d,q)):p<=q:=by
 unfold Kf at h;split at h
 .split at h
  .cases h
  next u r hr =>
  injection h with h;injection h with h1 h2;have:=OY _ _ _ _ _ _ hr;omega
 split at h
 .split at h
  .cases h
  next u r hr =>
  injection h with h;injection h with h1 h2;have:=OY _ _ _ _ _ _ hr;omega
 split at h
 .split at h
  .cases h
  next u r hr =>
  injection h with h;injection h with h1 h2;have:=OY _ _ _ _ _ _ hr;omega
 split at h
 .split at h
  .cases h
  next l r hr =>
  injection h with h;injection h with h1 h2;have:=Qg _ _ _ _ _ _ hr;omega
 split at h
 .split at h
  .cases h
  split at h
  .cases h
  next l r hr =>
  injection h with h;injection h with h1 h2;have:=dK (dH a) hr;omega
 split at h
 .split at h
  .cases h
  split at h
  .cases h
  next l r hr =>
  injection h with h;injection h with h1 h2;have:=dK (WZ a) hr;omega
 grind
theorem RH(s:Cw):∀(g a p:I) (d:A2) (q:I),Fw s.e s.d s.b (Ih s) g a p=.ok (d,q)->p<q
 |0,_,_,_,_,h=>by rw[Fw]at h;cases h
 |g+1,a,p,d,q,h=>by
  rw[Fw]at h;split at h
  .cases h
  split at h
  .cases h
  have:=rK (nm:=Ih s) (RH s g _) (λz q b c=>(X3 b c).2) h;omega
theorem X5:∀(g:I) (W:X) (b:I) (s:Cw),Ck W b s->K s.e<=200000000->(∀V,Ci b W V->U8 V)->7<b->s.b<=100000->(s.c:J)<=s.b->s.b<s.c+g ->
  Ar As 272 #[Ag #[A8 b]] W (NO g W b s<|Fw s.e s.d s.b (Ih s) g s.c s.a)
 |0,W,b,s,_,_,_,_,_,a,h2=>E
 |g+1,W,b,s,h,hlen,hU,h7,hdp,hwd,hgd=>by
  have n:¬s.c=s.b->Qf g b {s with c:=s.c+1} W (Fw s.e s.d s.b (Ih s) g<|s.c+1):=λm f p k j =>
   X5 g f b _ k hlen (λi l=>hU i<|j.trans l) h7 hdp B9 B9
  rcases JC h with a|a|⟨c,a⟩
  .have e:Fw s.e s.d s.b (Ih s) (g+1) s.c s.a=.error (9,s.a):=by rw[Fw,I6 (by have:s.a=K s.e:=a;omega)]
   rw[e];exact dJ 9 h λV d=>KA d a
  .have e:Fw s.e s.d s.b (Ih s) (g+1) s.c s.a=.error (8,s.a):=by rw[Fw,D7 a.1];simp only[];rw[Cp a.2]
   rw[e];exact dJ 8 h λV d=>KB d a
  have e:Fw s.e s.d s.b (Ih s) (g+1) s.c s.a=Kf s.e s.d s.b s.c (Fw s.e s.d s.b (Ih s) g<|s.c+1) (Ih s) c (s.a+1):=by rw[Fw,a.1];simp only[];rw[Cl a.2]
  grind [rJ,RH]
def M5(sp:AH->A5 Unit)(th:AH->AS (AI×AI) (AM Unit×AH))(bs:A1)(lim:AI):AS (AI×AI) (AM Unit) :=
 match sp 0 with
 |.error e=>.error e
 |.ok (_,p0)=>match th p0 with
  |.error e=>.error e
  |.ok (d,p1)=>match sp p1 with
   |.error e=>.error e
   |.ok (_,p2)=>match Li ⟨Ao,bs,0,0,lim,p2,0⟩with
    |.error e=>.error e
    |.ok _=>.ok d
def JJ(th:AH->AS (AI×AI) (AM Unit×AH)):AS (AI×AI) AH :=
 match th 0 with
 |.error e=>.error e
 |.ok (_,p)=>.ok p
def KI(k:AH)(W:Ap)(r:AS (AI×AI)<|AM Unit)(e:Ending)(W':Ap):Prop :=
 A0 W W'/\match r with
 |.ok d=>∃t y,e=Ak (Ai t y)/\CA k W' (λj=>Au (Av W)<=j/\j<Au (Av W')) (Ai t y) d
 |.error (en,pl)=>D4 en pl e
def rL(c:A6 W b 3<|C Y p):Ar As 268 #[A8 b] W λe a=>e=Ak (C Y p)/\a=W:=by go_enter func268,ntmps268;go_wp2;go_ret;exact⟨Z,Z⟩
theorem RC.ac{r:AS (J×J)<|AM Unit×I}{e:Ending}(h:RC k W b s r e W'):NO k W b s r e W':=by refine⟨h.1,?_⟩;have a:=h.2;grind
def rT(js:AK):AN:=bif js then 215 else 218
def rV(js:AK)(f b:AH):Aq:=bif js then Ag #[A8 b]else Ag #[A8 b,.func (.func f) #[] #[]]
def rW(js:AK)(b:AH):Aq:=bif js then Ag #[A8 b]else A8 b
def rS(js:AK):FuncId:=bif js then 273 else 267
def rR(js:AK):FuncId:=bif js then 272 else 301
theorem X6(n:AK)(k:I)(fm:J)(f:I)(h:E2 W ia bs){sp:I->A5 Unit}(cR:∀V,E2 V ia bs->Ar As 80 #[C Y fm,Ag #[C Y d,C Y l],G ia (K bs) cap] V λe W'=>∃b,e=Ak (Ai (rT n)<|rV n f b)/\Ck W' b ⟨ia,bs,cap,d,l,0,0⟩/\O (U V)<=b/\A0 V W')(cS:∀(b:I) (V:X) (p:I),O (U W)<=b->Ck V b ⟨ia,bs,cap,d,l,p,0⟩->Ar As (rS n) #[rW n b] V (Ho V b ⟨ia,bs,cap,d,l,p,0⟩ (λ_:Unit=>Af #[])<|sp p))(cT:∀(b:I) (V:X) (p:I),O (U W)<=b->A0 W V->Ck V b ⟨ia,bs,cap,d,l,p,0⟩->Ar As (rR n) #[rV n f b] V (NO k V b ⟨ia,bs,cap,d,l,p,0⟩<|th p)):Ar As 43 #[C Y fm,Ag #[C Y d,C Y l],G ia (K bs) cap] W<|KI k W<|M5 sp th bs l:=by
 have ag:Below _ W<|Az W<|M #[C Y d,C Y l] 94:=Cm;have ab:=T ag;have cN:=cR _<|h.ac ag;obtain⟨ay,HR⟩:=CC<|M5 sp th bs l;rw[AE HR];have a:=AE HR;unfold M5 at a;cases n
 case' false=>let z:AK:=AQ
 case' true=>let z:AK:=AP
 all_goals
  dsimp only[rT,rV,rS,rW,rR,cond]at *;go_enter func43,ntmps43
  go_wp2_with(first
   |(go_at_call 80;apply cN.mono;rintro e w2 ⟨b,rfl,hS,a0,R⟩))
  have ac:=T<|Cs ab<|CG R ab.size;have c:O (U W)<=b:=Bx;have A:=cS b w2 0 c hS;have ak:=λV p hV=>cS b V p c hV;have al:=λV p R hV=>cT b V p c R hV;apply Q4 (y:=(rS z,rW z b)) (w:=w2) B6;dsimp only[z,rS,rW,cond]
  go_wp2_with fail
  rcases h1:sp 0 with m|v
  .obtain⟨i,o⟩:=m;rw[h1]at a A;simp only[]at a;subst a;apply A.mono;rintro e P ⟨t,hF⟩;obtain rfl:=(show D4 i o e from hF)
   go_wp2;exact⟨Z,LU ac t c,Z⟩
  obtain⟨u0,p0⟩:=v;rw[h1]at a A;simp only[]at a;apply A.mono;rintro e P ⟨t,an⟩;obtain⟨rfl,af⟩:=(show e=Ak (.tuple _)/\Ck P b ⟨ia,bs,cap,d,l,p0,0⟩from an)
  have S:=T<|LU ac t c;have F:=al P p0 S af;have aw:=T<|Cd af.aq
  go_wp2_with fail
  apply Q4 (y:=(rR z,rV z f b)) (w:=P) B6;dsimp only[z,rR,rV,cond]
  go_wp2_with fail
  rcases h2:th p0 with m|dq
  .obtain⟨i,o⟩:=m;rw[h2]at a F;simp only[]at a;subst a;apply F.mono;rintro e q ⟨aa,hF⟩;obtain rfl:=(show D4 i o e from hF)
   go_wp2;exact⟨Z,LU S aa c,Z⟩
  obtain⟨L,p1⟩:=dq;rw[h2]at a F;simp only[]at a;apply F.mono;rintro e q ⟨aa,ao⟩;obtain⟨⟨ax,y,rfl,am⟩,ar⟩:=(show(∃ax y,e=Ak _/\CA k q _ _ L)/\Ck q b ⟨ia,bs,cap,d,l,p1,0⟩from ao)
  have ad:=T<|LU S aa c;have av:=AE aw;have HD:D<|CA k q (λj=>b<j/\j<O (U q)) _ L:=am.same (λj g=>⟨CQ av g.1,g.2⟩) λ_ _=>rfl;have B:=ak q p1 ar
  go_wp2_with fail
  apply Q4 (y:=(rS z,rW z b)) (w:=q) B6;dsimp only[z,rS,rW,cond]
  go_wp2_with fail
  rcases h3:sp p1 with m|v
  .obtain⟨i,o⟩:=m;rw[h3]at a B;simp only[]at a;subst a;apply B.mono;rintro e r ⟨s,hF⟩;obtain rfl:=(show D4 i o e from hF)
   go_wp2;exact⟨Z,LU ad s c,Z⟩
  obtain⟨u2,N⟩:=v;rw[h3]at a B;simp only[]at a;apply B.mono;rintro e r ⟨s,ap⟩;obtain⟨rfl,au⟩:=(show e=Ak (.tuple _)/\Ck r b ⟨ia,bs,cap,d,l,N,0⟩from ap)
  have ae:=T<|LU ad s c;have ai:D<|CA k r (λj=>b<j/\j<O (U r)) _ L:=HD.same (λj g=>⟨g.1,CQ g.2 s.size⟩) λj g=>s.block j g.2 E;have x:Ar _ _ _ r<|Ho r b ⟨ia,bs,cap,d,l,N,0⟩ _<|Li ⟨Ao,bs,0,0,l,N,0⟩:=pH au
  go_wp2_with fail
  apply Q4 (y:=(266,A8 b)) (w:=r) B6
  go_wp2_with fail
  rcases h4:Li ⟨Ao,bs,0,0,l,N,0⟩with m|v
  .obtain⟨i,o⟩:=m;rw[h4]at a x;simp only[]at a;subst a;apply x.mono;rintro e Q ⟨u,hF⟩;obtain rfl:=(show D4 i o e from hF)
   go_wp2;exact⟨Z,LU ae u c,Z⟩
  obtain⟨u4,p4⟩:=v;rw[h4]at a x;simp only[]at a;subst a;apply x.mono;rintro e Q ⟨u,aq⟩;obtain⟨rfl,az⟩:=(show e=Ak (.tuple _)/\Ck Q b ⟨ia,bs,cap,d,l,p4,0⟩from aq)
  have aj:D<|CA k Q (λj=>O (U W)<=j/\j<O (U Q)) _ L:=ai.same (λj g=>⟨E,CQ g.2 u.size⟩) λj g=>u.block j g.2 E;have ah:=T<|LU ae u c;go_wp2;go_ret;exact⟨ah,_,_,Z,aj⟩
theorem X7(g:AK)(k:I)(fm:J)(f:I)(h:E2 W ia bs)(A:∀V,E2 V ia bs->Ar As 80 #[C Y fm,Ag #[C Y d,C Y l],G ia (K bs) cap] V λe m=>∃b,e=Ak (Ai (rT g)<|rV g f b)/\Ck m b ⟨ia,bs,cap,d,l,0,0⟩/\O (U V)<=b/\A0 V m)(B:∀(b:I) (V:X) (p:I),O (U W)<=b->A0 W V->Ck V b ⟨ia,bs,cap,d,l,p,0⟩->Ar As (rR g) #[rV g f b] V (NO k V b ⟨ia,bs,cap,d,l,p,0⟩<|th p)):Ar As 51 #[C Y fm,Ag #[C Y d,C Y l],G ia (K bs) cap] W λe m=>Ro W (λn:I=>C Y n) (JJ th) e m/\∀n,JJ th=.ok n->n<=K bs:=by
 have u:Below _ W<|Az W<|M #[C Y d,C Y l] 94:=Cm;have q:=T u;have x:=A _<|h.ac u;obtain⟨ad,r⟩:=CC<|JJ th;rw[AE r];have a:=AE r;unfold JJ at a;clear u h A r;cases g
 case' false=>let z:AK:=AQ
 case' true=>let z:AK:=AP
 all_goals
  dsimp only[rT,rV,rS,rW,rR,cond]at *;go_enter func51,ntmps51
  go_wp2_with(first
   |(go_at_call 80;apply x.mono;clear x;rintro e S ⟨b,rfl,N,aa,F⟩))
  have j:=T<|Cs q<|CG F q.size;have v:O (U W)<=b:=Bx;have c:=B b S 0 v j N;clear B F aa N q;apply Q4 (y:=(rR z,rV z f b)) (w:=S) B6;dsimp only[z,rR,rV,cond]
  go_wp2_with fail
  rcases h2:th 0 with er|dq
  .obtain⟨en,pl⟩:=er;rw[h2]at a c;simp only[]at a;subst a;apply c.mono;rintro e i ⟨o,hF⟩;obtain rfl:=(show D4 en pl e from hF)
   go_wp2;exact⟨rfl,⟨LU j o v,rfl⟩,λn P=>by cases P⟩
  obtain⟨dd,Q⟩:=dq;rw[h2]at a c;simp only[]at a;subst a;apply c.mono;clear c h2;rintro e i ⟨o,L⟩;obtain⟨⟨ab,y,rfl,t⟩,s⟩:=(show(∃ab y,e=Ak _/\CA k i _ _ dd)/\Ck i b ⟨ia,bs,cap,d,l,Q,0⟩from L)
  have R:=T<|LU j o v;have ac:=T s.a;have k3:AC i _=H (.int _ Q):=Cc s.aq 3;clear o L s t j
  go_wp2_with fail
  apply Q4 (y:=(268,A8 b)) (w:=i) B6
  go_wp2_with fail
  apply (rL k3).mono;rintro e w5 ⟨rfl,rfl⟩;go_wp2;go_ret;exact⟨⟨R,Z⟩,λn P=>by grind [D]⟩
structure Jk(W:Ap):Prop where
 u8:U8 W
 c:IJ W
 d:9<=Au (Av W)
def U8.ai(h:U8 W)(e:Ci b W V)(j:7<b)(hb:9<=O (U W)):U8 V:=by have a:∀(q off:I) (v:Aq),q<=7->AC W _=H v->A6 V q off v:=λq off v k g=>Ca (Jd<|e.block q E E) g;exact⟨λc f=>a _ _ _ B8<|h.1 c f,λi d=>⟨a _ _ _ B8 (h.2 i d).1,a _ _ _ B8 (h.2 i d).2⟩⟩
def Jk.ac(h:Jk W)(hb:A0 W V):Jk V:=⟨h.u8.ac hb,h.c.ac hb,CE h.d hb.size⟩
def rM:(List.range 256).all (λc=>AR<|(E7 c).1<=10/\(E7 c).2.1<=8/\((E7 c).2.1=0\/(E7 c).2.2=0)/\(E7 c).2.2<18446744073709551616)=AP:=B6
def X8:∀c,c<256->(E7 c).1<=10/\(E7 c).2.1<=8/\((E7 c).2.1=0\/(E7 c).2.2=0)/\(E7 c).2.2<18446744073709551616:=λc a=>Dr<|Hh.1 rM c<|Hi.2 a
def rN:(List.range 256).all (λc=>AR<|(DD c).1<=10/\(DD c).2.1<=8/\((DD c).2.1=0\/(DD c).2.2=0)/\(DD c).2.2<18446744073709551616)=AP:=B6
def X9:∀c,c<256->(DD c).1<=10/\(DD c).2.1<=8/\((DD c).2.1=0\/(DD c).2.2=0)/\(DD c).2.2<18446744073709551616:=λc a=>Dr<|Hh.1 rN c<|Hi.2 a
def dM(h:IJ W)(hb:1<b):NN 111 E7 b W :=
 ⟨AF rfl,λc a=>(X8 c a).1,λc a=>(X8 c a).2,λc V d=>pR (W:=V) c.toNat_lt<|h.ai d hb⟩
def dN(h:IJ W)(hb:1<b):NN 112 DD b W :=
 ⟨AG rfl,λc a=>(X9 c a).1,λc a=>(X9 c a).2,λc V d=>pU (W:=V) c.toNat_lt<|h.ai d hb⟩
def JK(fm:AI)(bs:A1)(lim:AI)(p:AH):A5 Unit:=if fm=1 then DW bs lim (At bs+1-p) p else .ok ((),p)
def Ev(fm:AI)(bs:A1)(d lim:AI)(p:AH):AS (AI×AI) (AM Unit×AH) :=
 if fm=1 then Fw bs lim d (λc p=>GV ⟨Ao,bs,0,0,lim,p,0⟩ c) (d.toNat+1) 0 p else if fm=2 then DR E7 bs lim d (d.toNat+1) 0 p else DR DD bs lim d (d.toNat+1) 0 p
def DE(fm:AI)(bs:A1)(d lim:AI):AS (AI×AI)<|AM Unit:=M5 (JK fm bs lim) (Ev fm bs d lim) bs lim
theorem dO(u:fm=1\/fm=2\/fm=3)(h:E2 W ia bs)(g:Jk W)(o:0<=d)(q:d<=100000)(s:K bs<=200000000):Ar As 43 #[C Y fm,Ag #[C Y d,C Y l],G ia (K bs) cap] W<|KI (d.toNat+1) W<|DE fm bs d l:=by
 have v:=g.d;rcases u with rfl|rfl|rfl
 .have i:JK 1 bs l=λp=>DW bs l (K bs+1-p) p:=by grind [JK]
  have j:Ev 1 bs d l=λp=>Fw bs l d (λc p=>GV ⟨Ao,bs,0,0,l,p,0⟩ c) (d.toNat+1) 0 p:=keP;unfold DE;rw[i,j];refine X6 AP _ 1 0 h (λV m=>Q3 cap m 1<|AF ⟨Z,Z⟩) (λb V p n a=>Rn a) λb V p n f a=>?_;exact X5 _ V b _ a s (λt k=>(g.ac f).u8.ai k E (g.ac f).d) E q kep B9
 .have i:JK 2 bs l=λp=>.ok ((),p):=by grind [JK]
  have j:Ev 2 bs d l=λp=>DR E7 bs l d (d.toNat+1) 0 p:=keP;unfold DE;rw[i,j];refine X6 AQ _ 2 111 h (λV m=>Q3 cap m 2<|AG ⟨_,AF ⟨Z,Z⟩,Z⟩) (λb V p n a=>Ce (dL V b) ?_) λb V p n f a=>?_
  .rintro e w ⟨rfl,rfl⟩;exact⟨Ci.refl _ _,Z,a⟩
  exact Ce (RE E7 _ _ V b _ a s (λt k=>(g.ac f).u8.ai k E (g.ac f).d) E (dM (g.ac f).c E) q kep B9) λe w r=>r.ac
 have i:JK 3 bs l=λp=>.ok ((),p):=by grind [JK]
 have j:Ev 3 bs d l=λp=>DR DD bs l d (d.toNat+1) 0 p:=keP;unfold DE;rw[i,j];refine X6 AQ _ 3 112 h (λV m=>Q3 cap m 3<|AG ⟨_,AG ⟨Z,Z⟩,Z⟩) (λb V p n a=>Ce (dL V b) ?_) λb V p n f a=>?_
 .rintro e w ⟨rfl,rfl⟩;exact⟨Ci.refl _ _,Z,a⟩
 exact Ce (RE DD _ _ V b _ a s (λt k=>(g.ac f).u8.ai k E (g.ac f).d) E (dN (g.ac f).c E) q kep B9) λe w r=>r.ac
theorem rO(W:X)(fm:J)(u:A4)(bs:A1)(cap:I)(d l:J)(x:fm=1\/fm=2\/fm=3)(h:E2 W u bs)(f:Jk W)(m:0<=d)(o:d<=100000)(r:K bs<=200000000):Ar As 51 #[C Y fm,Ag #[C Y d,C Y l],G u (K bs) cap] W λe v=>Ro W (λn:I=>C Y n) (JJ<|Ev fm bs d l) e v/\∀n,JJ (Ev fm bs d l)=.ok n->n<=K bs:=by
 have y:=f.d;rcases x with rfl|rfl|rfl
 .have g:Ev 1 bs d l=λp=>Fw bs l d (λc p=>GV ⟨Ao,bs,0,0,l,p,0⟩ c) (d.toNat+1) 0 p:=keP;rw[g];refine X7 AP (d.toNat+1) 1 0 h (λV k=>Q3 cap k 1<|AF ⟨Z,Z⟩) λb V p t a i=>?_;exact X5 _ V b _ i r (λs j=>(f.ac a).u8.ai j E (f.ac a).d) E o keA B9
 .have g:Ev 2 bs d l=λp=>DR E7 bs l d (d.toNat+1) 0 p:=keP;rw[g];refine X7 AQ (d.toNat+1) 2 111 h (λV k=>Q3 cap k 2<|AG ⟨_,AF ⟨Z,Z⟩,Z⟩) λb V p t a i=>?_;exact Ce (RE E7 _ _ V b _ i r (λs j=>(f.ac a).u8.ai j E (f.ac a).d) E (dM (f.ac a).c E) o keA B9) λe w q=>q.ac
 have g:Ev 3 bs d l=λp=>DR DD bs l d (d.toNat+1) 0 p:=keP;rw[g];refine X7 AQ (d.toNat+1) 3 112 h (λV k=>Q3 cap k 3<|AG ⟨_,AG ⟨Z,Z⟩,Z⟩) λb V p t a i=>?_;exact Ce (RE DD _ _ V b _ i r (λs j=>(f.ac a).u8.ai j E (f.ac a).d) E (dN (f.ac a).c E) o keA B9) λe w q=>q.ac
def Xa{p:Prop}(h:Ar P f args w R)(c:∀e a,R e a->p):p:=by obtain⟨e,a,fr,b,_⟩:=h [];exact c e a b
def DI{α:Type}(r:AS (AI×AI) α):Prop:=∀en pl,r=.error (en,pl)->en≠0
theorem Qh:∀(k p a:I),DI (CZ bs lim k p a)
 |0,p,a,en,pl,h=>by rw[CZ]at h;cases h
 |k+1,p,a,en,pl,h=>by
  rw[CZ]at h
  repeat' split at h
  all_goals first|(injection h with h;grind)|exact Qh k _ _ en pl h
theorem Xb{so w:J}{p:J}:DI<|FE so w x p:=λa b h=>by grind [FE]
theorem dP:∀(k p:I) (a:A1),DI (EV bs lim k p a)
 |0,p,a,en,pl,h=>by rw[EV]at h;cases h
 |k+1,p,a,en,pl,h=>by
  rw[EV]at h
  repeat' split at h
  all_goals first|(injection h with h;grind)|exact dP k _ _ en pl h
theorem TH:∀(k p:I) (a:A1) (b:I),DI (Ds bs lim k p a b)
 |0,p,a,b,en,pl,h=>kfF
 |k+1,p,a,b,en,pl,h=>by
  rw[Ds]at h;split at h
  .grind
  split at h
  .grind
  split at h
  .grind
  exact TH k _ _ _ en pl h
theorem rP(c:I->I×I×I):DI<|El c bs lim ks p:=λa b h=>by
 unfold El at h;split at h
 .grind
 split at h
 .grind
 split at h
 .split at h
  .next e he=>injection h with h;subst h;exact Qh _ _ _ a b he
  split at h
  .next e he=>injection h with h;subst h;exact TH _ _ _ _ a b he
  grind
 grind
theorem dQ(a:∀p,DI<|rd p):∀(n p:I) (acc:AJ<|AM Unit),DI (GX rd n p acc)
 |0,p,acc,en,pl,h=>by grind [GX]
 |n+1,p,acc,en,pl,h=>by
  rw[GX]at h;split at h
  .next e he=>injection h with h;subst h;exact a _ en pl he
  exact dQ a n _ _ en pl h
theorem dR(b:∀a p,DI<|kf a p)(c:∀p,DI<|rd p):∀(n p:I) (a:AJ A1) (acc:AJ<|Lit×AM Unit),DI (GJ kf rd n p a acc)
 |0,p,a,acc,en,pl,h=>by grind [GJ]
 |n+1,p,a,acc,en,pl,h=>by
  rw[GJ]at h;split at h
  .next e he=>injection h with h;subst h;exact b _ _ en pl he
  split at h
  .next e he=>injection h with h;subst h;exact c _ en pl he
  exact dR b c n _ _ _ en pl h
def rQ{w:I}(c:so=9->∀x q,DI<|li x q)(d:so=10->∀x q,DI<|ma x q):DI<|Gm bs lim li ma so w x q:=λa b h=>by
 unfold Gm at h;split at h
 .cases h
 .cases h
 .split at h
  .next e he=>injection h with h;subst h;exact Xb a b he
  cases h
 .split at h
  .next e he=>injection h with h;subst h;exact Xb a b he
  cases h
 .split at h
  .next e he=>injection h with h;subst h;exact Xb a b he
  cases h
 .split at h
  .next e he=>injection h with h;subst h;exact dP _ _ _ a b he
  cases h
 .split at h
  .next e he=>injection h with h;subst h;exact TH _ _ _ _ a b he
  cases h
 .split at h
  .next e he=>injection h with h;subst h;exact c Z _ _ a b he
  cases h
 .split at h
  .next e he=>injection h with h;subst h;exact d Z _ _ a b he
  cases h
 cases h
theorem TI(b:I->I×I×I):∀(g a p:I),(a:J)<=depth->depth<a+g->DI (DR b bs lim depth g a p)
 |0,a,p,h1,h2,_,_,_=>E
 |g+1,a,p,h1,h2,en,pl,h=>by
  rcases hc:bs[p]? with _|c
  .grind [DR]
  by_cases k:(p:J)=lim
  .grind [DR]
  rw[TC hc k rfl]at h;split at h
  .grind
  split at h
  .grind
  next hn =>
  split at h
  .next e he=>injection h with h;subst h;exact Qh _ _ _ en pl he
  have f:¬a=depth->∀q,DI<|DR b bs lim depth g _ q:=λl q=>TI b g (a+1) q E E;exact rQ (λj x q=>dQ (f λd=>hn ⟨AF j,d⟩) _ _ _) (λi x q=>dR (λm p=>rP b) (f λd=>hn ⟨AG i,d⟩) _ _ _ _) en pl h
theorem P3:∀(k p:I),DI (DW bs lim k p)
 |0,p,en,pl,h=>by rw[DW]at h;cases h
 |k+1,p,en,pl,h=>by
  rw[DW]at h;split at h
  .cases h
  split at h
  .grind
  split at h
  .exact P3 k _ en pl h
  cases h
theorem MJ:∀(l:A1) (p:I),DI (Dt bs lim l p)
 |[],p,en,pl,h=>kfG
 |x::xs,p,en,pl,h=>by
  rw[Dt]at h;split at h
  .grind
  split at h
  .grind
  split at h
  .exact MJ xs _ en pl h
  grind
theorem RI(bs:A1)(lim:J):∀(k p a:I),DI (Ef bs lim k p a)
 |0,p,a,en,pl,h=>by rw[Ef]at h;cases h
 |k+1,p,a,en,pl,h=>by
  rw[Ef]at h;split at h
  .grind
  split at h
  .grind
  split at h
  .grind
  exact RI bs lim k _ _ en pl h
theorem rU:DI<|IK bs lim p:=λa b h=>by
 unfold IK at h;split at h
 .next e he=>injection h with h;subst h;exact RI _ _ _ _ _ a b he
 split at h
 .grind
 split at h
 .split at h
  .next e he=>injection h with h;subst h;exact MJ _ _ a b he
  split at h
  .next e he=>injection h with h;subst h;exact RI _ _ _ _ _ a b he
  grind
 cases h
theorem Xd(bs:A1)(lim:J)(p:I):DI<|I9 bs lim p:=λa b h=>by
 unfold I9 at h;split at h
 .grind
 split at h
 .grind
 repeat' split at h
 all_goals first|(injection h with h;grind)|exact rU a b h|cases h
theorem RJ:∀(g p:I) (a:A1) (b:I),DI (DA bs lim g p a b)
 |0,p,a,b,en,pl,h=>by grind [DA]
 |g+1,p,a,b,en,pl,h=>by
  rw[DA]at h;split at h
  .grind
  split at h
  .grind
  split at h
  .cases h
  split at h
  .split at h
   .next e he=>injection h with h;subst h;exact Xd _ _ _ en pl he
   exact RJ g _ _ _ en pl h
  split at h
  .grind
  split at h
  .grind
  exact RJ g _ _ _ en pl h
theorem Xe{z:AK}:∀(g p a:I),DI (Ee bs lim most z g p a)
 |0,p,a,en,pl,h=>by grind [Ee]
 |g+1,p,a,en,pl,h=>by
  unfold Ee at h;split at h
  .cases h
  split at h
  .grind
  split at h
  .split at h
   .grind
   split at h
   .grind
   exact Xe g _ _ en pl h
  grind
theorem dS:DI<|GV s c:=λa b h=>by
 unfold GV at h;split at h
 .split at h
  .grind
  split at h
  .grind
  split at h
  .split at h
   .cases h
   next e he=>injection h with h;subst h;exact Xe _ _ _ a b he
  grind
 split at h
 .cases h
 next e he=>injection h with h;subst h;exact Xe _ _ _ a b he
theorem Xf{α:Type}{itF:α->I->A5 α}(b:∀a p,DI<|itF a p):∀(g p:I) (a:α),DI (FT bs lim itF last g p a)
 |0,p,a,en,pl,h=>by grind [FT]
 |g+1,p,a,en,pl,h=>by
  rw[FT]at h;split at h
  .next e he=>injection h with h;subst h;exact P3 _ _ en pl he
  split at h
  .next e he=>injection h with h;subst h;exact b _ _ en pl he
  split at h
  .next e he=>injection h with h;subst h;exact P3 _ _ en pl he
  split at h
  .grind
  split at h
  .grind
  split at h
  .cases h
  split at h
  .exact Xf b g _ _ en pl h
  grind
theorem dU{α:Type}{itF:α->I->A5 α}(d:∀a p,DI<|itF a p){a:α}:DI<|Gn bs lim itF last p a:=λb c h=>by
 unfold Gn at h;split at h
 .next e he=>injection h with h;subst h;exact P3 _ _ b c he
 split at h
 .exact Xf d _ _ _ b c h
 split at h
 .grind
 split at h
 .cases h
 exact Xf d _ _ _ b c h
def rX(c:∀p,DI<|rd p)(a:AJ<|AM Unit)(p:I):DI<|G6 rd a p:=λb d h=>by
 unfold G6 at h;split at h
 .next e he=>injection h with h;subst h;exact c _ b d he
 cases h
theorem rY:DI<|Jj bs lim ks p:=λa b h=>by
 unfold Jj at h;split at h
 .next e he=>injection h with h;subst h;exact MJ _ _ a b he
 split at h
 .next e he=>injection h with h;subst h;exact RJ _ _ _ _ a b he
 grind
def dV(d:∀p,DI<|rd p)(a:AJ A1×AJ (Lit×AM Unit))(p:I):DI<|FF bs lim rd a p:=λb c h=>by
 unfold FF at h;split at h
 .next e he=>injection h with h;subst h;exact rY b c he
 split at h
 .next e he=>injection h with h;subst h;exact P3 _ _ b c he
 split at h
 .next e he=>injection h with h;subst h;exact MJ _ _ b c he
 split at h
 .next e he=>injection h with h;subst h;exact P3 _ _ b c he
 split at h
 .next e he=>injection h with h;subst h;exact d _ b c he
 cases h
theorem rZ(d:¬(wi:J)=depth->∀p,DI<|rd p)(f:∀c p,DI<|nm c p):DI<|Kf bs lim depth wi rd nm c p:=λa b h=>by
 unfold Kf at h;split at h
 .split at h
  .next e he=>injection h with h;subst h;exact MJ _ _ a b he
  cases h
 split at h
 .split at h
  .next e he=>injection h with h;subst h;exact MJ _ _ a b he
  cases h
 split at h
 .split at h
  .next e he=>injection h with h;subst h;exact MJ _ _ a b he
  cases h
 split at h
 .split at h
  .next e he=>injection h with h;subst h;exact RJ _ _ _ _ a b he
  cases h
 split at h
 .split at h
  .grind
  next hn =>
  split at h
  .next e he=>injection h with h;subst h;exact dU (rX<|d hn) a b he
  cases h
 split at h
 .split at h
  .grind
  next hn =>
  split at h
  .next e he=>injection h with h;subst h;exact dU (dV<|d hn) a b he
  cases h
 split at h
 .split at h
  .next e he=>injection h with h;subst h;exact f _ _ a b he
  cases h
 grind
theorem Xg(b:∀c p,DI<|nm c p):∀(g a p:I),(a:J)<=depth->depth<a+g->DI (Fw bs lim depth nm g a p)
 |0,a,p,h1,h2,_,_,_=>E
 |g+1,a,p,h1,h2,en,pl,h=>by
  rw[Fw]at h;split at h
  .grind
  split at h
  .grind
  exact rZ (λd q=>Xg b g _ q E E) b en pl h
def dW(b:0<=d):DI<|Ev fm bs d l p:=λa e h=>by
 unfold Ev at h;split at h
 .exact Xg (λc p=>dS) _ _ _ BG E a e h
 split at h
 .exact TI _ _ _ _ BG E a e h
 exact TI _ _ _ _ BG E a e h
def dX(fm:J)(bs:A1)(d l:J)(b:0<=d):DI<|JJ<|Ev fm bs d l:=λa c h=>by
 unfold JJ at h;split at h
 .next e he=>injection h with h;subst h;exact dW b a c he
 cases h
theorem P4(fm:J)(bs:A1)(d l:J)(f:0<=d):DI<|DE fm bs d l:=λa b h=>by
 have c:∀p,DI<|JK fm bs l p:=λp a b h=>by
  unfold JK at h;split at h
  .exact P3 _ _ a b h
  cases h
 unfold DE M5 at h;split at h
 .next e he=>injection h with h;subst h;exact c _ a b he
 split at h
 .next e he=>injection h with h;subst h;exact dW f a b he
 split at h
 .next e he=>injection h with h;subst h;exact c _ a b he
 grind [Li]
def s7{K':Act->X->Prop}(c:Shut (∀a w,S w->(S w->wpAnyH P md ops Q S fuel listed a w)->K' a w))(k:Region.wanted o (yielded ops a.tmps)=AP){x:Operand}(i:o.op=.store ty x y)(e:o.dst=Ao)(hx:a.eval x=A8 g)(hy:a.eval y=.agg cells)(f:w.heap[g]?=H (M old t (0,0)))(hi:(P.info? ty).map (·.size)=H cells.size)(j:old.size=cells.size)(b:cells.all (·.oneCell')=AP)(d:S<|AD w g cells)(h:wpAnyH P md ops Q S fuel listed a<|AD w g cells):if Region.wanted o (yielded ops a.tmps)=AP then Oper.wp P o a w K' Q else K' (a.put o.dst AO) w:=by rw[Cp k];apply Je ty x y i g cells hx hy t old f hi j b;rw[e];exact c _ _ d λ_=>h
theorem RK(l:Region.ready md ops listed=[i])(hi:ops[i]?=H o)(m:Region.wanted o (yielded ops a.tmps)=AP){x:Operand}(j:o.op=.store ty x y)(e:o.dst=Ao)(hx:a.eval x=A8 g)(hy:a.eval y=.agg cells)(f:w.heap[g]?=H (M old t (0,0)))(n:(P.info? ty).map (·.size)=H cells.size)(k:old.size=cells.size)(b:cells.all (·.oneCell')=AP)(d:S<|AD w g cells)(h:wpAnyH P md ops Q S fuel (Ay listed i AP) a<|AD w g cells):wpAnyH P md ops Q S (fuel+1) listed a w :=
 SZ l Ba<|OF hi (λ_ c=>s7 c m j e hx hy f n k b d h) SU
theorem sF(i x y:I){F:J×J}(d:(Region.ready md ops listed,ops[i]?.map λo=>(Region.wanted o<|yielded ops a.tmps,o.op,o.dst),a.eval<|.tmp x,a.eval<|.tmp y)=([i],H (AP,.store 103 (.tmp x)<|.tmp y,Ao),A8 g,.agg<|Cf F))(c:A7 w g (Cf (0,0)) 103)(b:S<|AD w g<|Cf F)(h:wpAnyH As md ops Q S fuel (Ay listed i AP) a<|AD w g<|Cf F):wpAnyH As md ops Q S (fuel+1) listed a w:=by grind [RK,KE,Qc]
def Ii(i x y:I){T:A3}(p:(Region.ready md ops listed,ops[i]?.map λo=>(Region.wanted o<|yielded ops a.tmps,o.op,o.dst),a.eval<|.tmp x,a.eval<|.tmp y)=([i],H (AP,.store 101 (.tmp x)<|.tmp y,Ao),A8 g,.agg T))(n:A7 w g Cv 101)(f:TB T)(m:S<|AD w g T)(h:wpAnyH As md ops Q S fuel (Ay listed i AP) a<|AD w g T):wpAnyH As md ops Q S (fuel+1) listed a w:=by obtain⟨j,b⟩:=Lb p;obtain⟨b,c⟩:=Lb b;obtain⟨c,k⟩:=Lb c;obtain⟨o,q,d⟩:=Ov.1 b;obtain⟨d,e⟩:=Lb d;obtain⟨e,l⟩:=Lb e;exact RK j q d e l c k n (by rw[f.1];exact KG) (by rw[f.1];rfl) f.2 m h
def zF(x y:I)(c:o.guard=Ao)(d:o.op=.store 103 (.tmp x) (.tmp y))(g:I)(F:J×J)(b:a.eval (.tmp x)=A8 g/\a.eval (.tmp y)=.agg (Cf F)/\A7 w g (Cf (0,0)) 103)(h:wpList As ops Q rest (a.put o.dst AO)<|AD w g<|Cf F):wpList As ops Q (o::rest) a w:=Fb x y c d g F b.1 b.2.1 b.2.2 h
def zT(x y:I)(c:o.guard=Ao)(d:o.op=.store 101 (.tmp x) (.tmp y))(g:I)(T:A3)(b:a.eval (.tmp x)=A8 g/\a.eval (.tmp y)=.agg T/\A7 w g Cv 101/\TB T)(h:wpList As ops Q rest (a.put o.dst AO)<|AD w g T):wpList As ops Q (o::rest) a w:=RB x c d g T b.1 b.2.1 b.2.2.1 b.2.2.2 h
def Ji.ck{Q:Ending->X->Prop}(h:Ji W (Ct bs fm d l) V)(c:Ar P f args V λe a=>e=r/\A0 V a)(k:∀w,D (Ji W (Ct bs fm d l) w)->AC w ⟨O<|U W,0,Ao⟩=(#[Ae ⟨Aw bs⟩,C Y fm,C Y d,C Y l]:A3)[0]?->AC w ⟨O<|U W,1,Ao⟩=(#[Ae ⟨Aw bs⟩,C Y fm,C Y d,C Y l]:A3)[1]?->AC w ⟨O<|U W,2,Ao⟩=(#[Ae ⟨Aw bs⟩,C Y fm,C Y d,C Y l]:A3)[2]?->AC w ⟨O<|U W,3,Ao⟩=(#[Ae ⟨Aw bs⟩,C Y fm,C Y d,C Y l]:A3)[3]?->Q r w):Ar P f args V Q:=Ec c h.next (λ_ h=>h.h) k
def IN.ck{Q:Ending->X->Prop}(h:IN W (Ct bs fm d l) N V)(c:Ar P f args V λe a=>e=r/\A0 V a)(k:∀w,D (IN W (Ct bs fm d l) N w)->AC w ⟨O<|U W,0,Ao⟩=(#[Ae ⟨Aw bs⟩,C Y fm,C Y d,C Y l]:A3)[0]?->AC w ⟨O<|U W,1,Ao⟩=(#[Ae ⟨Aw bs⟩,C Y fm,C Y d,C Y l]:A3)[1]?->AC w ⟨O<|U W,2,Ao⟩=(#[Ae ⟨Aw bs⟩,C Y fm,C Y d,C Y l]:A3)[2]?->AC w ⟨O<|U W,3,Ao⟩=(#[Ae ⟨Aw bs⟩,C Y fm,C Y d,C Y l]:A3)[3]?->Q r w):Ar P f args V Q:=Ec c h.next (λ_ h=>h.h) k
def Ht(xs:AJ Aq)(i:AH)(a:A3):Prop:=(xs.drop<|5*i).take 5=a.toList
def NP(e:Lit×AM Unit):Aq:=match e.1 with
 |.string l=>CX l
 |_=>AO
def CV:AH->Ap->(AH->Prop)->Aq->A2->Prop
 |0,_,_,_,_=>False
 |k+1,V,F,v,d=>match d with
  |.nil=>v=.agg (Cg 0 0 ⟨#[]⟩ Cq Cq)
  |.lit (.bool b)=>v=.agg (Cg (if b=AP then 2 else 1) 0 ⟨#[]⟩ Cq Cq)
  |.lit (.int Al z)=>v=.agg (Cg 3 z ⟨#[]⟩ Cq Cq) /\ -9223372036854775808<=z/\z<=9223372036854775807
  |.lit (.string l)=>v=.agg (Cg 4 0 ⟨Aw l⟩ Cq Cq)
  |.ptr (.lit<|.string l)=>v=.agg (Cg 5 0 ⟨Aw l⟩ Cq Cq)
  |.agg ds=>∃u xs,v=.agg (Cg 6 0 ⟨#[]⟩ Cq u)/\DQ V 101 5 F u (At ds) xs/\∀(i:AH) (d:A2),ds[i]?=An d->∃a,Ht xs i a/\CV k V F (.agg a) d
  |.map es=>∃kv u xs,v=.agg (Cg 7 0 ⟨#[]⟩ kv u)/\DQ V 9 1 F kv (At es) (es.map NP)/\DQ V 101 5 F u (At es) xs/\∀(i:AH) (key:Lit) (d:A2),es[i]?=An (key,d)->∃l a,key=.string l/\Ht xs i a/\CV k V F (.agg a) d
  |_=>False
theorem CV.same{G:I->Prop}(b:∀k,F k->G k)(c:∀k,F k->V'.heap[k]?=V.heap[k]?):∀{k:I} {v:Aq} {d:A2},CV k V F v d->CV k V' G v d
 |0,_,_,h=>h
 |k+1,v,d,h=>by
  unfold CV at h ⊢;split at h
  .exact h
  .exact h
  .exact h
  .exact h
  .exact h
  .obtain⟨u,o,e,n,m⟩:=h;refine⟨u,o,e,n.same b c,λi d j=>?_⟩;obtain⟨a,f,g⟩:=m i d j;exact⟨a,f,CV.same b c g⟩
  .obtain⟨r,u,o,e,q,n,m⟩:=h;refine⟨r,u,o,e,q.same b c,n.same b c,λi key d j=>?_⟩;obtain⟨l,a,f,g,p⟩:=m i key d j;exact⟨l,a,f,g,CV.same b c p⟩
  exact h
def CV.ai:∀{k m:I} {v:Aq} {d:A2},k<=m->CV k V F v d->CV m V F v d
 |0,_,_,_,_,h=>h.elim
 |k+1,0,_,_,hm,_=>absurd hm E
 |k+1,m+1,v,d,hm,h=>by
  unfold CV at h ⊢;split at h
  .exact h
  .exact h
  .exact h
  .exact h
  .exact h
  .obtain⟨u,n,e,j,g⟩:=h;refine⟨u,n,e,j,λi d f=>?_⟩;obtain⟨a,b,c⟩:=g i d f;exact⟨a,b,CV.ai E c⟩
  .obtain⟨q,u,n,e,p,j,g⟩:=h;refine⟨q,u,n,e,p,j,λi key d f=>?_⟩;obtain⟨l,a,b,c,o⟩:=g i key d f;exact⟨l,a,b,c,CV.ai E o⟩
  exact h
theorem DQ.slice(h:DQ V t size F v n xs):∃a m c,v=G a m c:=by rcases h.2 with⟨e,_⟩|⟨g,b,d,e,_⟩<;>grind
theorem CV.ac{d:A2}(h:CV k V F v d):∃l n s a i j b p q,v=.agg (Cg l n s (G a i j)<|G b p q):=by
 obtain _|k:=k
 .exact h.elim
 unfold CV at h;split at h
 .exact⟨_,_,_,_,_,_,_,_,_,h⟩
 .exact⟨_,_,_,_,_,_,_,_,_,h⟩
 .exact⟨_,_,_,_,_,_,_,_,_,h.1⟩
 .exact⟨_,_,_,_,_,_,_,_,_,h⟩
 .exact⟨_,_,_,_,_,_,_,_,_,h⟩
 .obtain⟨u,o,e,f,_⟩:=h;obtain⟨a,m,c,rfl⟩:=f.slice;exact⟨_,_,_,_,_,_,_,_,_,e⟩
 .obtain⟨t,u,o,e,g,f,_⟩:=h;obtain⟨a,m,c,rfl⟩:=f.slice;obtain⟨r,w,c2,rfl⟩:=g.slice;grind
 exact h.elim
theorem P5(h:W.ownsRow base t size v n xs)(hF:∀g,base<=g->g<O (U W)->F g):DQ W t size F v n xs:=by
 refine⟨h.1,?_⟩;rcases h.2 with d|⟨g,b,c,e,f,a,k,j,i,l⟩
 .exact AF d
 exact AG ⟨g,b,c,e,hF g f<|Cd a,a,k,j,i,l⟩
def Fc(k:AH)(bs:A1)(lim:AI)(W:Ap)(r:AS (AI×AI)<|AM Unit×AH)(e:Ending)(W':Ap):Prop :=
 A0 W W'/\∃r',GH bs lim r r'/\match r' with
 |.ok (d,q)=>Cx bs lim q/\∃kd n s a i j b p m,e=Ak (Af #[.agg<|Cg kd n s (Ac a i j)<|Ac b p m,Ab Al q,.agg<|Cf (0,0)])/\CV k W' (λj=>Au (Av W)<=j/\j<Au (Av W')) (.agg<|Cg kd n s (Ac a i j)<|Ac b p m) d
 |.error f=>∃kd n s a i j b p m z,e=Ak (Af #[.agg<|Cg kd n s (Ac a i j)<|Ac b p m,Ab Al z,.agg<|Cf f])
theorem dY{α:Type}{r r':A5 α}(h:GH bs lim r r')(hb:DI r):DI r':=by
 intro a c b;rcases h with h|⟨q,_,_,_,x,d⟩
 .exact hb a c<|Ca h b
 grind
def s8(r:A5 AH):Aq:=match r with
 |.ok (x,_)=>Af #[Ab Al x,.agg<|Cf (0,0)]
 |.error f=>Af #[Ab Al 0,.agg<|Cf f]
theorem dZ(W:X)(fm d:J)(hl:Lm bs l lim)(hi:Cx bs lim i)(hb:K bs<=281474976710656):Ar As 210 #[.agg<|Ct bs fm d l,C Y i] W λab W'=>ab=Ak (s8<|Ef bs lim 4 i 0)/\A0 W W':=by
 obtain⟨R,q⟩:=CC<|Ef bs lim 4 i 0;rw[AE q];have ag:=hi.1;have Q:=T hl;have n:=T hi;have cH:=NK bs fm d l;have cB:=OW bs fm d l;unfold Ct;go_enter func210,ntmps210;go_wp2
 go_loopg[6,7] 4 (λg zn zk wr=>∃k a:I,zk=C Y k/\zn=C Y a/\D (k+g=i+4/\i<=k)/\D (a<=65535/\(1<=g->a*16+15<=65535)/\(2<=g->a*256+255<=65535)/\(3<=g->a*4096+4095<=65535)/\(4<=g->a=0))/\D (IN W (Ct bs fm d l) (O (U W)+1) wr)/\D (Ef bs lim g k a=R)/\D (Cx bs lim k))
 exact⟨i,0,Z,Z,⟨Z,Cr _⟩,⟨E,E,E,E,λ_=>rfl⟩,OV,q,n⟩;obtain⟨k,a,rfl,rfl,s,hm,o,q,n⟩:=hrel;have ah:=n.1;have ai:=hm.out.1;obtain⟨v,w,c2,x⟩:=Eb o.h;have L:=λV=>cH V k;obtain _|g:=gk
 .have ae:¬k<(i:J)+4:=AY<|AE s;have t:D<|R=.ok (a,k):=by grind [Ef]
  go_wp2_with(first
   |(refine Fb 5 72 Z Z (O (U W)+1) (0,0) Z Z ?_ ?_;exact o.a))
  have p:=Hs o CT (0,0);refine TA results210 p Z Z Z ⟨?_,p.2⟩;rw[AE t];rfl
 have ae:k<(i:J)+4:=AY<|AE s;have j:=AE q;rw[Ef]at j;have A:(R=.error (D5 bs l k 9)/\(CN bs l k=AQ\/CN bs l k=AP/\∃c,bs[k]?=H c/\((c.toNat:J)<48\/(57<(c.toNat:J)/\(c.toNat:J)<65)\/(70<(c.toNat:J)/\(c.toNat:J)<97)\/102<(c.toNat:J))))\/∃c b,CN bs l k=AP/\bs[k]?=H c/\Cx bs lim (k+1)/\Ef bs lim g (k+1) (a*16+b)=R/\b<16/\((48<=(c.toNat:J)/\(c.toNat:J)<=57/\(b:J)=(c.toNat:J)-48)\/(97<=(c.toNat:J)/\(c.toNat:J)<=102/\(b:J)=(c.toNat:J)-87)\/(65<=(c.toNat:J)/\(c.toNat:J)<=70/\(b:J)=(c.toNat:J)-55)):=by
  rcases Rz (bs:=bs) (lim:=lim) k with aj|⟨c,f,z⟩
  .grind [D,IM,Ic,Gk,Hr]
  rw[f]at j;simp only[]at j;rw[Cl z]at j;have N:=J4 Q n f z;rcases hv:JD c with _|b
  .grind [D,Id,JD,Ey]
  rw[hv]at j;refine AG ⟨c,b,N,f,Eu n f z,j,Tn hv,?_⟩;grind [JD,Ey]
 have aa:=λV=>cB V k 9;generalize D5 bs l k 9=F at *;generalize CN bs l k=N at *;rcases A with⟨hE,A⟩|⟨c,b,rfl,f,hN,j,af,h3⟩
 .have t:=T hE;rcases A with rfl|⟨rfl,c,f,m|⟨m,r⟩|⟨m,r⟩|m⟩
  all_goals
   try have ac:=λV=>Et f V
   try have ad:=Dk f
   try clear f
   go_wp2_with(first
    |(go_at_call 116;refine Ec (L _) o.next (λ_ h=>h.h) ?_;intro w2 u v w c2 x)
    |(go_at_call 84;refine Ec (aa _) u.next (λ_ h=>h.h) ?_;intro w3 B v w c2 x)
    |(refine Fb _ _ Z Z (O (U W)+1) F Z Z ?_ ?_;exact B.a))
   have p:=Hs B CT F;refine TA results210 p Z Z Z ⟨?_,p.2⟩;rw[AE t];rfl
 have HN:=T j;have e:=T hN;have ac:=λV=>Et f V;have ad:=Dk f;have S:D<|a*16+b<=65535/\(1<=g->(a*16+b)*16+15<=65535)/\(2<=g->(a*16+b)*256+255<=65535)/\(3<=g->(a*16+b)*4096+4095<=65535)/\(4<=g->a*16+b=0):=by grind [D]
 rcases h3 with⟨m,r,y⟩|⟨m,r,y⟩|⟨m,r,y⟩
 all_goals
  have P:D _:=y
  go_wp2_with(first
   |(go_at_call 116;apply Ec (L _) o.next λ_ h=>h.h;intro w2 u v w c2 x))
  go_roundg g;exact⟨_,_,Bb,congrArg _<|AY<|AE P,⟨AY<|AE s,AY<|AE s⟩,S,u,HN,e⟩;omega
theorem s9(W:X)(bs:A1)(cs:AJ Aq)(n:I)(b:n=K bs)(c:n<=9)(a:bs.map CP=cs):Cn (Az W<|M (Aw cs) 5) (O<|U W) (G (Aa<|O<|U W) n n) bs/\A0 W (Az W<|M (Aw cs) 5):=by subst a;subst b;refine⟨⟨⟨Ba,AG ⟨_,_,_,Z,Cr _,Cj _,Cr _,Bc,Ba,by simp[Ns]⟩⟩,Ba,_,_,_,Z⟩,Cm⟩
theorem RL(W:X){r:J}{cs:AJ Aq}(n:I)(b:n=K cs)(a:runeCells r=cs):Cn (Az W<|M (Aw cs) 5) (O<|U W) (G (Aa<|O<|U W) n n) (Ez r)/\A0 W (Az W<|M (Aw cs) 5):=by grind [encodeRuneZ,s9,Ez,WM]
theorem ed(W:X){n:J}(h:0<=n)(i:n<=1114111)(j:¬(55296<=n/\n<=57343)):Ar As 211 #[C Y n] W λe g=>∃v,e=Ak v/\Cn g (O<|U W) v (Ez n)/\A0 W g:=by
 by_cases a:n<128
 .have f:runeCells n=[C Am n]:=keK;have d:=T<|RL W 1 Z f;go_enter func211,ntmps211;go_wp2;go_ret;exact⟨_,Z,d.1,d.2⟩
 by_cases b:n<2048
 .have f:runeCells n=[C Am<|192+n/64,C Am<|128+n%64]:=by grind [runeCells,encodeRuneZ_two]
  have d:=T<|RL W 2 Z f;go_enter func211,ntmps211;go_wp2;go_ret;exact⟨_,Z,d.1,d.2⟩
 by_cases c:n<65536
 .have f:runeCells n=[C Am<|224+n/4096,C Am<|128+n/64%64,C Am<|128+n%64]:=by grind [runeCells,encodeRuneZ_three]
  have d:=T<|RL W 3 Z f;go_enter func211,ntmps211;go_wp2;go_ret;exact⟨_,Z,d.1,d.2⟩
 have f:runeCells n=[C Am<|240+n/262144,C Am<|128+n/4096%64,C Am<|128+n/64%64,C Am<|128+n%64]:=by grind [runeCells,encodeRuneZ_four]
 have d:=T<|RL W 4 Z f;go_enter func211,ntmps211;go_wp2;go_ret;exact⟨_,Z,d.1,d.2⟩
theorem sd{P:Program}{fn:Func}{p u u2:Tmp}{ty:AN}(h:fn.results=#[.tmp u,.tmp u2,.cell p ty]){tmps:A3}{w:X}{g:I}{t:AN}{cs:A3}{fr:I×I}{d:TypeDesc}(f:tmps.getD p AO=A8 g)(c:w.heap[g]?=H (M cs t fr))(i:P.underlying ty=H d)(b:(match d with|.struct _|.array _ _=>AP|_=>AQ)=AP)(hi:(P.info? ty).map (·.size)=H cs.size){v v2:Aq}(j:tmps.getD u AO=v)(k:tmps.getD u2 AO=v2):(results fn tmps).run P w=.ok (Af #[v,v2,.agg cs]) w:=by have e:(results fn tmps).run P w=((asAddr<|tmps.getD p AO).run P w).andThen λa l=>((loadVar ty a).run P l).andThen λv m=>.ok (Af #[tmps.getD u AO,tmps.getD u2 AO,v]) m:=Bm;subst j k;rw[e,f];simp only[asAddr,Ge,FZ,Jy w g t ty cs fr d c i b hi]
def se{p:Tmp}{F:J×J}(h:fn.results=#[.tmp u,.tmp u2,.cell p 103])(a:A7 w g (Cf F) 103)(b:tmps.getD p AO=A8 g)(c:tmps.getD u AO=v)(d:tmps.getD u2 AO=v2):(results fn tmps).run As w=.ok (Af #[v,v2,.agg<|Cf F]) w :=
 sd h b a underlying103 rfl (KE) c d
def Ij{p:Tmp}{A:Act}{F:J×J}{B:Prop}(h:fn.results=#[.tmp u,.tmp u2,.cell p 103])(c:A7 w g (Cf F) 103/\B)(v a:Aq)(d:A.tmps.getD p AO=A8 g)(e:A.tmps.getD u AO=v)(f:A.tmps.getD u2 AO=a)(b:A.defers=[])(k:R (Ak<|Af #[v,a,.agg<|Cf F]) w):bodyPost As fn R .ret A w:=CS (se h c.1 d e f) b k
structure Hu(W:Ap)(A:A3)(M:AH)(f:AI×AI)(V:Ap):Prop where
 h:V.heap[Au (Av W)]?=An (Aj A 115)
 a:V.heap[Au (Av W)+1]?=An (Aj (Cf (0,0)) 103)
 b:V.heap[M]?=An (Aj (Cf f) 103)
 ac:A0 W V
 lt:Au (Av W)+1<M
theorem Hu.next{M:I}{f:J×J}(h:Hu W A M f V)(hb:A0 V V'):Hu W A M f V' :=
 ⟨Ca (Co hb _<|Cd h.h) h.h,Ca (Co hb _<|Cd h.a) h.a,Ca (Co hb _<|Cd h.b) h.b,Cs h.ac<|CG hb h.ac.size,h.lt⟩
theorem Hu.drew{M:I}{f:J×J}(h:Hu W A M f V):Hu W A M f V.drew:=⟨h.h,h.a,h.b,h.ac.drew,h.lt⟩
theorem Hu.put{M:I}{f:J×J}(h:Hu W A M f V)(g:J×J):Hu W A M g<|AD V M<|Cf g:=by have a:=h.lt;exact⟨sx E h.h,sx E h.a,CR _ _ _ _ _ _ h.b,Dq h.ac E,h.lt⟩
def ef(h:IN W A (O (U W)+1) V){g:J×J}:Hu W A (O<|U V) g<|(Az V<|M (Cf (0,0)) 103).setRow (O<|U V)<|Cf g:=by
 have a:=Cd h.a;have b:Hu W A _ _ (Az V<|M (Cf (0,0)) _) :=
  ⟨Ca (CB _ _ _ E) h.h,Ca (CB _ _ _ a) h.a,Cj _,h.ac.alloc E _,a⟩
 exact b.put g
def Hu.ai{M:I}{f:J×J}(h:Hu W A M f V)(g:J×J):(AD V (O (U W)+1)<|Cf g).heap[O (U W)+1]?=H (Aj (Cf g) 103)/\A0 W (AD V (O (U W)+1)<|Cf g)/\(AD V (O (U W)+1)<|Cf g).heap[M]?=H (Aj (Cf f) 103) :=
 ⟨CR _ _ _ _ _ _ h.a,Dq h.ac E,Ca (Do _ _ _ _<|AY h.lt) h.b⟩
theorem RM:∀(k p a x q:I),Cx bs lim p->Ef bs lim k p a=.ok (x,q)->q=p+k/\Cx bs lim q/\x<(a+1)*16^k
 |0,p,a,x,q,hi,h=>by grind [Ef]
 |k+1,p,a,x,q,hi,h=>by
  rw[Ef]at h;rcases hc:bs[p]? with _|c
  .rw[hc]at h;cases h
  rw[hc]at h;simp only[]at h;by_cases b:(p:J)=lim
  .grind
  rw[Cl b]at h;rcases hv:JD c with _|g
  .rw[hv]at h;cases h
  rw[hv]at h;obtain⟨f,d,e⟩:=RM k _ _ x q (Eu hi hc b) h;have i:=Tn hv;refine⟨E,d,CQ e ?_⟩;rw[Wf,Wg (16^k) 16,<-Nat.mul_assoc];exact PM _ E
theorem RN:∀(w:A1) (p q:I),Cx bs lim p->Dt bs lim w p=.ok ((),q)->q=p+K w/\Cx bs lim q
 |[],p,q,hi,h=>kfG
 |x::w,p,q,hi,h=>by
  rw[Dt]at h;rcases hc:bs[p]? with _|c
  .rw[hc]at h;cases h
  rw[hc]at h;simp only[]at h;by_cases a:(p:J)=lim
  .rw[Cp a]at h;cases h
  rw[Cl a]at h;by_cases b:c=x
  .rw[Cp b]at h;obtain⟨e,d⟩:=RN w _ q (Eu hi hc a) h;exact⟨by rw[FN];omega,d⟩
  rw[Cl b]at h;cases h
theorem RO(hl:Lm bs l lim)(hi:Cx bs lim<|p+1)(e:J):D5 bs l p e=(e,(p:J)):=by have a:=hi.1;have b:=hi.2;have c:=hl p E;grind [D5]
def Xh(h:Cn W' b v bs)(hb:N<b):Ax v≠H N:=λe=>AY<|DK h.1 e
def Xi{b':I}(h:Cn W' b v bs)(hb:b'<=b):Cn W' b' v bs:=by
 obtain⟨⟨i,d⟩,k,j⟩:=h;refine⟨⟨i,?_⟩,E,j⟩;rcases d with d|⟨g,e,f,a,b,c⟩
 .exact AF d
 exact AG ⟨g,e,f,a,E,c⟩
def Xj(h:Cn W' b v bs)(n:Ax v≠H N):Cn (AD W' N cs) b v bs:=by
 obtain⟨⟨k,f⟩,l,m⟩:=h;refine⟨⟨k,?_⟩,kfg,m⟩;rcases f with f|⟨g,i,j,a,b,c,d⟩
 .exact AF f
 refine AG ⟨g,i,j,a,b,Ca (Do _ _ _ _ λe=>n ?_) c,d⟩;rw[a,<-e];rfl
def P6(W:Ap)(r:A5 AI)(e:Ending)(W':Ap):Prop:=match r with
 |.ok (x,q)=>∃v,e=Ak (Af #[v,Ab Al q,.agg<|Cf (0,0)])/\Cn W' (Au<|Av W) v (Ez x)
 |.error f=>e=Ak (Af #[Ac Ao 0 0,Ab Al 0,.agg<|Cf f])
def Hu.ck{Q:Ending->X->Prop}{M:I}{x:J×J}(h:Hu W (Ct bs fm d l) M x V)(c:Ar As f args V λe b=>e=r/\A0 V b)(k:∀w,D (Hu W (Ct bs fm d l) M x w)->AC w ⟨O<|U W,0,Ao⟩=(#[Ae ⟨Aw bs⟩,C Y fm,C Y d,C Y l]:A3)[0]?->AC w ⟨O<|U W,1,Ao⟩=(#[Ae ⟨Aw bs⟩,C Y fm,C Y d,C Y l]:A3)[1]?->AC w ⟨O<|U W,2,Ao⟩=(#[Ae ⟨Aw bs⟩,C Y fm,C Y d,C Y l]:A3)[2]?->AC w ⟨O<|U W,3,Ao⟩=(#[Ae ⟨Aw bs⟩,C Y fm,C Y d,C Y l]:A3)[3]?->A6 w M 0 (C Y x.1)->Q r w):Ar As f args V Q :=
 _root_.Go.Proofs.YtaehkdnabiccnaaGreatDoor.ck c h.next λw a=>k w a (Eb a.out.h).1 (Eb a.out.h).2.1 (Eb a.out.h).2.2.1 (Eb a.out.h).2.2.2<|Cc a.out.b 0
def Hu.st{M:I}(h:Hu W (Ct bs fm d l) M (0,0) V)(x y:I)(c:o.guard=Ao)(e:o.op=.store 103 (.tmp x) (.tmp y))(F:J×J)(b:a.eval (.tmp x)=A8 M/\a.eval (.tmp y)=.agg (Cf F))(k:∀w,D (Hu W (Ct bs fm d l) M F w)->AC w ⟨O<|U W,0,Ao⟩=(#[Ae ⟨Aw bs⟩,C Y fm,C Y d,C Y l]:A3)[0]?->AC w ⟨O<|U W,1,Ao⟩=(#[Ae ⟨Aw bs⟩,C Y fm,C Y d,C Y l]:A3)[1]?->AC w ⟨O<|U W,2,Ao⟩=(#[Ae ⟨Aw bs⟩,C Y fm,C Y d,C Y l]:A3)[2]?->AC w ⟨O<|U W,3,Ao⟩=(#[Ae ⟨Aw bs⟩,C Y fm,C Y d,C Y l]:A3)[3]?->A6 w M 0 (C Y F.1)->wpList As ops Q rest (a.put o.dst AO) w):wpList As ops Q (o::rest) a V :=
 Fb x y c e M F b.1 b.2 h.b<|k _ (h.put F) (Eb (h.put F).h).1 (Eb (h.put F).h).2.1 (Eb (h.put F).h).2.2.1 (Eb (h.put F).h).2.2.2<|Cc (h.put F).b 0
def Kg(bs:A1)(fm d l:AI)(i x:AI)(F:AI×AI):Prop:=∀V,Ar As 210 #[Ag #[Ae ⟨Aw bs⟩,Ab Al fm,Ab Al d,Ab Al l],Ab Al i] V λe W'=>e=Ak (Af #[Ab Al x,.agg<|Cf F])/\A0 V W'
def RP(bs:A1)(fm d l:AI)(i x:AI)(F:AI×AI):Prop:=∀V,Ar As 127 #[Ag #[Ae ⟨Aw bs⟩,Ab Al fm,Ab Al d,Ab Al l],Ab Al i,Ae ⟨#[92,117]⟩] V λe W'=>e=Ak (Af #[Ab Al x,.agg<|Cf F])/\A0 V W'
def TJ(bs:A1)(fm d l:AI)(i:AI)(F:AI×AI):Prop:=∀V,Ar As 84 #[Ag #[Ae ⟨Aw bs⟩,Ab Al fm,Ab Al d,Ab Al l],Ab Al i,Ab Al 9] V λe W'=>e=Ak (.agg<|Cf F)/\A0 V W'
def Xk(x:AI):Prop:=∀V,Ar As 211 #[Ab Al x] V λe W'=>∃v,e=Ak v/\Cn W' (Au<|Av V) v (Ez x)/\A0 V W'
def sf(W:World){bs:List UInt8}(fm d l:Int){i:Nat}(af:i<=bs.length)(hb:bs.length<=281474976710656)(R:Except (Int×Int)<|Int×Nat)(x y:Int)(F:Int×Int)(ag:0<=x)(ah:x<65536)(ai:0<=y)(aj:y<65536)(hw:(Kg bs fm d l i 0 F/\(F.1==0)=false/\R=.error F)\/(Kg bs fm d l i x (0,0)/\55296<=x/\x<56320/\RP bs fm d l ((i:Int)+4) 0 F/\(F.1==0)=false/\R=.error F)\/(Kg bs fm d l i x (0,0)/\55296<=x/\x<56320/\RP bs fm d l ((i:Int)+4) ((i:Int)+6) (0,0)/\Kg bs fm d l ((i:Int)+6) 0 F/\(F.1==0)=false/\R=.error F)\/(Kg bs fm d l i x (0,0)/\56320<=x/\x<=57343/\TJ bs fm d l ((i:Int)+3) F/\R=.error F)\/(Kg bs fm d l i x (0,0)/\55296<=x/\x<56320/\RP bs fm d l ((i:Int)+4) ((i:Int)+6) (0,0)/\Kg bs fm d l ((i:Int)+6) y (0,0)/\(y<56320\/57343<y)/\TJ bs fm d l ((i:Int)+6+3) F/\R=.error F)\/(Kg bs fm d l i x (0,0)/\(x<55296\/57343<x)/\Xk x/\F=(0,0)/\R=.ok (x,i+4))\/(Kg bs fm d l i x (0,0)/\55296<=x/\x<56320/\RP bs fm d l ((i:Int)+4) ((i:Int)+6) (0,0)/\Kg bs fm d l ((i:Int)+6) y (0,0)/\56320<=y/\y<=57343/\Xk (65536+(x-55296)*1024+y-56320)/\F=(0,0)/\R=.ok (65536+(x-55296)*1024+y-56320,i+10))):Calls prog 189 #[.agg<|Ct bs fm d l,.int .i64 i] W λe Q=>P6 W R e Q/\Below W.heap.size W Q:=by
 have HX:=RA W bs fm d l;have m:∀{p:Prop} [Decidable p],¬p->Hid _:=λh=>FO h;have B:∀{p:Prop} [Decidable p],p->Hid _:=λh=>Fm h;unfold Ct;rcases hw with⟨k,aa,rfl⟩|⟨k,n,u,q,aa,rfl⟩|⟨k,n,u,q,t,aa,rfl⟩|⟨k,n,u,z,rfl⟩|⟨k,n,u,q,t,v|v,z,rfl⟩|⟨k,n|n,A,rfl,rfl⟩|⟨k,n,u,q,t,v,h4,A,rfl,rfl⟩
 let b:Nat:=20;rotate_left
 let b:Nat:=48;rotate_left
 let b:Nat:=58;rotate_left
 rotate_left 6
 all_goals
  unfold Kg at *
  try unfold RP at *
  try unfold TJ at *
  try unfold Xk at *
  try have d1:=(m (p:=x<55296) E).out
  try have d2:=(m (p:=57343<x) E).out
  try have d3:=(m (p:=56320<=x) E).out
  try have N:=m (p:=y<56320) E
  try have N:=B (p:=y<56320) E
  try have P:=m (p:=57343<y) E
  try have P:=B (p:=57343<y) E
  clear m B;go_enter func189,ntmps189
  go_wp2_with(first
   |(go_at_call 210;refine MI (k _) HX.out.next ?_;clear k;intro r ac s;obtain⟨c,f,c2,g⟩:=Eb s.out.h)
   |(go_at_call 127;refine a.out.ck (q _) ?_;clear q d1 d2 d3 c f c2 g j a;intro w3 a c f c2 g j)
   |(go_at_call 210;apply a.out.ck<|t _;clear t c f c2 g j a;intro w4 a c f c2 g j)
   |(go_at_call 84;apply a.out.ck<|z _;clear z c f c2 g j a;intro w5 a c f c2 g j)
   |(go_at_call 211;apply (A _).mono;clear A c f c2 g j;rintro e w5 ⟨ak,rfl,w,ad⟩;obtain⟨va,vn,vc,rfl⟩:=w.2.2;have HO:=T<|Xi w a.out.ac.size;have ab:=T<|Xh w<|Cd a.out.a;clear w;have a:=T<|a.out.next ad)
   |((first|((with_reducible refine Fb 8 16 rfl rfl (r.heap.size) (0,0) ?_ ?_ ?_ ?_);exact Z;exact Z;exact Cj r;refine FA ?_;intro V2 o;have a:=T<|o▸ef s.out;clear o)|((with_reducible refine Fb 8 16 rfl rfl (r.heap.size) F ?_ ?_ ?_ ?_);exact Z;exact Z;exact Cj r;apply FA;intro V2 o;have a:=T<|o▸ef s.out;clear o));generalize r.heap.size=M at *;clear c f c2 g ac s;have j:=Cc a.out.b 0;unfold Cf at j;obtain⟨c,f,c2,g⟩:=Eb a.out.h)
   |((with_reducible refine a.out.st 8 _ rfl rfl (0,0) ?_ ?_);exact⟨Z,Z⟩;clear c f c2 g j a;intro V3 a c f c2 g j;try(have e1:=N.out;have e2:=P.out))
   |((with_reducible refine a.out.st 8 _ rfl rfl F ?_ ?_);exact⟨Z,Z⟩;clear c f c2 g j a;intro V3 a c f c2 g j)
   |((with_reducible refine Fb 6 _ rfl rfl (W.heap.size+1) F ?_ ?_ ?_ ?_);exact Z;exact Z;exact a.out.a)
   |((with_reducible refine Fb 6 _ rfl rfl (W.heap.size+1) (0,0) ?_ ?_ ?_ ?_);exact Z;exact Z;exact a.out.a))
  try exact Ij results189 (a.out.ai _) (.slice none 0 0) (.int .i64 0) rfl rfl rfl rfl ⟨rfl,(a.out.ai _).2.1⟩
  try exact Ij results189 (a.out.ai _) (.slice va vn vc) _ rfl rfl rfl rfl ⟨⟨_,by congr 4,Xj HO.out ab.out⟩,(a.out.ai _).2.1⟩
 all_goals
  apply Dl (S:=λV=>V.heap[M]?=some _) (a.out.b) B6;intro L;apply Cb 1 4 (.slice none 0 0) L;apply Cb 2 5 (.int .i64 0) L;apply tk 0 b _ Z B6 GB (λV hZ=>yF 8 hZ Z Z) L;refine CH 3 λae hK=>?_;rw[Cp B6];refine Je 103 _ _ Z (W.heap.size+1) (Cf F) Z Z 103 (Cf (0,0)) a.out.drew.a (KE) Z (Qc) ?_;refine hK.out _ _ (a.out.drew.ai F).2.2 λ_=>?_;clear hK;refine CK ?_;dsimp only[b];go_simp;clear c f c2 g j;go_wp2;exact Ij results189 (a.out.drew.ai F) _ _ Z Z Z Z ⟨Z,(a.out.drew.ai F).2.1⟩
def eh{f:J×J}(hl:Lm bs l lim)(hi:Cx bs lim i)(hb:K bs<=281474976710656)(h:Ef bs lim 4 i 0=.error f):Kg bs fm d l i 0 f:=λV=>ker
def el(hl:Lm bs l lim)(hi:Cx bs lim i)(hb:K bs<=281474976710656)(h:Ef bs lim 4 i 0=.ok (x,q)):Kg bs fm d l i x (0,0):=λV=>ker
def eo(hl:Lm bs l lim)(hi:Cx bs lim<|p+1):TJ bs fm d l p (9,(p:J)):=λV=>by have h:=M1 V bs fm d l p 9;rw[RO hl hi]at h;exact h
theorem sj(W:X)(fm d:J)(hl:Lm bs l lim)(hi:Cx bs lim i)(hb:K bs<=281474976710656):Ar As 189 #[.agg<|Ct bs fm d l,C Y i] W λe o=>P6 W (IK bs lim i) e o/\A0 W o:=by
 have a:=sf W fm d l hi.1 hb;have m:∀z:J,¬z=0->(z==0)=AQ:=λz h=>Bu;unfold IK;rcases h1:Ef bs lim 4 i 0 with f|r
 .exact a _ 0 0 f B8 B8 B8 B8<|AF ⟨eh hl hi hb h1,m _<|RI bs lim 4 i 0 _ _ h1,Z⟩
 obtain⟨x,q⟩:=r;simp only[];obtain⟨s,t,S⟩:=RM 4 i 0 x q hi h1;have c:=el (fm:=fm) (d:=d) hl hi hb h1;by_cases j:LY x=AP
 .rw[Cp j];unfold LY at j;have w:=Dr j;rw[show q-1=(i:J)+3 by omega];exact a _ x 0 _ E E B8 B8<|AG<|AG<|AG<|AF ⟨c,E,E,λV=>eo hl B9 V,Z⟩
 rw[Cl j];have R:¬(56320<=x/\x<=57343):=λh=>j<|Fm h;by_cases g:Q7 x=AP
 .rw[Cp g];unfold Q7 at g;have w:=Dr g;subst s;have b:=λV=>WT V fm d [92,117] B8 hl t hb;rcases hw:Dt bs lim [92,117] (i+4)with f|r
  .rw[hw]at b;exact a _ x 0 f E E B8 B8<|AG<|AF ⟨c,E,E,b,m _<|MJ _ _ _ _ hw,Z⟩
  obtain⟨ab,v⟩:=r;simp only[];obtain⟨A,n⟩:=RN _ _ v t hw;have B:v=i+6:=keH;subst B;rw[hw]at b;rcases h3:Ef bs lim 4 (i+6) 0 with f|r
  .exact a _ x 0 f E E B8 B8<|AG<|AG<|AF ⟨c,E,E,b,eh hl n hb h3,m _<|RI bs lim 4 _ 0 _ _ h3,Z⟩
  obtain⟨y,N⟩:=r;simp only[];obtain⟨F,L,u⟩:=RM 4 _ 0 y N n h3;have p:=el (fm:=fm) (d:=d) hl n hb h3;subst F;by_cases k:LY y=AP
  .rw[Cp k];unfold LY at k;have P:=Dr k;rw[show 65536+(x-55296)*1024+(y-56320)=65536+(x-55296)*1024+(y:J)-56320 by omega];exact a _ x y _ E E E E<|AG<|AG<|AG<|AG<|AG<|AG ⟨c,E,E,b,p,E,E,λV=>ed V E E E,Z,Z⟩
  rw[Cl k,show(i+6+4:I)-1=(i:J)+9 by omega];have aa:¬(56320<=y/\y<=57343):=λh=>k<|Fm h;exact a _ x y _ E E E E<|AG<|AG<|AG<|AG<|AF ⟨c,E,E,b,p,E,λV=>eo hl L V,Z⟩
 rw[Cl g];have Q:¬(55296<=x/\x<=56319):=λh=>g<|Fm h;subst s;exact a _ x 0 _ E E B8 B8<|AG<|AG<|AG<|AG<|AG<|AF ⟨c,E,λV=>ed V E E E,Z,Z⟩
theorem sm{r:J}(a:0<=r)(b:r<=127):runeCells r=[C Am r]:=keK
def Xl{x:J×J}(q:D5 bs l i 9=x)(t:CN bs l i=AQ\/(CN bs l i=AP/\∃c,bs[i]?=H c/\∀x,x∈[34,92,47,98,102,110,114,116,117]->¬c.toNat=x)):Ar As 162 #[.agg<|Ct bs fm d l,C Y i] W λe b=>P6 W (.error x) e b/\A0 W b:=by
 have o:=NJ fm d q;have g:=RA W bs fm d l;unfold Ct;rcases t with f|⟨f,c,r,s⟩
 all_goals
  have p:=GI fm d f
  try
   have u:=Et r;simp only[Iz,Ms,Mx,aC,forall_eq]at s;have B:=Df (c:=c) 34 E;have L:=Df (c:=c) 92 E;have F:=Df (c:=c) 47 E;have N:=Df (c:=c) 98 E;have v:=Df (c:=c) 102 E;have w:=Df (c:=c) 110 E;have y:=Df (c:=c) 114 E;have z:=Df (c:=c) 116 E;have A:=Df (c:=c) 117 E
  go_enter func162,ntmps162
  go_wp2_with(first
   |(go_at_call 116;apply Ec (p _) g.next λ_ h=>h.h;intro P j k m c2 n)
   |(go_at_call 84;apply Ec (o _) j.next λ_ h=>h.h;intro Q a k m c2 n)
   |(refine Fb 6 _ Z Z (O (U W)+1) x Z Z ?_ ?_;exact a.a))
  exact Ij results162 (Hs a CT _) _ _ Z Z Z Z ⟨Z,(Hs a CT _).2⟩
def NQ(g:bs[i]?=H c)(o:CN bs l i=AP)(hb:K bs<=281474976710656){v:I}(r:J)(q:c.toNat=v)(j:(v,r)∈([(34,34),(92,92),(47,47),(98,8),(102,12),(110,10),(114,13),(116,9)]:AJ<|I×J)):Ar As 162 #[.agg<|Ct bs fm d l,C Y i] W λe b=>P6 W (.ok (r,i+1)) e b/\A0 W b:=by
 have x:=M4 g q;have w:=Dk g;have n:=GI fm d o;have m:=RA W bs fm d l;unfold Ct;simp only[Iz,LO,Ms,Mx]at j;rcases j with h|h|h|h|h|h|h|h
 all_goals
  obtain⟨rfl,rfl⟩:=h
 let r:J:=34;rotate_left
 let r:J:=92;rotate_left
 let r:J:=47;rotate_left
 let r:J:=8;rotate_left
 let r:J:=12;rotate_left
 let r:J:=10;rotate_left
 let r:J:=13;rotate_left
 let r:J:=9;rotate_left
 all_goals
  have p:=sm (r:=r) (Dr Z)<|Dr Z;go_enter func162,ntmps162
  go_wp2_with(first
   |(go_at_call 116;refine Ec (n _) m.next (λ_ h=>h.h) ?_;intro k a s t c2 u)
   |(refine Fb 6 _ Z Z (O (U W)+1) (0,0) Z Z ?_ ?_;exact(a.next<|Cm).a))
  have f:=(RL k 1 Z p).1;exact Ij results162 (Hs (a.next<|Cm) CT _) (G (Aa<|O<|U k) 1 1) (C Y<|(i:J)+1) rfl rfl rfl rfl ⟨⟨_,rfl,Xj (Xi f a.ac.size)<|Xh f<|Cd a.a⟩,(Hs (a.next<|Cm) CT _).2⟩
theorem sq(W:X)(bs:A1)(fm d l lim:J)(i:I)(hb:K bs<=281474976710656)(c:AU)(m:bs[i]?=H c)(s:CN bs l i=AP)(u:c.toNat=117)(hl:Lm bs l lim)(hi:Cx bs lim<|i+1):Ar As 162 #[.agg<|Ct bs fm d l,C Y i] W λe b=>P6 W (IK bs lim<|i+1) e b/\A0 W b:=by
 have A:=M4 m u;have z:=Dk m;have p:=GI fm d s;have o:=RA W bs fm d l;have q:∀V,Ar _ _ #[Ag #[.string _,.int _ fm,.int _ d,.int _ l],.int _<|i+1] V λe b=>P6 V (IK bs lim<|i+1) e b/\Below _ V b:=λV=>sj V fm d hl hi hb;generalize IK bs lim (i+1)=R at *;unfold Ct;go_enter func162,ntmps162
 go_wp2_with(first
  |(go_at_call 116;apply Ec (p _) o.next λ_ h=>h.h;intro N g w x c2 y))
 apply (q _).mono;rintro e P ⟨n,t⟩;have a:=T<|g.next t;obtain f|r:=R
 .obtain rfl:=n
  go_wp2_with(first
   |(refine Fb 6 68 Z Z (O (U W)+1) f Z Z ?_ ?_;exact a.a))
  exact Ij results162 (Hs a CT _) _ _ Z Z Z Z ⟨Z,(Hs a CT _).2⟩
 obtain⟨v,rfl,k⟩:=n;obtain⟨B,L,F,rfl⟩:=k.2.2;have j:=T k
 go_wp2_with(first
  |(refine Fb 6 68 Z Z (O (U W)+1) (0,0) Z Z ?_ ?_;exact a.a))
 exact Ij results162 (Hs a CT _) _ _ Z Z Z Z ⟨⟨_,Z,Xj (Xi j g.ac.size)<|Xh j<|Cd g.a⟩,(Hs a CT _).2⟩
theorem sr(W:X)(fm d:J)(hl:Lm bs l lim)(hi:Cx bs lim i)(hb:K bs<=281474976710656):Ar As 162 #[.agg<|Ct bs fm d l,C Y i] W λe p=>P6 W (I9 bs lim i) e p/\A0 W p:=by
 unfold I9;rcases hc:bs[i]? with _|c
 .exact Xl (IM hi.1 hc 9)<|AF<|Ic hc
 simp only[];by_cases b:(i:J)=lim
 .rw[Cp b];exact Xl (Gk hl hc b 9)<|AF<|Hr hl hc b
 rw[Cl b];have a:=J4 hl hi hc b;by_cases k:c.toNat=34
 .rw[Cp k];exact NQ hc a hb 34 k B8
 rw[Cl k];by_cases n:c.toNat=92
 .rw[Cp n];exact NQ hc a hb 92 n B8
 rw[Cl n];by_cases m:c.toNat=47
 .rw[Cp m];exact NQ hc a hb 47 m B8
 rw[Cl m];by_cases o:c.toNat=98
 .rw[Cp o];exact NQ hc a hb 8 o B8
 rw[Cl o];by_cases f:c.toNat=102
 .rw[Cp f];exact NQ hc a hb 12 f B8
 rw[Cl f];by_cases g:c.toNat=110
 .rw[Cp g];exact NQ hc a hb 10 g B8
 rw[Cl g];by_cases h:c.toNat=114
 .rw[Cp h];exact NQ hc a hb 13 h B8
 rw[Cl h];by_cases j:c.toNat=116
 .rw[Cp j];exact NQ hc a hb 9 j B8
 rw[Cl j];by_cases q:c.toNat=117
 .grind [sq,Eu]
 rw[Cl q];exact Xl (Id hl hi hc b 9) (AG ⟨a,c,hc,by simp[*]⟩)
def DG(c:AU):AH:=if c.toNat<128 then 1 else if c.toNat<194 then 0 else if c.toNat<224 then 2 else if c.toNat<240 then 3 else if c.toNat<245 then 4 else 0
def Hv(c:AU):AH:=if c.toNat<194 then 0 else if c.toNat=224 then 160 else if c.toNat=240 then 144 else if c.toNat<245 then 128 else 0
def Ik(c:AU):AH:=if c.toNat<194 then 0 else if c.toNat=237 then 159 else if c.toNat=244 then 143 else if c.toNat<245 then 191 else 0
def su:(List.range 256).all (λx=>(let c:=AW x;decide<|(KF c=0↔DG c=1)/\(KF c=1↔DG c=0)/\(2<=DG c->KF c=DG c/\MC c=Hv c/\MD c=Ik c/\128<=Hv c)/\DG c<=4))=AP:=B6
theorem M6(c:AU):(KF c=0↔DG c=1)/\(KF c=1↔DG c=0)/\(2<=DG c->KF c=DG c/\MC c=Hv c/\MD c=Ik c/\128<=Hv c)/\DG c<=4:=by have h:=Hh.1 su _<|Hi.2 c.toNat_lt;grind [UInt8.ofNat_toNat]
def Ls(c0:AU)(j:AH)(c:AU):AK:=(j==1&&(AR (c.toNat<Hv c0)||decide (Ik c0<c.toNat)))||(AR (1<j)&&(AR (c.toNat<128)||decide (191<c.toNat)))
def KJ(bs:A1)(n p:AH)(c0:AU):AH->AH->AH×AK
 |0,_=>(DG c0,AP)
 |g+1,j=>if n<=p+j then(j,AQ)else match bs[p+j]? with
  |none=>(j,AQ)
  |some c=>if Ls c0 j c=AP then(j,AQ)else KJ bs n p c0 g (j+1)
def MK(bs:A1)(n p:AH)(c0:AU):AH×AK:=if DG c0=0 then(0,AQ)else KJ bs n p c0 (DG c0-1) 1
theorem sw(a c:AU):Ls a 1 c=AP↔(c.toNat<Hv a\/Ik a<c.toNat):=by unfold Ls;simp
theorem ep(a c:AU)(j:I)(b:1<j):Ls a j c=AP↔(c.toNat<128\/191<c.toNat):=by grind [Ls]
theorem et(a:AU)(l:A1)(c:AU)(b:K l+1<DG a):Dh (a::l) c=if Ls a (K l+1) c=AP then 0 else if K l+2=DG a then 2 else 1:=by
 obtain⟨_,_,d,e⟩:=M6 a;obtain⟨f,g,h,i⟩:=d E
 match l,b with
 |[],b =>
  grind [Dh,sw]
 |[b1],b =>
  grind [Dh,ep]
 |[b1,b2],b =>
  grind [Dh,ep]
 |_::_::_::l,b=>grind
theorem TK(a:AU):Dh [] a=if DG a=0 then 0 else if DG a=1 then 2 else 1:=by grind [M6,Dh]
theorem sy(d:2<=DG c0)(b:1<=j)(h:c.toNat<32):Ls c0 j c=AP:=by obtain⟨_,_,a,_⟩:=M6 c0;grind [Ls]
def DB(bs:A1)(p k:AH):A1:=(bs.drop p).take k
theorem Xm(h:bs[p+k]?=H c):DB bs p (k+1)=DB bs p k++[c]:=by grind [DB,List.take_add_one]
theorem TL(h:p+k<=K bs):K (DB bs p k)=k:=by grind [DB]
theorem Xn(h:bs[p]?=H c):DB bs p 1=[c]:=by grind [Xm,DB]
theorem eu(h:bs[p]?=H c)(d:1<=k)(hl:p+k<=K bs):∃l,DB bs p k=c::l/\K l+1=k:=by
 have b:=Dk h;obtain⟨k,rfl⟩:∃a,k=a+1:=⟨k-1,E⟩
 grind [DB,List.drop_eq_getElem_cons]
theorem ew(hl:Lm bs l lim)(u:(n:J)=min (K bs:J) lim)(d:bs[p]?=H c0)(acc:A1):∀(g j f:I),1<=j->j+g=DG c0->Cx bs lim (p+j)->K bs+1<=p+j+f ->
  match KJ bs n p c0 g j with
  |(k,AP)=>k=DG c0/\Cx bs lim (p+k)/\DA bs lim f (p+j) (acc++DB bs p j) (if g=0 then K acc+j else K acc)=DA bs lim (f-g) (p+k) (acc++DB bs p k) (K<|acc++DB bs p k)
  |(k,AQ)=>k<=DG c0/\Cx bs lim (p+k)/\DA bs lim f (p+j) (acc++DB bs p j) (if g=0 then K acc+j else K acc)=.error (D5 bs l (p+k) 9)
 |0,j,f,hj,hg,hi,_=>by rw[KJ];simp only[];have s:j=DG c0:=E;subst s;refine⟨trivial,hi,?_⟩;rw[Cp trivial,Dj,TL hi.1];rfl
 |g+1,j,f,hj,hg,hi,hf=>by
  obtain⟨f,rfl⟩:∃q,f=q+1:=⟨f-1,AY hi.1⟩
  rw[KJ];by_cases o:n<=p+j
  .rw[Cp o];simp only[];refine⟨E,hi,?_⟩;rw[Cl E,DA];rcases a:bs[p+j]? with _|c
   .simp only[];rw[IM hi.1 a]
   have e:=Dk a;have i:((p+j:I):J)=lim:=AY hi.2;grind [Gk]
  rw[Cl o];have e:p+j<K bs:=E;have a:=D7 e;obtain⟨c,r⟩:=IA<|bs[p+j];rw[<-r]at a;rw[a];simp only[];have i:¬((p+j:I):J)=lim:=E;obtain⟨t,v,w⟩:=eu d hj E;have m:=et c0 t c E;have hcut:(acc++DB bs p j).drop (K acc)=c0::t:=by rw[W8,v]
  rw[<-hcut,w,show K t+2=j+1 by omega]at m;have y:K (acc++DB bs p j)=K acc+j:=B9;by_cases b:Ls c0 j c=AP
  .grind [DA,Id]
  rw[Cl b];rw[Cl b]at m;have x:=λh=>b<|sy E hj h;have A:=ew hl u d acc g (j+1) f E E (Eu hi a i) E;have z:DA bs lim (f+1) (p+j) (acc++DB bs p j) (if g+1=0 then K acc+j else K acc)=DA bs lim f (p+(j+1)) (acc++DB bs p (j+1)) (if g=0 then K acc+(j+1)else K acc):=by grind [DA,Xm]
  grind
theorem sA(hl:Lm bs l lim)(j:(n:J)=min (K bs:J) lim)(hi:Cx bs lim p)(e:bs[p]?=H c0)(m:¬(p:J)=lim)(q:¬c0.toNat=34)(s:¬c0.toNat=92)(t:¬c0.toNat<32)(acc:A1)(u:K bs+1<=p+g):match MK bs n p c0 with
  |(k,AP)=>1<=k/\Cx bs lim (p+k)/\k<=g/\DA bs lim g p acc (K acc)=DA bs lim (g-k) (p+k) (acc++DB bs p k) (K<|acc++DB bs p k)
  |(k,AQ)=>Cx bs lim (p+k)/\DA bs lim g p acc (K acc)=.error (D5 bs l (p+k) 9):=by
 have w:=Dk e;obtain⟨g,rfl⟩:∃i,g=i+1:=⟨g-1,E⟩
 have f:DA bs lim (g+1) p acc (K acc)=if Dh [] c0=0 then .error (9,p)else DA bs lim g (p+1) (acc++[c0]) (if Dh [] c0=2 then K acc+1 else K acc):=by grind [DA]
 unfold MK;rw[TK]at f;by_cases h:DG c0=0
 .grind [Id]
 rw[Cl h];rw[Cl h]at f;have o:DA bs lim (g+1) p acc (K acc)=DA bs lim g (p+1) (acc++DB bs p 1) (if DG c0-1=0 then K acc+1 else K acc):=by grind [Xn]
 have v:=(M6 c0).2.2.2;have d:=ew hl j e acc (DG c0-1) 1 g (Cr _) E (Eu hi e m) E;rw[<-o]at d;generalize KJ bs n p c0 (DG c0-1) 1=r at d ⊢;obtain⟨k,b⟩:=r;cases b
 .grind
 simp only[]at d ⊢;obtain⟨a,b,c⟩:=d;have:=b.1;grind
theorem ey(hl:Lm bs l lim)(w:(n:J)=min (min (K bs:J) lim) (p+m:I))(e:bs[p]?=H c0)(acc:A1):∀(g j:I),1<=j->j+g=DG c0->Cx bs lim (p+j)->j<=m ->
  match KJ bs n p c0 g j with
  |(k,AP)=>k=DG c0/\Cx bs lim (p+k)/\k<=m/\Ds bs lim (m-j) (p+j) (acc++DB bs p j) (if g=0 then K acc+j else K acc)=Ds bs lim (m-k) (p+k) (acc++DB bs p k) (K<|acc++DB bs p k)
  |(k,AQ)=>Cx bs lim (p+k)/\k<=m/\Ds bs lim (m-j) (p+j) (acc++DB bs p j) (if g=0 then K acc+j else K acc)=(if k=m then .error (9,((p+k:I):J)-1)else .error (D5 bs l (p+k) 9))
 |0,j,hj,hg,hi,hm=>by rw[KJ];simp only[];have v:j=DG c0:=E;subst v;refine⟨trivial,hi,hm,?_⟩;rw[Cp trivial,Dj,TL hi.1]
 |g+1,j,hj,hg,hi,hm=>by
  have z:K (acc++DB bs p j)=K acc+j:=by rw[Dj,TL hi.1]
  rw[KJ];by_cases s:n<=p+j
  .rw[Cp s];simp only[];refine⟨hi,hm,?_⟩;rw[Cl E];by_cases d:j=m
   .rw[Cp d,show m-j=0 by omega,Ds,Cl E]
   rw[Cl d];obtain⟨f,r⟩:∃b,m-j=b+1:=⟨m-j-1,E⟩
   rw[r,Ds];rcases a:bs[p+j]? with _|c
   .simp only[];rw[IM hi.1 a]
   have h:=Dk a;have i:((p+j:I):J)=lim:=AY hi.2;grind [Gk]
  rw[Cl s];have h:p+j<K bs:=E;have a:=D7 h;obtain⟨c,u⟩:=IA<|bs[p+j];rw[<-u]at a;rw[a];simp only[];have i:¬((p+j:I):J)=lim:=E;have d:¬j=m:=E;obtain⟨f,r⟩:∃b,m-j=b+1:=⟨m-j-1,E⟩
  obtain⟨t,x,y⟩:=eu e hj E;have o:=et c0 t c E;have hcut:(acc++DB bs p j).drop (K acc)=c0::t:=by rw[W8,x]
  rw[<-hcut,y,show K t+2=j+1 by omega]at o;by_cases q:Ls c0 j c=AP
  .grind [Ds,Id]
  rw[Cl q];rw[Cl q]at o;have B:=ey hl w e acc g (j+1) E E (Eu hi a i) E;have A:Ds bs lim (m-j) (p+j) (acc++DB bs p j) (if g+1=0 then K acc+j else K acc)=Ds bs lim (m-(j+1)) (p+(j+1)) (acc++DB bs p (j+1)) (if g=0 then K acc+(j+1)else K acc):=by grind [Ds,Xm]
  grind
theorem sB(hl:Lm bs l lim)(e:(n:J)=min (min (K bs:J) lim) (p+m:I))(hi:Cx bs lim p)(a:bs[p]?=H c0)(f:¬(p:J)=lim)(i:0<m)(acc:A1):match MK bs n p c0 with
  |(k,AP)=>1<=k/\Cx bs lim (p+k)/\k<=m/\Ds bs lim m p acc (K acc)=Ds bs lim (m-k) (p+k) (acc++DB bs p k) (K<|acc++DB bs p k)
  |(k,AQ)=>Cx bs lim (p+k)/\k<=m/\Ds bs lim m p acc (K acc)=(if k=m then .error (9,((p+k:I):J)-1)else .error (D5 bs l (p+k) 9)):=by
 have b:Ds bs lim m p acc (K acc)=if Dh [] c0=0 then .error (9,p)else Ds bs lim (m-1) (p+1) (acc++[c0]) (if Dh [] c0=2 then K acc+1 else K acc):=by
  obtain⟨g,rfl⟩:∃d,m=d+1:=⟨m-1,E⟩
  grind [Ds]
 unfold MK;rw[TK]at b;by_cases c:DG c0=0
 .grind [Id]
 rw[Cl c];rw[Cl c]at b;have j:Ds bs lim m p acc (K acc)=Ds bs lim (m-1) (p+1) (acc++DB bs p 1) (if DG c0-1=0 then K acc+1 else K acc):=by grind [Xn]
 have h:=ey hl e a acc (DG c0-1) 1 (Cr _) E (Eu hi a f) E;grind
theorem sJ(c:AU):Em c.toNat=((Hv c:J),(Ik c:J),(DG c:J)):=by grind (splits:=20) [Em,Hv,Ik,DG]
theorem eD(p:I)(a:AU)(b:n<=K bs):∀g j,1<=j->j+g=DG a->J5 (Hv a) (Ik a) ((bs.take n).drop p) g j=KJ bs n p a g j
 |0,j,_,h=>by grind [J5,KJ]
 |g+1,j,h1,h=>by have c:=eD p a b g (j+1) E E;rw[J5,KJ,c];grind [JM,Ls]
def sK(r:AH×AK):Aq:=Af #[Ab Al r.1,Ah r.2]
theorem eE(W:X)(n:I)(d:bs[p]?=H ch)(hb:K bs<=281474976710656)(b:n<=K bs)(c:p<n):Ar As 163 #[Ae ⟨Aw bs⟩,C Y p,C Y n] W λe a=>e=Ak (sK<|MK bs n p ch)/\a=W:=by
 have h:=Xs (s:=⟨Aw bs⟩) (w:=W) b c<|CE hb B8;have e:Hw (FG ⟨Aw bs⟩ p n)=MK bs n p ch:=by grind [FG,Hw,sJ,MK,eD]
 rw[e]at h;exact h
def GY(x:AH):A1 :=
 if x<128 then[AW x]else if x<=255 then 204::CJ x 1 else if x<=65535 then 205::CJ x 2 else if x<=4294967295 then 206::CJ x 4 else 207::CJ x 8
def Hx(z:AI):A1 :=
 if -32<=z then[AW (z%256).toNat]else if -128<=z then 208::CJ (z%18446744073709551616).toNat 1 else if -32768<=z then 209::CJ (z%18446744073709551616).toNat 2 else if -2147483648<=z then 210::CJ (z%18446744073709551616).toNat 4 else 211::CJ (z%18446744073709551616).toNat 8
def Dd(s x:AH):A1 :=
 if x<24 then[AW<|32*s+x]else if x<=255 then AW (32*s+24)::CJ x 1 else if x<=65535 then AW (32*s+25)::CJ x 2 else if x<=4294967295 then AW (32*s+26)::CJ x 4 else AW (32*s+27)::CJ x 8
theorem TM(h:x<256):CP (AW x)=C Am (x:J):=kfb
def EP(x:AH):A1:=if x<32 then[AW<|160+x]else if x<=255 then 217::CJ x 1 else if x<=65535 then 218::CJ x 2 else 219::CJ x 4
def Gq(x:AH):A1:=if x<=255 then 196::CJ x 1 else if x<=65535 then 197::CJ x 2 else 198::CJ x 4
def KK(x:AH):A1:=if x<16 then[AW<|144+x]else if x<=65535 then 220::CJ x 2 else 221::CJ x 4
def KL(x:AH):A1:=if x<16 then[AW<|128+x]else if x<=65535 then 222::CJ x 2 else 223::CJ x 4
def TN{a:A4}{c:I}{b:AU}{u:Aq}(hb:base<=O (U W))(g:W.ownsRow base 5 1 (G a n c) (K bs)<|bs.map CP)(h:CP b=u)(e:W'.ownsRow base 5 1 v' (K bs+1)<|bs.map CP++[u])(d:(Az W<|Obj.cells #[u] 5).grownBy W'<|Ax<|AX a n c):Cn W' base v' (bs++[b])/\Below base W W':=by have f:=ME e h;obtain⟨j,i,rfl⟩:=ownsRow_succ e;refine⟨⟨f,?_,_,_,_,Z⟩,GW ((Cu base W).alloc hb _) (g.alloc _) d B7⟩;have:=d.size;simp at this;omega
def sL(l:A1):strCells ⟨Aw l⟩=l.map CP:=by unfold strCells;simp[CP]
theorem NR{l:A1}(h:Cn W base v bs)(c:W'.ownsRow base 5 1 v' (K bs+(⟨Aw l⟩:AT).size)<|bs.map CP++strCells ⟨Aw l⟩)(d:W.grownBy W'<|Ax v):Cn W' base v' (bs++l)/\Below base W W':=by obtain⟨f,b,_⟩:=h;have a:=GW (Cu base W) f d b;have i:(⟨Aw l⟩:AT).size=K l:=K8 ..;rw[i,sL]at c;refine⟨⟨B9,CE b a.size,?_⟩,a⟩;rcases c.2 with⟨e,_⟩|⟨g,j,k,e,_⟩<;>grind
def Ow(P:AH->Prop)(W:Ap)(base:AH)(v:Aq)(bs:A1):Prop:=Cn W base v bs/\∀e,P e->Ax v≠An e/\e<Au (Av W)
def Be(P:AH->Prop)(base:AH)(W W':Ap):Prop:=Below base W W'/\∀e,P e->W'.heap[e]?=W.heap[e]?
def Be.trans{P:I->Prop}{A B C:X}(h:Be P base A B)(k:Be P base B C):Be P base A C:=⟨Cs h.1 k.1,λe a=>Ca (k.2 e a)<|h.2 e a⟩
def KN(P:AH->Prop)(W:Ap)(base:AH)(bs zs:A1)(e:Ending)(W':Ap):Prop:=∃a n c,e=Ak (Ac a n c)/\Go.RowKit.Hid (Ow P W' base (Ac a n c) (bs++zs)/\Be P base W W')
def Qi(h:Ar As f args W<|KN (λ_=>False) W base bs zs):Ar As f args W λe a=>∃c,e=Ak c/\Cn a base c (bs++zs)/\Below base W a:=Ce h λ_ _ ⟨_,_,_,d,b⟩=>⟨_,d,b.out.1.1,b.out.2.1⟩
def NS(h:Cn W base v bs):Ow (λ_=>False) W base v bs:=⟨h,λ_ h=>h.elim⟩
theorem sM{P:I->Prop}(h:Ow P W base v bs)(a:A0 W V)(c:V.grownBy W'<|Ax v)(d:Cn W' base v' zs/\Below base W W')(i:Ax v'=Ax v\/Ax v'=H (O<|U V)):Ow P W' base v' zs/\Be P base W W':=by
 have j:=a.size;have k:=c.size;refine⟨⟨d.1,λe b=>?_⟩,d.2,λe b=>?_⟩<;>obtain⟨f,g⟩:=h.2 e b
 .grind
 exact Ca (c.block e E λx=>f x.symm)<|Co a e g
theorem EH{P:I->Prop}{A:Act}{c:I}{a:A4}{s x:Operand}(b:AU)(own:D<|Ow P W base (G a n c) bs)(v:CP b=C Am z)(h:∀g f e,D (Ow P e base (G (Aa g) (K bs+1) f) (bs++[b])/\Be P base W e)->wpList As ops Q rest (A.put o.dst<|G (Aa g) (K bs+1) f) e)(hl:K bs<=1000000008:=by omega)(m:o.guard=Ao:=by rfl)(q:o.op=.call {callee:=.builtin .append,args:=#[s,x],argTypes:=#[50,50]}:=by rfl)(t:A.eval s=G a n c:=by rfl)(hx:A.eval x=G (Aa<|O<|U W) 1 1:=by rfl):wpList As ops Q (o::rest) A<|Az W<|M #[C Am z] 5:=by obtain⟨F,p,w,y,B⟩:=DL Tryz.infoU8;obtain⟨d,r⟩:=own.out;refine wpList_append_own_at _ m s x 50 q base 5 F (C Am 0) 1 1 underlying50 p w y B Z B8 _ _ _ t (d.1.alloc _) ⟨O<|U W,0,Ao⟩ 1 1 [C Am z] hx Z (EU) (λu j=>by simp at j;subst j;rfl) Bc E (B0 d.2.1) λN e k i _ l=>?_;have L:=sM ⟨d,r⟩ Cm i (TN d.2.1 d.1 v k i) l;grind [D,ownsRow_succ]
theorem P7{P:I->Prop}{a:A4}{c:I}{b:AU}{w:I}(d:D<|Ow P W base (G a n c) (bs++[b])/\Be P base W0 W)(j:D (zs=b::CJ x w))(r:w<=8:=by decide)(hl:K bs<=999999999:=by omega):Ar As 187 #[G a n c,C .u64 x,C Y w] W<|KN P W0 base bs zs:=by
 have h:D<|(bs++[b])++CJ x w=bs++zs:=by grind [D]
 have q:K (bs++[b])<=1000000000:=B7;clear j;generalize bs++[b]=bt at *;go_enter func187,ntmps187;go_wp2
 go_loopg[0,7] w (λg y z wr=>∃(e:A1) (a n c:_),y=G a n c/\z=C Y ((g:J)-1)/\g<=w/\K e<=1000000000+(w-g)/\D (Ow P wr base (G a n c) e)/\D (Be P base W0 wr)/\D (e++CJ x g=bs++zs))
 exact⟨bt,a,n,c,Z,Bb,Cr _,E,d.1,d.2,h⟩;clear d h;obtain⟨e,a,n,c,rfl,rfl,p,s,d,f,l⟩:=hrel;obtain _|k:=gk
 .go_wp2;go_ret;have k:e=bs++zs:=by grind [D,CJ]
  subst k;exact⟨_,_,_,Z,d,f⟩
 go_wp2_with(first
  |(at_builtin;refine EH _ d (qo) ?_;intro o m t i))
 go_roundg k
 .refine⟨e++[AW<|x/2^(8*k)%256],_,_,_,Z,Bb,E,B9,i.1,f.trans i.2,?_⟩;grind [CJ]
 omega
def P8{P:I->Prop}{a:A4}{c:I}{b:AU}(d:D<|zs=[b])(h:D<|Ow P W' base (G a n c) (bs++[b])/\Be P base W W'):KN P W base bs zs (Ak<|G a n c) W':=⟨_,_,_,rfl,by rw[AE d];exact h⟩
def sN:∀(s:Fin 8) (x:Fin 32),bits .or Am ((s.val:J)*32) (x.val:J)=((32*s.val+x.val:I):J):=B8
theorem RQ{s:I}(x:I)(a:s<8)(hx:x<32):CP (AW<|32*s+x)=C Am (bits .or Am ((s:J)*32) (x:J)):=by rw[TM E];have:=sN ⟨s,a⟩ ⟨x,hx⟩;grind
def sO:∀(s:Fin 3) (x:Fin 32),x.val<16\/s.val=2->bits .or Am (128+16*s.val:I) (x.val:J)=((128+16*s.val+x.val:I):J):=B8
theorem Qj(s:I)(a:s<3)(hx:x<16\/s=2/\x<32):CP (AW<|128+16*s+x)=C Am (bits .or Am (128+16*s:I) (x:J))/\CP (AW<|128+16*s+x)=C Am ((128+16*s:I)+(x:J)):=by rw[TM E];have:=sO ⟨s,a⟩ ⟨x,E⟩ (by simp only[];omega);grind
theorem sP{P:I->Prop}(hx:x<18446744073709551616)(hl:K bs<=999999999)(h:Ow P W base v bs):Ar As 158 #[v,C .u64 x] W<|KN P W base bs<|GY x:=by
 obtain⟨a,n,c,rfl⟩:=h.1.2.2;have d:=T h;clear h;have l:(x<128/\D (GY x=[AW x]))\/(¬x<128/\x<=255/\D (GY x=204::CJ x 1))\/(¬x<128/\¬x<=255/\x<=65535/\D (GY x=205::CJ x 2))\/(¬x<128/\¬x<=255/\¬x<=65535/\x<=4294967295/\D (GY x=206::CJ x 4))\/(¬x<128/\¬x<=255/\¬x<=65535/\¬x<=4294967295/\D (GY x=207::CJ x 8)):=by grind (splits:=25) [GY,D]
 rcases l with⟨f,b⟩|⟨f,g,b⟩|⟨f,g,c2,b⟩|⟨f,g,c2,k,b⟩|⟨f,g,c2,k,b⟩
 all_goals
  go_enter func158,ntmps158
  go_wp2_with(first
   |(at_builtin;(first|refine EH _ d (TM E) ?_|refine EH 204 d rfl ?_|refine EH 205 d rfl ?_|refine EH 206 d rfl ?_|refine EH 207 d rfl ?_);intro q p s i)
   |(go_at_call 187;refine Ce (P7 i b) ?_;rintro e t ⟨m,r,o,rfl,j⟩))
  go_ret
  first|exact⟨_,_,_,rfl,j⟩|exact P8 b i
theorem sQ{P:I->Prop}{a:A4}{c:I}{b:AU}{w:I}(d:D<|Ow P W base (G a n c) (bs++[b])/\Be P base W0 W)(f:D (zs=b::CJ (z%18446744073709551616).toNat w))(g:w<=8:=by decide)(hl:K bs<=999999999:=by omega):Ar As 187 #[G a n c,C .u64 (IntKind.u64.wrap z),C Y w] W<|KN P W0 base bs zs:=by have e:IntKind.u64.wrap z=(((z%18446744073709551616).toNat:I):J):=Bj;grind [P7]
theorem sR{P:I->Prop}(r : -9223372036854775808<=z)(s:z<0)(hl:K bs<=999999999)(h:Ow P W base v bs):Ar As 157 #[v,C Y z] W<|KN P W base bs<|Hx z:=by
 obtain⟨a,n,c,rfl⟩:=h.1.2.2;have d:=T h;clear h;have l:(-32<=z/\D (Hx z=[AW (z%256).toNat]))\/(¬-32<=z /\ -128<=z/\D (Hx z=208::CJ (z%18446744073709551616).toNat 1))\/(¬-32<=z/\¬-128<=z /\ -32768<=z/\D (Hx z=209::CJ (z%18446744073709551616).toNat 2))\/(¬-32<=z/\¬-128<=z/\¬-32768<=z /\ -2147483648<=z/\D (Hx z=210::CJ (z%18446744073709551616).toNat 4))\/(¬-32<=z/\¬-128<=z/\¬-32768<=z/\¬-2147483648<=z/\D (Hx z=211::CJ (z%18446744073709551616).toNat 8)):=by grind (splits:=25) [Hx,D]
 rcases l with⟨f,b⟩|⟨f,g,b⟩|⟨f,g,c2,b⟩|⟨f,g,c2,k,b⟩|⟨f,g,c2,k,b⟩
 all_goals
  go_enter func157,ntmps157
  go_wp2_with(first
   |(at_builtin;(first|refine EH _ d (Ca (TM (x:=(z%256).toNat) E)<|by congr 1;omega) ?_|refine EH 208 d rfl ?_|refine EH 209 d rfl ?_|refine EH 210 d rfl ?_|refine EH 211 d rfl ?_);intro q p u i)
   |(go_at_call 187;refine Ce (sQ i b) ?_;rintro e w ⟨m,t,o,rfl,j⟩))
  go_ret
  first|exact⟨_,_,_,rfl,j⟩|exact P8 b i
theorem eF{P:I->Prop}{s:I}(f:s<8)(hx:x<18446744073709551616)(hl:K bs<=999999999)(h:Ow P W base v bs):Ar As 155 #[v,C Am s,C .u64 x] W<|KN P W base bs<|Dd s x:=by
 obtain⟨a,n,c,rfl⟩:=h.1.2.2;have d:=T h;clear h;have m:(x<24/\D (Dd s x=[AW<|32*s+x]))\/(¬x<24/\x<=255/\D (Dd s x=AW (32*s+24)::CJ x 1))\/(¬x<24/\¬x<=255/\x<=65535/\D (Dd s x=AW (32*s+25)::CJ x 2))\/(¬x<24/\¬x<=255/\¬x<=65535/\x<=4294967295/\D (Dd s x=AW (32*s+26)::CJ x 4))\/(¬x<24/\¬x<=255/\¬x<=65535/\¬x<=4294967295/\D (Dd s x=AW (32*s+27)::CJ x 8)):=by grind (splits:=25) [Dd,D]
 rcases m with⟨g,b⟩|⟨g,i,b⟩|⟨g,i,c2,b⟩|⟨g,i,c2,l,b⟩|⟨g,i,c2,l,b⟩
 all_goals
  go_enter func155,ntmps155
  go_wp2_with(first
   |(at_builtin;(first|refine EH _ d (RQ x f E) ?_|refine EH _ d (RQ 24 f E) ?_|refine EH _ d (RQ 25 f E) ?_|refine EH _ d (RQ 26 f E) ?_|refine EH _ d (RQ 27 f E) ?_);intro r q u j)
   |(go_at_call 187;refine Ce (P7 j b) ?_;rintro e w ⟨o,t,p,rfl,k⟩))
  go_ret
  first|exact⟨_,_,_,rfl,k⟩|exact P8 b j
theorem sS{P:I->Prop}(x:I)(hx:x<4294967296)(hl:K bs<=999999999)(h:Ow P W base v bs):Ar As 188 #[v,C .u64 x] W<|KN P W base bs<|EP x:=by
 obtain⟨a,n,c,rfl⟩:=h.1.2.2;have b:=T h;clear h;have k:(x<32/\D (EP x=[AW<|160+x]))\/(¬x<32/\x<=255/\D (EP x=217::CJ x 1))\/(¬x<32/\¬x<=255/\x<=65535/\D (EP x=218::CJ x 2))\/(¬x<32/\¬x<=255/\¬x<=65535/\D (EP x=219::CJ x 4)):=by grind (splits:=25) [EP,D]
 rcases k with⟨f,d⟩|⟨f,i,d⟩|⟨f,i,c2,d⟩|⟨f,i,c2,d⟩
 all_goals
  go_enter func188,ntmps188
  go_wp2_with(first
   |(at_builtin;(first|refine EH (AW<|160+x) b (Qj 2 B8 E).1 ?_|refine EH (AW<|160+x) b (Qj 2 B8 E).2 ?_|refine EH 217 b rfl ?_|refine EH 218 b rfl ?_|refine EH 219 b rfl ?_);intro p o r g)
   |(go_at_call 187;refine Ce (P7 g d) ?_;rintro e s ⟨l,q,m,rfl,j⟩))
  go_ret
  first|exact⟨_,_,_,rfl,j⟩|exact P8 d g
theorem sU{P:I->Prop}(hx:x<4294967296)(hl:K bs<=999999999)(h:Ow P W base v bs):Ar As 160 #[v,C .u64 x] W<|KN P W base bs<|Gq x:=by
 obtain⟨a,n,c,rfl⟩:=h.1.2.2;have d:=T h;clear h;have k:(x<=255/\D (Gq x=196::CJ x 1))\/(¬x<=255/\x<=65535/\D (Gq x=197::CJ x 2))\/(¬x<=255/\¬x<=65535/\D (Gq x=198::CJ x 4)):=by grind [D,Gq]
 rcases k with⟨g,b⟩|⟨g,j,b⟩|⟨g,j,b⟩
 all_goals
  go_enter func160,ntmps160
  go_wp2_with(first
   |(at_builtin;(first|refine EH 196 d rfl ?_|refine EH 197 d rfl ?_|refine EH 198 d rfl ?_);intro p o r f)
   |(go_at_call 187;refine Ce (P7 f b) ?_;rintro e s ⟨l,q,m,rfl,i⟩))
  go_ret
  first|exact⟨_,_,_,rfl,i⟩|exact P8 b f
theorem sV{P:I->Prop}(hx:x<4294967296)(hl:K bs<=999999999)(h:Ow P W base v bs):Ar As 161 #[v,C Am 144,C Am 220,C .u64 x] W<|KN P W base bs<|KK x:=by
 obtain⟨a,n,c,rfl⟩:=h.1.2.2;have b:=T h;clear h;have k:(x<16/\D (KK x=[AW<|144+x]))\/(¬x<16/\x<=65535/\D (KK x=220::CJ x 2))\/(¬x<16/\¬x<=65535/\D (KK x=221::CJ x 4)):=by grind [D,KK]
 rcases k with⟨g,d⟩|⟨g,j,d⟩|⟨g,j,d⟩
 all_goals
  go_enter func161,ntmps161
  go_wp2_with(first
   |(at_builtin;(first|refine EH (AW<|144+x) b (Qj 1 B8 E).1 ?_|refine EH (AW<|144+x) b (Qj 1 B8 E).2 ?_|refine EH 220 b rfl ?_|refine EH 221 b rfl ?_);intro p o r f)
   |(go_at_call 187;refine Ce (P7 f d) ?_;rintro e s ⟨l,q,m,rfl,i⟩))
  go_ret
  first|exact⟨_,_,_,rfl,i⟩|exact P8 d f
theorem sW{P:I->Prop}(hx:x<4294967296)(hl:K bs<=999999999)(h:Ow P W base v bs):Ar As 161 #[v,C Am 128,C Am 222,C .u64 x] W<|KN P W base bs<|KL x:=by
 obtain⟨a,n,c,rfl⟩:=h.1.2.2;have b:=T h;clear h;have k:(x<16/\D (KL x=[AW<|128+x]))\/(¬x<16/\x<=65535/\D (KL x=222::CJ x 2))\/(¬x<16/\¬x<=65535/\D (KL x=223::CJ x 4)):=by grind [D,KL]
 rcases k with⟨g,d⟩|⟨g,j,d⟩|⟨g,j,d⟩
 all_goals
  go_enter func161,ntmps161
  go_wp2_with(first
   |(at_builtin;(first|refine EH (AW<|128+x) b (Qj 0 B8 E).1 ?_|refine EH (AW<|128+x) b (Qj 0 B8 E).2 ?_|refine EH 222 b rfl ?_|refine EH 223 b rfl ?_);intro p o r f)
   |(go_at_call 187;refine Ce (P7 f d) ?_;rintro e s ⟨l,q,m,rfl,i⟩))
  go_ret
  first|exact⟨_,_,_,rfl,i⟩|exact P8 d f
theorem Il:∀k,K (CJ x k)=k
 |0=>rfl
 |k+1=>by rw[CJ,FN,Il k]
theorem eG{P:I->Prop}{l:A1}(hl:K bs<=999999999)(y:K l<=999999999)(h:Ow P W base v bs):Ar As 156 #[v,Ae ⟨Aw l⟩] W λe g=>∃f,e=Ak f/\Cn g base f (bs++(Dd 3 (K l)++l))/\Be P base W g:=by
 obtain⟨t,o,q,r,s⟩:=DL Tryz.infoU8;have m:Ar As 155 #[v,C Am 3,C .u64<|K l] W<|KN P W base bs<|Dd 3<|K l:=eF B8 E hl h;have w:K (Dd 3<|K l)<=9:=kfU;have A:(⟨Aw l⟩:AT).size=K l:=K8 ..;obtain⟨a,n,c,rfl⟩:=h.1.2.2;go_enter func156,ntmps156
 go_wp2_with(first
  |(go_at_call 155;refine Ce m ?_;rintro e F ⟨u,B,c2,rfl,b⟩)
  |(at_builtin;refine wpList_append_own_string _ Z _ _ 50 9 Z base 5 t underlying50 underlying9 o q r s _ _ _ Z b.1.1.1 ⟨Aw l⟩ Z BC B9 b.1.1.2.1 ?_;intro f L p j z;have d:=T<|NR b.1.1 p j;have k:=T λe i=>j.block e (b.1.2 e i).2 λx=>(b.1.2 e i).1 x.symm))
 go_ret;rw[L9]at d;exact⟨_,Z,d.1,b.2.trans ⟨d.2,k⟩⟩
theorem eH{P:I->Prop}{l:A1}(hl:K bs<=999999999)(y:K l<=999999999)(h:Ow P W base v bs):Ar As 159 #[v,Ae ⟨Aw l⟩] W λe g=>∃f,e=Ak f/\Cn g base f (bs++(EP (K l)++l))/\Be P base W g:=by
 obtain⟨t,o,q,r,s⟩:=DL Tryz.infoU8;have m:=sS (K l) E hl h;have w:K (EP<|K l)<=9:=by grind [EP,Il]
 have A:(⟨Aw l⟩:AT).size=K l:=K8 ..;obtain⟨a,n,c,rfl⟩:=h.1.2.2;go_enter func159,ntmps159
 go_wp2_with(first
  |(go_at_call 188;refine Ce m ?_;rintro e F ⟨u,B,c2,rfl,b⟩)
  |(at_builtin;refine wpList_append_own_string _ Z _ _ 50 9 Z base 5 t underlying50 underlying9 o q r s _ _ _ Z b.1.1.1 ⟨Aw l⟩ Z BC B9 b.1.1.2.1 ?_;intro f L p j z;have d:=T<|NR b.1.1 p j;have k:=T λe i=>j.block e (b.1.2 e i).2 λx=>(b.1.2 e i).1 x.symm))
 go_ret;rw[L9]at d;exact⟨_,Z,d.1,b.2.trans ⟨d.2,k⟩⟩
def sX(x:I)(hx:x<18446744073709551616)(hl:K bs<=999999999)(h:Cn W base v bs):Ar As 158 #[v,C .u64 x] W λe a=>∃b,e=Ak b/\Cn a base b (bs++(GY x))/\Below base W a:=Qi<|sP hx hl<|NS h
def sY(c : -9223372036854775808<=z)(d:z<0)(hl:K bs<=999999999)(h:Cn W base v bs):Ar As 157 #[v,C Y z] W λe a=>∃b,e=Ak b/\Cn a base b (bs++(Hx z))/\Below base W a:=Qi<|sR c d hl<|NS h
def NT(s x:I)(c:s<8)(hx:x<18446744073709551616)(hl:K bs<=999999999)(h:Cn W base v bs):Ar As 155 #[v,C Am s,C .u64 x] W λe a=>∃b,e=Ak b/\Cn a base b (bs++(Dd s x))/\Below base W a:=Qi<|eF c hx hl<|NS h
def sZ(x:I)(hx:x<4294967296)(hl:K bs<=999999999)(h:Cn W base v bs):Ar As 160 #[v,C .u64 x] W λe a=>∃b,e=Ak b/\Cn a base b (bs++(Gq x))/\Below base W a:=Qi<|sU hx hl<|NS h
def t8(x:I)(hx:x<4294967296)(hl:K bs<=999999999)(h:Cn W base v bs):Ar As 161 #[v,C Am 144,C Am 220,C .u64 x] W λe a=>∃b,e=Ak b/\Cn a base b (bs++(KK x))/\Below base W a:=Qi<|sV hx hl<|NS h
def t9(x:I)(hx:x<4294967296)(hl:K bs<=999999999)(h:Cn W base v bs):Ar As 161 #[v,C Am 128,C Am 222,C .u64 x] W λe a=>∃b,e=Ak b/\Cn a base b (bs++(KL x))/\Below base W a:=Qi<|sW hx hl<|NS h
def td{l:A1}(hl:K bs<=999999999)(f:K l<=999999999)(h:Cn W base v bs):Ar As 156 #[v,Ae ⟨Aw l⟩] W λe a=>∃b,e=Ak b/\Cn a base b (bs++(Dd 3 (K l)++l))/\Below base W a:=Ce (eG hl f<|NS h) λ_ _ ⟨v,d,g,c⟩=>⟨v,d,g,c.1⟩
def te{l:A1}(hl:K bs<=999999999)(f:K l<=999999999)(h:Cn W base v bs):Ar As 159 #[v,Ae ⟨Aw l⟩] W λe a=>∃b,e=Ak b/\Cn a base b (bs++(EP (K l)++l))/\Below base W a:=Ce (eH hl f<|NS h) λ_ _ ⟨v,d,g,c⟩=>⟨v,d,g,c.1⟩
def ML(h:Cn W b v bs)(f:A0 W W'):Cn W' b v bs:=by
 obtain⟨⟨k,e⟩,l,m⟩:=h;refine⟨⟨k,?_⟩,CE l f.size,m⟩;rcases e with e|⟨g,i,j,a,b,c,d⟩
 .exact AF e
 exact AG ⟨g,i,j,a,b,Ca (Co f _<|Cd c) c,d⟩
structure JN(W:Ap)(A:A3)(v:Aq)(acc:A1)(V:Ap):Prop where
 h:V.heap[Au (Av W)]?=An (Aj A 115)
 a:V.heap[Au (Av W)+1]?=An (Aj (Cf (0,0)) 103)
 a2:Cn V (Au (Av W)+2) v acc
 ac:A0 W V
theorem JN.next(h:JN W A v acc V)(hb:A0 V V'):JN W A v acc V' :=
 ⟨Ca (Co hb _<|Cd h.h) h.h,Ca (Co hb _<|Cd h.a) h.a,ML h.a2 hb,Cs h.ac<|CG hb h.ac.size⟩
theorem JN.drew(h:JN W A v acc V):JN W A v acc V.drew:=⟨h.h,h.a,h.a2,h.ac.drew⟩
def JN.a3(h:JN W A v acc V)(a:V.grownBy V'<|Ax v)(d:Cn V' (O (U W)+2) v' acc'):JN W A v' acc' V':=by
 have b:∀k,k<O (U W)+2->H k≠Ax v:=λk f e=>AY<|DK h.a2.1 e.symm;exact⟨Ca (a.block _ (Cd h.h)<|b _ E) h.h,Ca (a.block _ (Cd h.a)<|b _ E) h.a,d,
  Cs h.ac ⟨a.os,a.tape,a.output,a.size,λi c=>a.block i (CQ c h.ac.size)<|b _ E⟩⟩
def KO{f:J×J}:A0 V<|(Az V<|M (Cf (0,0)) 103).setRow (O<|U V)<|Cf f:=Dq Cm<|Cr _
def JN.ai(h:JN W A v acc V)(g:J×J):(AD V (O (U W)+1)<|Cf g).heap[O (U W)+1]?=H (M (Cf g) 103)/\A0 W (AD V (O (U W)+1)<|Cf g) :=
 ⟨CR _ _ _ _ _ _ h.a,Dq h.ac E⟩
def tj:JN W A (G Ao 0 0) [] (Az (Az W<|M A 115)<|M (Cf (0,0)) 103) :=
 ⟨(OV).h,(OV).a,⟨Fi _ _ _ _,Ba,Ao,0,0,rfl⟩,(OV).ac⟩
def NU(r:A5 A1)(e:Ending):Prop:=match r with
 |.ok (x,q)=>e=Ak (Af #[Ae ⟨Aw x⟩,Ab Al q,.agg<|Cf (0,0)])
 |.error f=>e=Ak (Af #[Ae ⟨#[]⟩,Ab Al 0,.agg<|Cf f])
def eI(hl:Lm bs l lim)(e:k<K bs)(f:(k:J)<lim):min (K bs:J) l=min (K bs:J) lim:=by
 have a:=hl (K bs-1) E;by_cases b:l<K bs
 .have c:=hl l.toNat E;have d:=hl (l.toNat-1) E;omega
 omega
theorem Xt(bs:A1)(p j:I):(⟨Aw bs⟩:AT).extract p (p+j)=⟨Aw<|DB bs p j⟩:=by apply ByteArray.ext;grind [Lib.extract_data,DB]
theorem Xu{l:A1}(h:Cn W b v l)(hl:0<K l):∃g a,v=G (Aa g) (K l) a:=by rcases h.1.2 with⟨_,d⟩|⟨g,a,c,e,_⟩<;>grind
def tm{l:A1}(h:Cn W b (G (Aa g) (K l) cap) l):∀j u,(l.map CP)[j]?=H u->AC W ((⟨g,0,Ao⟩:Addr).add j)=H u:=h.1.cells (g:=g) rfl
theorem tn{l:A1}(h:Cn W base v bs)(b:W'.ownsRow base 5 1 v' (K bs+K l)<|bs.map CP++l.map CP)(a:W.grownBy W'<|Ax v):Cn W' base v'<|bs++l:=by refine⟨B9,CE h.2.1 a.size,?_⟩;rcases b.2 with⟨e,_⟩|⟨g,c,d,e,_⟩<;>grind
def tp{l:A1}:∀u∈l.map CP,u.oneCell'=AP:=λu a=>by obtain⟨b,_,rfl⟩:=Kw.1 a;rfl
theorem tq(r:J):0<K (Ez r):=kfd
theorem eJ{r:J}(hi:Cx bs lim p)(h:I9 bs lim p=.ok (r,q)):Cx bs lim q/\p<q:=by
 unfold I9 at h;rcases hc:bs[p]? with _|c
 .rw[hc]at h;cases h
 rw[hc]at h;simp only[]at h;by_cases b:(p:J)=lim
 .grind
 rw[Cl b]at h;have e:=Eu hi hc b
 repeat' split at h
 all_goals first
  |(cases h;done)
  |(injection h with h;grind)
  |skip
 rename_i hu;unfold IK at h;rcases h1:Ef bs lim 4 (p+1) 0 with f|x
 .rw[h1]at h;cases h
 obtain⟨x,q1⟩:=x;obtain⟨l,g,_⟩:=RM 4 _ 0 x q1 e h1;rw[h1]at h;simp only[]at h;split at h
 .cases h
 split at h
 .rcases h2:Dt bs lim [92,117] q1 with f|k
  .rw[h2]at h;cases h
  obtain⟨u,a⟩:=k;obtain⟨d,i⟩:=RN _ q1 a g h2;have m:a=q1+2:=d;rw[h2]at h;simp only[]at h;rcases h3:Ef bs lim 4 a 0 with f|y
  .rw[h3]at h;cases h
  obtain⟨y,j⟩:=y;obtain⟨n,o,_⟩:=RM 4 a 0 y j i h3;grind
 grind
theorem eK(r:J):K (Ez r)<=4:=kfd
def eM(W:X)(fm d:J)(hl:Lm bs l lim)(hi:Cx bs lim<|i+1)(hb:K bs<=281474976710656)(bq:lim<=200000000):Ar As 128 #[.agg<|Ct bs fm d l,C Y i] W λe W'=>NU (DA bs lim (K bs+1-(i+1)) (i+1) [] 0) e/\A0 W W':=by
 obtain⟨i0,a8,bd,be,bf⟩:=DL Tryz.infoU8;obtain⟨a2,y⟩:=CC<|DA bs lim (K bs+1-(i+1)) (i+1) [] 0;rw[AE y];have b2:=hi.1;have b9:=NI bs;have a:=T hl;have B:=T hi;have cH:=NK bs fm d l;have cB:=OW bs fm d l;have cE:∀V (k:I),Cx bs lim k->Ar _ _ #[Ag #[.string _,.int _ fm,.int _ d,.int _ l],.int _ k] V _:=λV k hk=>sr V fm d hl hk hb;unfold Ct;go_enter func128,ntmps128;go_wp2
 go_loopg[1,7] (K bs+1-(i+1)) (λg bz bx wr=>∃(k:I) (v:A1) (ak:A4) (ao al:I),bz=C Y k/\bx=G ak ao al/\D (K bs+1<=k+g)/\D (K v<=4*k)/\D (JN W (Ct bs fm d l) (G ak ao al) v wr)/\D (Cx bs lim k)/\D (DA bs lim g k v (K v)=a2))
 exact⟨i+1,[],Ao,0,0,Z,Z,Bp,Ex _,tj,B,y⟩;obtain⟨k,v,ak,ao,al,rfl,rfl,hg,ha,n,B,y⟩:=hrel;have bp:=B.1;obtain⟨g,rfl⟩:∃g,gk=g+1:=⟨gk-1,AY<|AE hg⟩
 obtain⟨u,w,c2,A⟩:=Eb n.h;have P:=λV=>cH V k;have ah:=λV=>cB V k 9;have o:=AE y;rw[DA]at o;by_cases am:a2=.error (D5 bs l k 9)/\(CN bs l k=AQ\/CN bs l k=AP/\∃p,bs[k]?=H p/\p.toNat<32)
 .obtain⟨hE,hw⟩:=am;have b:=T hE;generalize D5 bs l k 9=F at *;generalize CN bs l k=hh at *;rcases hw with rfl|⟨rfl,p,m,x⟩
  all_goals
   try have bo:=λV=>Et m V
   try have ba:=Dk m
   try have bk:(p.toNat:J)<32:=E
   try clear m x
   go_wp2_with(first
    |(go_at_call 116;apply Ec (P _) n.next λ_ h=>h.h;intro w2 t u w c2 A)
    |(go_at_call 84;apply Ec (ah _) t.next λ_ h=>h.h;intro Q z u w c2 A)
    |(refine Fb 6 29 Z Z (O (U W)+1) F Z Z ?_ ?_;exact z.a))
   have L:=z.ai F;refine Ij results128 L (.string _) (.int _ 0) Z Z Z Z ⟨?_,L.2⟩;rw[AE b];rfl
 obtain⟨p,m,s,x⟩:∃p,bs[k]?=H p/\¬k=lim/\¬p.toNat<32:=by
  rcases Rz (bs:=bs) (lim:=lim) k with(m|⟨p,m,s⟩)|⟨p,m,s⟩<;>rw[m]at o<;>simp only[]at o
  .exact absurd ⟨by rw[<-o,IM bp m],AF<|Ic m⟩ am
  .rw[Cp s]at o;exact absurd ⟨by rw[<-o,Gk a m s],AF<|Hr a m s⟩ am
  refine⟨p,m,s,λx=>am ⟨?_,AG ⟨J4 a B m s,p,m,x⟩⟩⟩;rw[Cl s,Cl E,Cl E,Cp x]at o;rw[<-o,Id a B m s]
 rw[m]at o;simp only[]at o;have bo:=λV=>Et m V;have ba:=Dk m;rw[Cl s]at o;rw[J4 a B m s]at P;have bk:AR ((p.toNat:J)<32)=AQ:=B7;have ca:32<=(p.toNat:J):=E;by_cases f:p.toNat=34
 .rw[Cp ⟨f,trivial⟩]at o;have b:=T o.symm;have bu:((p.toNat:J)==34)=AP:=kf9;have bn:∀V,JN W (Ct bs fm d l) _ v V->(convert 50 9<|G ak ao al).run _ V=.ok _ V:=λV h=>Rs h.a2
  go_wp2_with(first
   |(go_at_call 116;apply Ec (P _) n.next λ_ h=>h.h;intro w2 t u w c2 A;have b1:=bn _ t)
   |(refine Fb 6 73 Z Z (O (U W)+1) (0,0) Z Z ?_ ?_;exact t.a))
  have L:=t.ai (0,0);refine Ij results128 L (.string _) (.int _ _) Z Z Z Z ⟨?_,L.2⟩;rw[AE b];rfl
 rw[Cl λh=>f h.1]at o;have bu:((p.toNat:J)==34)=AQ:=B7;by_cases aa:p.toNat=92
 .rw[Cp ⟨aa,trivial⟩]at o;have bv:((p.toNat:J)==92)=AP:=by rw[aa];rfl
  have ad:=λV=>cE V _<|Eu B m s;rw[show(k+1:I)=(k:J)+1 by omega]at ad;have a7:=λr q h=>eJ (r:=r) (q:=q) (Eu B m s) h;have bm:=λae=>Xd bs lim (k+1) ae;rcases hes:I9 bs lim (k+1)with ae|bw
  .rw[hes]at o ad;have b:=T o.symm;have b6:(ae.1==0)=AQ:=B2<|Xd bs lim _ _ _ hes
   go_wp2_with(first
    |(go_at_call 116;apply Ec (P _) n.next λ_ h=>h.h;intro w2 t u w c2 A)
    |(go_at_call 162;apply (ad _).mono;rintro e Q ⟨he,au⟩;obtain rfl:=he;have z:=T<|t.next au)
    |(refine Fb 10 83 Z Z (O<|U Q) (ae) Z Z ?_ ?_;exact Cj Q;apply FA;intro V4 R;have N:=T<|R▸z.next (KO);have HM:=T<|R▸CR _ _ _ _ _ _ (Cj _);have a1:=T<|Cd z.a;generalize O (U Q)=M at *;have u0:=Cc HM 0;unfold Cf at u0))
   apply Dl (S:=λa3=>A7 a3 M _ 103) (HM) B6;intro hS;refine Cb 1 4 (Ae ⟨#[]⟩) hS <| Cb 2 5 (C Y 0) hS <| Ch 0 87 _ Z (λa3 hZ=>yF 10 hZ Z Z) hS <| CH 3 λb0 hK=>?_;rw[Cp B6];refine Je 103 _ _ Z (O (U W)+1) (Cf ae) Z Z 103 (Cf (0,0)) N.drew.a (KE) Z (Qc) ?_;refine hK.out _ _ (sx (AY<|AE a1) hS) λ_=>?_;refine CK ?_;go_simp;go_wp2;have L:=N.drew.ai<|ae;refine Ij results128 L (.string _) (.int _ 0) Z Z Z Z ⟨?_,L.2⟩;rw[AE b];rfl
  obtain⟨r,q⟩:=bw;rw[hes]at o ad;have HN:=T o;obtain⟨bc,bb⟩:=a7 r q hes;have bj:=T bc;have a0:=T bb;have b8:=eK r;have bt:=tq r;have bl:K v<=800000000:=B3 (AE ha) B.2;clear o m cB cH cE y s x f aa a7 bm hes bc bb
  go_wp2_with(first
   |(go_at_call 116;apply Ec (P _) n.next λ_ h=>h.h;clear P u w c2 A;intro w2 t u w c2 A)
   |(go_at_call 162;apply (ad _).mono;clear ad u w c2 A;rintro e Q ⟨he,au⟩;obtain⟨cb,rfl,hO⟩:=he;obtain⟨vg,vc,rfl⟩:=Xu hO bt;have bh:=T hO;clear hO;have z:=T<|t.next au)
   |(refine Fb 10 83 Z Z (O<|U Q) (0,0) Z Z ?_ ?_;exact Cj Q;apply FA;intro V4 R;have N:=T<|R▸z.next (KO);have HM:=T<|R▸CR _ _ _ _ _ _ (Cj _);have bi:=T<|R▸ML bh (KO);have a1:=T<|Cd z.a;clear R;generalize O (U Q)=M at *;have u0:=Cc HM 0;unfold Cf at u0)
   |(at_builtin;(apply K7 _ Z _ _ 50 Z _ 5 i0 _ 1 1 underlying50 a8 bd be bf Z B8 _ _ _ Z N.a2.1 _ _ vc _ Z Ba (tm bi) (tp) Bc E N.a2.2.1);intro v' w5 ag ab ay;clear ay;have c:=tn N.a2 ag ab;obtain⟨a5,n5,c5,rfl⟩:=c.2.2;have aq:=T<|N.a3 ab c;clear ag ab c))
  go_roundg g;exact⟨q,_,a5,n5,c5,Z,Z,by show _<=_;have:=AE hg;have:=AE a0;omega,by show _<=_;rw[Dj];have:=AE ha;have:=AE a0;omega,aq,bj,HN⟩;omega
 rw[Cl λh=>aa h.1]at o;have bv:((p.toNat:J)==92)=AQ:=B7;have ax:k<lim:=AY B.2;have br:=eI a ba ax;obtain⟨nn,an⟩:∃nn:I,nn=min (K bs:J) lim:=⟨(min (K bs:J) lim).toNat,E⟩
 have af:=sA a an B m s f aa x v hg.out;rw[AE y]at af;rw[<-an]at br;have cG:=λV=>eE V nn m hb E E;have b7:nn<=K bs:=E;have a4:=cB;obtain⟨j,ar,av⟩:∃j ar,MK bs nn k p=(j,ar):=⟨_,_,rfl⟩
 rw[av]at af cG;cases ar
 .simp only[]at af;obtain⟨ac,aj⟩:=af;have b:=T aj;have ah:=λV=>cB V (k+j) 9;rw[show(k+j:I)=k+(j:J) by omega]at ah;have a9:=ac.1;generalize D5 bs l (k+j) 9=xx at *;clear o m cB a4 cH cE y s x f aa an av ac aj ax ha;have ai:∀V,Ar _ _ _ V λe W'=>e=Ak (Af #[.int _ j,Ah AQ])/\W'=V:=cG;clear cG
  go_wp2_with(first
   |(go_at_call 116;apply Ec (P _) n.next λ_ h=>h.h;clear P u w c2 A;intro w2 t u w c2 A)
   |(go_at_call 163;apply (ai _).mono;clear ai;rintro e Q ⟨rfl,az⟩;subst az)
   |(go_at_call 84;apply Ec (ah _) t.next λ_ h=>h.h;clear ah u w c2 A;intro w4 N u w c2 A)
   |(refine Fb 6 54 Z Z (O (U W)+1) (xx) Z Z ?_ ?_;exact N.a))
  have L:=N.ai<|xx;refine Ij results128 L (.string _) (.int _ 0) Z Z Z Z ⟨?_,L.2⟩;rw[AE b];rfl
 simp only[]at af;obtain⟨b3,ac,b4,aj⟩:=af;have HN:=T aj.symm;have bg:=T ac;have a9:=ac.1;have b5:=Int.le_trans ac.2 bq;have aw:=TL a9;have ap:D<|(⟨Aw bs⟩:AT).extract (k:J).toNat (k+(j:J)).toNat=⟨Aw<|DB bs k j⟩:=by show _=_;rw[show(k:J).toNat=k by omega,show(k+(j:J)).toNat=k+j by omega];exact Xt bs k j
 have a6:=NI<|DB bs k j;have bl:K v<=800000000:=B3 (AE ha) B.2;clear o m cB a4 cH cE y s x f aa an av ac aj ax;have ai:∀V,Ar _ _ _ V λe W'=>e=Ak (Af #[.int _ j,Ah AP])/\W'=V:=cG;clear cG
 go_wp2_with(first
  |(go_at_call 116;apply Ec (P _) n.next λ_ h=>h.h;clear P u w c2 A;intro w2 t u w c2 A)
  |(go_at_call 163;apply (ai _).mono;clear ai;rintro e Q ⟨rfl,az⟩;subst az)
  |(at_builtin;(apply wpList_append_own_string _ Z _ _ 50 9 Z _ 5 i0 underlying50 underlying9 a8 bd be bf _ _ _ Z t.a2.1 ((⟨_⟩:AT).extract (k:J).toNat (k+(j:J)).toNat) Z (by rw[AE ap,a6,aw];unfold maxLen;omega) (by rw[AE ap,a6,aw];omega) t.a2.2.1);intro v' w5 ag ab ay;clear ay;rw[AE ap]at ag;obtain⟨c,_⟩:=NR t.a2 ag ab;obtain⟨a5,n5,c5,rfl⟩:=c.2.2;have aq:=T<|t.a3 ab c;clear ag ab c))
 go_roundg (g+1-j);exact⟨_,_,a5,n5,c5,Bb,Z,by show _<=_;have:=AE hg;omega,by show _<=_;rw[Dj,aw];have:=AE ha;omega,aq,bg,HN⟩;omega
def JO(m:AK)(r:A5 AH):A5 AI:=match r with
 |.ok (x,p)=>.ok (if m=AP then -(x:AI)else(x:AI),p)
 |.error e=>.error e
def JP(bs:A1)(lim:AI)(r:A5 AI)(e:Ending):Prop:=∃r',GH bs lim r r'/\(∀z q,r'=.ok (z,q)->Cx bs lim q /\ -9223372036854775808<=z/\z<=9223372036854775807)/\de r' e
def Xv{m:AK}{R:A5 I}{f:J×J}(h:R=.error f):JP bs lim (JO m R)<|Ak<|Af #[.agg Cv,C Y 0,.agg<|Cf f]:=⟨.error f,AF keS,(λz q e=>keC),rfl⟩
theorem eN{m:AK}{R:A5 I}(h:R=.ok (num,k))(hi:Cx bs lim k)(a:z=if m=AP then -(num:J)else(num:J))(b : -9223372036854775808<=z)(c:z<=9223372036854775807):JP bs lim (JO m R) (Ak<|Af #[.agg<|Cg 3 z ⟨#[]⟩ Cq Cq,C Y k,.agg<|Cf (0,0)]) :=
 ⟨.ok (z,k),AF<|by rw[h,a];rfl,(λd q e=>B9),rfl⟩
def tr{m:AK}{R:A5 I}(h:R=.error (8,(k:J)))(d:(k:J)=lim)(c:k<K bs)(a : -9223372036854775808<=z)(b:z<=9223372036854775807):JP bs lim (JO m R) (Ak<|Af #[.agg<|Cg 3 z ⟨#[]⟩ Cq Cq,C Y k,.agg<|Cf (0,0)]) :=
 ⟨.ok (z,k),AG ⟨k,keS,d,c,_,rfl⟩,(λf q e=>by injection e with e;injection e with e1 e2;subst e1;subst e2;exact⟨⟨E,E⟩,a,b⟩),Z⟩
theorem TO(h:CN bs l p=AQ):GG bs l p=AQ:=by grind [CN,GG]
theorem ts(z:AK)(b:k<=K bs):Ee bs lim most z (K bs+1-k) k num=match bs[k]? with
  |none=>.ok (num,k)
  |some c=>if(k:J)=lim then .error (8,(k:J))else
   if Ey c=AP then(if z=AP then .error (9,(k:J))else if(most-(c.toNat-48))/10<num then .error (10,(k:J))else Ee bs lim most z (K bs+1-(k+1)) (k+1) (num*10+(c.toNat-48)))
   else if c.toNat=46\/c.toNat=101\/c.toNat=69 then .error (10,(k:J))else .ok (num,k):=by
 obtain⟨g,a⟩:∃g,K bs+1-k=g+1:=⟨K bs-k,E⟩
 grind [Ee]
theorem eO(hl:Lm bs l lim)(hi:Cx bs lim p)(h:bs[p]?=H c)(e:¬(p:J)=lim):GG bs l p=Ey c:=by have a:=Dk h;have b:=hl p a;have d:=hi.2;grind [GG]
def tu(f:bs[i]?=H c)(r:c.toNat=45)(hb:K bs<=281474976710656){x:J×J}(o:GG bs l (i+1)=AQ)(p:D5 bs l (i+1) 9=x):Ar As 130 #[.agg<|Ct bs fm d l,C Y i] W λe b=>de (.error x) e/\A0 W b:=by
 have v:=Dk f;have w:=Et f;have u:((c.toNat:J)==45)=AP:=by rw[r];rfl
 have n:∀V,Ar _ _ #[.agg _,.int _<|i+1] V _:=λV=>by have:=d8 V bs fm d l (i:=(i+1));rw[o]at this;exact this
 have m:∀V,Ar _ 84 #[.agg _,.int _<|i+1,.int _ 9] V λe b=>e=Ak (.agg<|Cf x)/\Below _ V b:=λV=>by have:=M1 V bs fm d l (i+1) 9;rw[p]at this;exact this
 have s:=Ll W bs fm d l;clear f r o p;unfold Ct;go_enter func130,ntmps130
 go_wp2_with(first
  |(go_at_call 165;apply Ec (n _) s.next λ_ h=>h.h;clear n;intro z t g j c2 k)
  |(go_at_call 84;apply Ec (m _) t.next λ_ h=>h.h;clear m g j c2 k;intro A a g j c2 k)
  |((with_reducible refine RB 4 (y:=23) rfl rfl (O (U W)+1) (Cv) ?_ ?_ ?_ ?_ ?_);exact Z;exact Z;exact a.b;exact thg)
  |((with_reducible refine Fb 6 26 rfl rfl (O (U W)+2) (x) ?_ ?_ ?_ ?_);exact Z;exact Z;exact Gl a CT))
 have q:=EO a CT (Cv)<|x;refine F4 results130 q _ Z Z Z Z ⟨?_,q.2.2⟩;rfl
def tw(bs:A1)(l lim:AI)(m:AK)(B f k num:AH)(ch:AU)(R:A5 AH):Prop :=
 (GG bs l k=AQ/\CN bs l k=AQ/\(∀z:AI,z=(if m=AP then -(num:AI)else(num:AI)) -> -9223372036854775808<=z->z<=9223372036854775807->JP bs lim (JO m R) (Ak<|Af #[.agg<|Cg 3 z ⟨#[]⟩ Cq Cq,Ab Al k,.agg<|Cf (0,0)])))\/(GG bs l k=AQ/\CN bs l k=AP/\∃cc,bs[k]?=An cc/\((cc.toNat:AI)==46)=AQ/\((cc.toNat:AI)==101)=AQ/\((cc.toNat:AI)==69)=AQ/\(∀z:AI,z=(if m=AP then -(num:AI)else(num:AI)) -> -9223372036854775808<=z->z<=9223372036854775807->JP bs lim (JO m R) (Ak<|Af #[.agg<|Cg 3 z ⟨#[]⟩ Cq Cq,Ab Al k,.agg<|Cf (0,0)])))\/(GG bs l k=AQ/\CN bs l k=AP/\∃cc,bs[k]?=An cc/\((cc.toNat:AI)==46)=AP/\D5 bs l k 10=(10,(k:AI))/\JP bs lim (JO m R) (Ak<|Af #[.agg Cv,Ab Al 0,.agg<|Cf (10,(k:AI))]))\/(GG bs l k=AQ/\CN bs l k=AP/\∃cc,bs[k]?=An cc/\((cc.toNat:AI)==46)=AQ/\((cc.toNat:AI)==101)=AP/\D5 bs l k 10=(10,(k:AI))/\JP bs lim (JO m R) (Ak<|Af #[.agg Cv,Ab Al 0,.agg<|Cf (10,(k:AI))]))\/(GG bs l k=AQ/\CN bs l k=AP/\∃cc,bs[k]?=An cc/\((cc.toNat:AI)==46)=AQ/\((cc.toNat:AI)==101)=AQ/\((cc.toNat:AI)==69)=AP/\D5 bs l k 10=(10,(k:AI))/\JP bs lim (JO m R) (Ak<|Af #[.agg Cv,Ab Al 0,.agg<|Cf (10,(k:AI))]))\/(GG bs l k=AP/\∃cc,bs[k]?=An cc/\48<=(cc.toNat:AI)/\(cc.toNat:AI)<=57/\(f:AI)<(k:AI)/\((ch.toNat:AI)==48)=AP/\D5 bs l k 9=(9,(k:AI))/\JP bs lim (JO m R) (Ak<|Af #[.agg Cv,Ab Al 0,.agg<|Cf (9,(k:AI))]))\/(GG bs l k=AP/\∃cc,bs[k]?=An cc/\48<=(cc.toNat:AI)/\(cc.toNat:AI)<=57/\(f:AI)<(k:AI)/\((ch.toNat:AI)==48)=AQ /\ -(num:AI)<(-9223372036854775808+((cc.toNat:AI)-48)).tdiv 10/\D5 bs l k 10=(10,(k:AI))/\JP bs lim (JO m R) (Ak<|Af #[.agg Cv,Ab Al 0,.agg<|Cf (10,(k:AI))]))\/(GG bs l k=AP/\∃cc,bs[k]?=An cc/\48<=(cc.toNat:AI)/\(cc.toNat:AI)<=57/\(f:AI)<(k:AI)/\((ch.toNat:AI)==48)=AQ/\¬-(num:AI)<(-9223372036854775808+((cc.toNat:AI)-48)).tdiv 10/\m=AQ/\(-(num:AI)*10-((cc.toNat:AI)-48) == -9223372036854775808)=AP /\ -9223372036854775808 <= -(num:AI)*10 /\ -9223372036854775808 <= -(num:AI)*10-((cc.toNat:AI)-48)/\D5 bs l k 10=(10,(k:AI))/\JP bs lim (JO m R) (Ak<|Af #[.agg Cv,Ab Al 0,.agg<|Cf (10,(k:AI))]))\/(GG bs l k=AP/\∃cc,bs[k]?=An cc/\48<=(cc.toNat:AI)/\(cc.toNat:AI)<=57/\AR ((f:AI)<(k:AI))=AQ/\(k:AI)<=(f:AI)/\¬-(num:AI)<(-9223372036854775808+((cc.toNat:AI)-48)).tdiv 10 /\ -9223372036854775808 <= -(num:AI)*10 /\ -9223372036854775808 <= -(num:AI)*10-((cc.toNat:AI)-48)/\(m=AQ->(-(num:AI)*10-((cc.toNat:AI)-48) == -9223372036854775808)=AQ)/\num*10+(cc.toNat-48)<=B/\Cx bs lim (k+1)/\Ee bs lim B (ch.toNat==48) (At bs+1-(k+1)) (k+1) (num*10+(cc.toNat-48))=R)\/(GG bs l k=AP/\∃cc,bs[k]?=An cc/\48<=(cc.toNat:AI)/\(cc.toNat:AI)<=57/\(f:AI)<(k:AI)/\((ch.toNat:AI)==48)=AQ/\¬-(num:AI)<(-9223372036854775808+((cc.toNat:AI)-48)).tdiv 10 /\ -9223372036854775808 <= -(num:AI)*10 /\ -9223372036854775808 <= -(num:AI)*10-((cc.toNat:AI)-48)/\(m=AQ->(-(num:AI)*10-((cc.toNat:AI)-48) == -9223372036854775808)=AQ)/\num*10+(cc.toNat-48)<=B/\Cx bs lim (k+1)/\Ee bs lim B (ch.toNat==48) (At bs+1-(k+1)) (k+1) (num*10+(cc.toNat-48))=R)
theorem tA{m:AK}{f:I}{R:A5 I}(v:(m=AP/\B=9223372036854775808)\/(m=AQ/\B=9223372036854775807))(hn:num<=B)(hl:Lm bs l lim)(hi:Cx bs lim k)(L:bs[f]?=H ch)(hd:Ey ch=AP)(P:¬(f:J)=lim)(ab:f<=k)(hR:Ee bs lim B (ch.toNat==48) (K bs+1-(f+1)) (f+1) (ch.toNat-48)=R)(S:(k=f/\num=0)\/(f<k/\Ee bs lim B (ch.toNat==48) (K bs+1-k) k num=R)):tw bs l lim m B f k num ch R:=by
 have ac:k=f->bs[k]?=H ch:=λh=>by rw[h];exact L
 have j:¬k=f->R=_:=λh=>by
  rcases S with b|b
  .omega
  exact b.2.symm.trans<|ts _ hi.1
 rcases hck:bs[k]? with _|a
 .have d:=j λh=>B9;rw[hck]at d;exact AF ⟨TO<|Ic hck,Ic hck,λz h b n=>eN d hi h b n⟩
 rw[hck]at j;simp only[]at j;by_cases g:(k:J)=lim
 .have d:=j λh=>P (by rw[<-h];exact g);rw[Cp g]at d;exact AF ⟨TO<|Hr hl hck g,Hr hl hck g,λz h b n=>tr d g (Dk hck) b n⟩
 have i:=eO hl hi hck g;have p:=λe=>Id hl hi hck g e;have t:=J4 hl hi hck g;rw[Cl g]at j;cases c:Ey a
 .have d:=j λh=>B9;rw[Cl<|by rw[c];decide]at d;by_cases y:a.toNat=46\/a.toNat=101\/a.toNat=69
  .rw[Cp y]at d;have q:=Xv (bs:=bs) (lim:=lim) (m:=m) d;by_cases aa:a.toNat=46
   .exact AG<|AG<|AF ⟨Ca i c,t,a,hck,B7,p 10,q⟩
   by_cases W:a.toNat=101
   .exact AG<|AG<|AG<|AF ⟨Ca i c,t,a,hck,B7,B7,p 10,q⟩
   exact AG<|AG<|AG<|AG<|AF ⟨Ca i c,t,a,hck,B7,B7,B7,p 10,q⟩
  rw[Cl y]at d;exact AG<|AF ⟨Ca i c,t,a,hck,B7,B7,B7,λz h b n=>eN d hi h b n⟩
 rw[Cp c]at j;obtain⟨r,s⟩:=Dr (by unfold Ey at c;exact c);have u:=qO num (a.toNat-48) E;rw[show(a.toNat-48:I)=(a.toNat:J)-48 by omega]at u;by_cases F:f<k/\ch.toNat=48
 .have b:=j E;rw[Cp<|by simp[F.2]]at b;exact AG<|AG<|AG<|AG<|AG<|AF ⟨Ca i c,a,hck,r,s,E,B7,p 9,Xv b⟩
 have V:f<k->¬(ch.toNat==48)=AP:=λh b=>F ⟨h,BG⟩;by_cases Q:(B-(a.toNat-48))/10<num
 .have N:f<k:=E;have b:=j E;rw[Cl<|V N,Cp Q]at b;have q:=Xv (bs:=bs) (lim:=lim) (m:=m) b;by_cases o : -(num:J)<(-9223372036854775808+((a.toNat:J)-48)).tdiv 10
  .exact AG<|AG<|AG<|AG<|AG<|AG<|AF ⟨Ca i c,a,hck,r,s,E,B7,o,p 10,q⟩
  have n:=λh=>o<|u.2 h;exact AG<|AG<|AG<|AG<|AG<|AG<|AG<|AF ⟨Ca i c,a,hck,r,s,E,B7,o,v.elim (λh=>E) λh=>h.1,B7,E,E,p 10,q⟩
 have n:¬(9223372036854775808-(a.toNat-48))/10<num:=E;have o:=λh=>n<|u.1 h;have x:Ee bs lim B (ch.toNat==48) (K bs+1-(k+1)) (k+1) (num*10+(a.toNat-48))=R:=B9;have w:m=AQ->(-num*10-((a.toNat:J)-48) == -9223372036854775808)=AQ:=λh=>v.elim (λb=>B9) λb=>B7;have A:=Eu hi hck g;by_cases h:f<k
 .exact AG<|AG<|AG<|AG<|AG<|AG<|AG<|AG<|AG<|⟨Ca i c,a,hck,r,s,E,B7,o,E,E,w,E,A,x⟩
 exact AG<|AG<|AG<|AG<|AG<|AG<|AG<|AG<|AF ⟨Ca i c,a,hck,r,s,B7,E,o,E,E,w,E,A,x⟩
theorem eP(W:X)(fm d:J){f:I}{m:AK}(hc:bs[i]?=H c)(u:(m=AP/\c.toNat=45/\f=i+1/\B=9223372036854775808)\/(m=AQ/\¬c.toNat=45/\f=i/\B=9223372036854775807))(L:bs[f]?=H ch)(hd:Ey ch=AP)(ak:¬(f:J)=lim)(hl:Lm bs l lim)(hi:Cx bs lim f)(hb:K bs<=281474976710656):Ar As 130 #[.agg<|Ct bs fm d l,C Y i] W λaa g=>JP bs lim (JO m<|Ee bs lim B (ch.toNat==48) (K bs+1-(f+1)) (f+1)<|ch.toNat-48) aa/\A0 W g:=by
 obtain⟨an,S⟩:=CC<|Ee bs lim B (ch.toNat==48) (K bs+1-(f+1)) (f+1)<|ch.toNat-48;rw[AE S];have a1:=Dk hc;have ay:=Dk L;have av:=Et hc;have a2:=λV=>Et L V;have P:=T hi;have ae:=T λk num N hn hi h=>tA (k:=k) (num:=num) (u.imp (λh=>⟨h.1,h.2.2.2⟩) λh=>⟨h.1,h.2.2.2⟩) hn hl hi L hd ak N S h;have cD:∀V (k:I),Ar _ _ #[.agg _,.int _ k] V _:=λV k=>d8 V bs fm d l;have cH:=NK bs fm d l;have ag:∀V,Ar As 165 #[Ag #[Ae ⟨Aw bs⟩,C Y fm,C Y d,C Y l],C Y f] V λaa g=>aa=Ak (Ah AP)/\A0 V g:=λV=>by grind [eO]
 have v:=Ll W bs fm d l;clear hc L hd ak hl hi S;unfold Ct;rcases u with⟨rfl,u,hf,hB⟩|⟨rfl,u,hf,hB⟩
 have ap:((c.toNat:J)==45)=AP:=(by rw[u];rfl);rotate_left
 have ap:=Df (c:=c) 45 E;rotate_left
 all_goals
  have HB:=T hB;have ad:=T<|show _=(f:J)from(congrArg _ hf).symm;clear u hf hB;go_enter func130,ntmps130
  go_wp2_with fail
  first
   |rw[show(i:J)+1=(f:J)from AE ad]
   |rw[show i=(f:J)from AE ad]
  refine MI (ag _) v.next ?_
  clear ag;intro w2 ar p;obtain⟨q,r,c2,s⟩:=Eb p.h
  go_wp2_with fail
  clear q r c2 s ar v
  go_loopg[1,9] (K bs+1-f) (λao zi zn wr=>∃k num:I,zi=C Y k/\zn=C Y (-(num:J))/\D (K bs+1<=k+ao)/\D (f<=k)/\D (num<=B)/\D (Ji W (Ct bs fm d l) wr)/\D (Cx bs lim k)/\D ((k=f/\num=0)\/(f<k/\Ee bs lim B (ch.toNat==48) (K bs+1-k) k num=an)))
  grind [D];clear p P;obtain⟨k,num,rfl,rfl,hg,N,al,v,P,HP⟩:=hrel;have a5:=AE al;have ax:=AE HB;obtain⟨q,r,c2,s⟩:=Eb v.h;have R:=λV=>cD V k;have e:=λV=>cH V k;rcases ae.out k num N.out al.out P HP with⟨j,w,o⟩|⟨j,w,n,b,ab,ah,aq,o⟩|⟨j,w,n,b,ab,t,o⟩|⟨j,w,n,b,ab,ah,t,o⟩|⟨j,w,n,b,ab,ah,aq,t,o⟩|⟨j,n,b,z,A,ac,hz,t,o⟩|⟨j,n,b,z,A,ac,hz,hA,t,o⟩|⟨j,n,b,z,A,ac,hz,hA,aw,F,ai,aj,t,o⟩|⟨j,n,b,z,A,az,a0,hA,ai,aj,F,x,y,Q⟩|⟨j,n,b,z,A,ac,hz,hA,ai,aj,F,x,y,Q⟩
  all_goals
   rw[j]at R
   try rw[w]at e
   try(have a3:=Et b;have a4:=Dk b)
   try(have af:=NJ fm d t)
   try have HV:=T o
   try have am:=T Q
   try have y:=T y
   try have x:=T x
   try have F:=F rfl
   try clear o
   try clear Q b
   clear cD cH HP av j ae
   try cases aw
  all_goals
   go_wp2_with(first
    |(go_at_call 165;refine Ec (R _) v.next (λ_ h=>h.h) ?_;clear R q r c2 s;intro w2 p q r c2 s;have a:=p)
    |(go_at_call 116;refine Ec (e _) p.next (λ_ h=>h.h) ?_;clear e q r c2 s a;intro w3 a q r c2 s;have p:=a)
    |(go_at_call 84;refine Ec (af _) p.next (λ_ h=>h.h) ?_;clear af q r c2 s a;intro w4 a q r c2 s)
    |((with_reducible refine RB 4 rfl rfl (O (U W)+1) (Cv) ?_ ?_ ?_ ?_ ?_);exact Z;exact Z;exact a.b;exact thg)
    |((with_reducible refine RB 4 rfl rfl (O (U W)+1) (Cg 3 (-(num:J)) ⟨#[]⟩ Cq Cq) ?_ ?_ ?_ ?_ ?_);exact Z;exact Z;exact a.b;exact thg)
    |((with_reducible refine RB 4 rfl rfl (O (U W)+1) (Cg 3 (num:J) ⟨#[]⟩ Cq Cq) ?_ ?_ ?_ ?_ ?_);exact Z;exact Z;exact a.b;exact thg)
    |((with_reducible refine Fb 6 _ rfl rfl (O (U W)+2) (0,0) ?_ ?_ ?_ ?_);exact Z;exact Z;exact Gl a CT)
    |((with_reducible refine Fb 6 _ rfl rfl (O (U W)+2) (9,(k:J)) ?_ ?_ ?_ ?_);exact Z;exact Z;exact Gl a CT)
    |((with_reducible refine Fb 6 _ rfl rfl (O (U W)+2) (10,(k:J)) ?_ ?_ ?_ ?_);exact Z;exact Z;exact Gl a CT))
   try exact F4 results130 (EO a CT _ _) _ rfl rfl rfl rfl ⟨HV,(EO a CT _ _).2.2⟩
   try exact F4 results130 (EO a CT _ _) _ rfl rfl rfl rfl ⟨HV _ rfl E E,(EO a CT _ _).2.2⟩
  all_goals
   obtain⟨gg,au⟩:∃gg,gk=gg+1:=⟨gk-1,AY<|AE hg⟩
   subst au;go_roundg gg;exact⟨k+1,num*10+(n.toNat-48),Bb,congrArg (Value.int Y) E,B9,by grind [D],x,p,y,AG ⟨AY<|AE N,am⟩⟩;omega
def uy(bs:A1)(p a j:I):DB bs p a++DB bs (p+a) j=DB bs p (a+j):=by unfold DB;rw[List.take_add,nh]
theorem uz(bs:A1)(p:I):DB bs p 0=[]:=by simp[DB]
theorem uA(b:0<m)(a:bs[k]?=H c)(d:¬(k:J)=lim):EV bs lim m k acc=EV bs lim (m-1) (k+1) (acc++[c]):=by
 obtain⟨g,rfl⟩:∃g,m=g+1:=⟨m-1,E⟩
 grind [EV]
theorem uB(b:0<m)(hi:Cx bs lim k)(hl:Lm bs l lim)(a:bs[k]?=Ao\/∃c,bs[k]?=H c/\(k:J)=lim):EV bs lim m k acc=.error (D5 bs l k 9)/\CN bs l k=AQ:=by
 obtain⟨g,rfl⟩:∃g,m=g+1:=⟨m-1,E⟩
 rw[EV];rcases a with a|⟨c,a,d⟩
 .rw[a,IM hi.1 a];grind [Ic]
 grind [Gk,Hr]
theorem uC{wh:I}(b:0<m)(hi:Cx bs lim k)(hl:Lm bs l lim)(a:bs[k]?=Ao\/∃c,bs[k]?=H c/\(k:J)=lim):Ds bs lim m k acc wh=.error (D5 bs l k 9)/\CN bs l k=AQ:=by
 obtain⟨g,rfl⟩:∃g,m=g+1:=⟨m-1,E⟩
 rw[Ds];rcases a with a|⟨c,a,d⟩
 .rw[a,IM hi.1 a];grind [Ic]
 grind [Gk,Hr]
def NY(txt:AK)(bs:A1)(lim:AI)(m k:AH)(acc:A1):A5 A1:=bif txt then Ds bs lim m k acc (At acc)else EV bs lim m k acc
def uD(d:AK)(b:0<m)(hi:Cx bs lim k)(hl:Lm bs l lim)(a:bs[k]?=Ao\/∃c,bs[k]?=H c/\(k:J)=lim):NY d bs lim m k acc=.error (D5 bs l k 9)/\CN bs l k=AQ:=by
 cases d
 .exact uB b hi hl a
 exact uC b hi hl a
theorem fI{txt:AK}{n:J}(hn:n=min (x:J) 9223372036854775807)(hl:Lm bs l lim)(hi:Cx bs lim i)(hb:K bs<=200000000):Ar As 133 #[.agg<|Ct bs fm d l,C Y i,C Y n,Ah txt] W λe z=>NU (NY txt bs lim x i []) e/\A0 W z:=by
 obtain⟨ad,p⟩:=CC<|NY txt bs lim x i [];rw[AE p];have a3:=NI bs;have a0:=hi.1;have HL:=T hl;have t:=T hi;have R:=NK bs fm d l;have Q:=OW bs fm d l;have s:=RA W bs fm d l;obtain⟨m,a4⟩:=DF<|IntKind.i64.wrap<|i+n;have HW:D<|(n=x/\x<=K bs/\m=i+x)\/(K bs<x/\¬n<=K bs/\(K bs<m\/m<0)):=by grind [D,IntKind.wrap_i64]
 clear hl hi hn;unfold Ct;go_enter func133,ntmps133;go_wp2
 go_loopg[11] (K bs+1-i) (λar ay wr=>∃k:I,ay=C Y k/\D (K bs+1<=k+ar)/\D (IN W (Ct bs fm d l) (O (U W)+1) wr)/\D (Cx bs lim k)/\D (i<=k/\k-i<=x)/\D (NY txt bs lim (x-(k-i)) k (DB bs i<|k-i)=ad))
 grind [D,uz];clear p s t;obtain⟨k,rfl,hg,s,t,g,p⟩:=hrel;have a1:=t.1;obtain⟨a,c,c2,f⟩:=Eb s.h;have ah:=g.1;have ab:=AE HW;by_cases B:k-i=x/\x<=K bs
 .have r:¬k<m:=E;have a2:¬(K bs)<n:=E
  replace B:=B.1
  clear ab;have P:D<|ad=.ok (DB bs i x,k):=by
   show _=_;have h:=AE p;rw[B,Rf]at h;rw[<-h];cases txt
   .rfl
   simp[NY,Ds]
  have aq:D<|(⟨Aw bs⟩:AT).extract (i:J).toNat (k:J).toNat=⟨Aw<|DB bs i x⟩:=by show _=_;rw[show(i:J).toNat=i by omega,show(k:J).toNat=i+x by omega];exact Xt bs i x
  have az:i<=(k:J):=E;have an:k<=(K bs:J):=E;clear p R Q g hg
  go_wp2_with(first
   |((with_reducible refine Fb 10 95 rfl rfl (O (U W)+1) (0,0) ?_ ?_ ?_ ?_);exact Z;exact Z;exact s.a))
  have q:=Hs s CT (0,0);refine Ij results133 q (.string<|(⟨_⟩:AT).extract (i:J).toNat (k:J).toNat) (.int _ k) Z Z Z Z ⟨?_,q.2⟩;rw[AE P,AE aq];rfl
 have hm:0<x-(k-i):=AY g.2;have o:=λV=>R V k;rcases Rz (bs:=bs) (lim:=lim) k with ap|⟨ch,w,hp⟩
 .obtain⟨h1,h2⟩:=uD (acc:=DB bs i<|k-i) txt hm t HL ap;have P:=T<|Ca p.symm h1;rw[h2]at o;have v:=λV=>Q V k 9;generalize D5 bs l k 9=xx at *;have S:k<m\/(¬k<m/\K bs<n):=E;clear p h1 h2 ap R Q g hg ah B ab;rcases S with r|⟨r,F⟩
  all_goals
   go_wp2_with(first
    |(go_at_call 116;apply Ec (o _) s.next λ_ h=>h.h;clear o a c c2 f;intro w2 u a c c2 f)
    |(go_at_call 84;apply Ec (v _) u.next λ_ h=>h.h;clear v a c c2 f;intro w4 y a c c2 f)
    |((with_reducible refine Fb 10 35 rfl rfl (O (U W)+1) xx ?_ ?_ ?_ ?_);exact Z;exact Z;exact y.a))
   have q:=Hs y CT xx;refine Ij results133 q (.string _) (.int _ 0) Z Z Z Z ⟨?_,q.2⟩;rw[AE P];rfl
 have aw:=Dk w;have hh:=J4 HL t w hp;rw[hh]at o;have step:∀j,1<=j->Cx bs lim (k+j)->j<=x-(k-i)->NY txt bs lim (x-(k-i)) k (DB bs i<|k-i)=NY txt bs lim (x-(k-i)-j) (k+j) (DB bs i (k-i)++DB bs k j)->D (NY txt bs lim (x-(k+j-i)) (k+j) (DB bs i<|k+j-i)=ad):=λj _ _ _ h=>by have e:=uy bs i (k-i) j;grind
 cases txt
 .have HN:=step 1 (Cr _) (Eu t w hp) hm (by rw[Xn w];exact uA hm w hp);have ag:=show D (Cx bs lim _)from Eu t w hp;have S:k<m\/(¬k<m/\K bs<n):=E;clear ab B step;rcases S with r|⟨r,F⟩
  all_goals
   go_wp2_with(first
    |(go_at_call 116;apply Ec (o _) s.next λ_ h=>h.h;clear o a c c2 f;intro w2 u a c c2 f))
   go_roundg (gk-1);exact⟨_,Bb,by grind [D],u,ag,⟨E,E⟩,HN⟩;have:=AE hg;omega
 have an:k<lim:=AY t.2;have ai:=eI HL aw an;obtain⟨nn,ao⟩:∃nn:I,min (K bs:J) lim=nn:=⟨(min (K bs:J) lim).toNat,E⟩
 obtain⟨N,aj⟩:∃N:I,N=min (min (K bs:J) lim) (k+(x-(k-i)):I):=⟨(min (min (K bs:J) lim) (k+(x-(k-i)):I)).toNat,E⟩
 have ac:=sB HL aj t w hp hm<|DB bs i<|k-i;have cG:=λV=>eE V N w E E E;obtain⟨j,ae,ak⟩:∃j ae,MK bs N k ch=(j,ae):=⟨_,_,rfl⟩
 rw[ak]at ac cG;have b:∀V,Ar _ _ _ V λe z=>e=Ak (Af #[.int _ j,Ah ae])/\V=z:=λV=>Ce (cG V) λe z h=>⟨h.1,h.2.symm⟩
 rw[ao]at ai aj;have S:((k:J)<m/\n<=K bs/\min (nn:J) m=N)\/((k:J)<m/\¬n<=K bs/\(nn:J)=N)\/(¬(k:J)<m/\¬n<=K bs/\(nn:J)=N):=E;clear ao ak cG aj hh w hp;cases ae
 .simp only[]at ac;obtain⟨A,am,aa⟩:=ac;have av:=A.1;have hR:=Ca p.symm aa;by_cases af:j=x-(k-i)
  .rw[Cp af]at hR;obtain⟨r,F,L⟩:k<m/\n<=K bs/\min (nn:J) m=N:=E;obtain⟨kj,ax⟩:∃kj,kj+1=k+j:=⟨k+j-1,E⟩
   have P:D<|ad=.error (9,(kj:J)):=B9;have v:∀V,Ar As 84 #[Ag #[Ae ⟨Aw bs⟩,C Y fm,C Y d,C Y l],C Y<|(k:J)+(j:J)-1,C Y 9] V λe z=>e=Ak (.agg<|Cf (9,(kj:J)))/\A0 V z:=λV=>by grind [D,RO]
   have au:(k+j==m)=AP:=B7;have al:1<=k+(j:J):=E;clear p R Q aa A af ax g hg ah S ab hR B step
   go_wp2_with(first
    |(go_at_call 116;apply Ec (o _) s.next λ_ h=>h.h;clear o a c c2 f;intro w2 u a c c2 f)
    |(go_at_call 163;apply (b _).mono;clear b;rintro e w3 ⟨rfl,rfl⟩)
    |(go_at_call 84;apply Ec (v _) u.next λ_ h=>h.h;clear v a c c2 f;intro w4 y a c c2 f)
    |((with_reducible refine Fb 10 77 rfl rfl (O (U W)+1) (9,(kj:J)) ?_ ?_ ?_ ?_);exact Z;exact Z;exact y.a))
   have q:=Hs y CT (9,kj);refine Ij results133 q (.string _) (.int _ 0) Z Z Z Z ⟨?_,q.2⟩;rw[AE P];rfl
  rw[Cl af]at hR;have au:(k+j==m)=AQ:=B7;have P:=T hR;have v:=λV=>Q V (k+j) 9;rw[show(k+j:I)=k+(j:J) by omega]at v;generalize D5 bs l (k+j) 9=xx at *;clear p R Q aa A g hg af ah ab hR B step;rcases S with⟨r,F,L⟩|⟨r,F,L⟩|⟨r,F,L⟩
  all_goals
   try rw[L]at ai
   go_wp2_with(first
    |(go_at_call 116;apply Ec (o _) s.next λ_ h=>h.h;clear o a c c2 f;intro w2 u a c c2 f)
    |(go_at_call 163;apply (b _).mono;clear b;rintro e w3 ⟨rfl,rfl⟩)
    |(go_at_call 84;apply Ec (v _) u.next λ_ h=>h.h;clear v a c c2 f;intro w4 y a c c2 f)
    |((with_reducible refine Fb 10 84 rfl rfl (O (U W)+1) xx ?_ ?_ ?_ ?_);exact Z;exact Z;exact y.a))
   have q:=Hs y CT xx;refine Ij results133 q (.string _) (.int _ 0) Z Z Z Z ⟨?_,q.2⟩;rw[AE P];rfl
 simp only[]at ac;obtain⟨al,A,am,aa⟩:=ac;have av:=A.1;have HN:=step j al A am aa;have ag:=T A;clear p R Q aa A ab step B;rcases S with⟨r,F,L⟩|⟨r,F,L⟩|⟨r,F,L⟩
 all_goals
  try rw[L]at ai
  go_wp2_with(first
   |(go_at_call 116;apply Ec (o _) s.next λ_ h=>h.h;clear o a c c2 f;intro w2 u a c c2 f)
   |(go_at_call 163;apply (b _).mono;clear b;rintro e w3 ⟨rfl,rfl⟩))
  go_roundg (gk-j);exact⟨_,Bb,by grind [D],u,ag,⟨E,E⟩,HN⟩;have:=AE hg;omega
def RX(z:J):∀w:X,(Instr.typeAssert (Ai 281<|C Y z) 89 279 AP).run As w=.ok (Af #[Ah AQ,Ah AQ]) w:=λw=>B6
def RY(z:J):∀w:X,(Instr.typeAssert (Ai 281<|C Y z) 89 281 AP).run As w=.ok (Af #[C Y z,Ah AP]) w:=λw=>B6
def Kl(z:AI):A1:=if z<0 then Hx z else GY z.toNat
def Km(z:AI):A1:=if z<0 then Dd 1 (-1-z).toNat else Dd 0 z.toNat
theorem vz(s : -9223372036854775808<=z)(L:z<=9223372036854775807)(hl:K bs<=999999999)(h:Cn W base v bs):Ar As 115 #[v,Tl z] W λe k=>∃m,e=Ak m/\Cn k base m (bs++Kl z)/\Below base W k:=by
 unfold Tl;obtain⟨t,r,a,n,c,rfl⟩:=h;have j:D<|Cn W base (G a n c) bs:=⟨t,r,a,n,c,Z⟩
 have F:D<|Kl z=if z<0 then Hx z else GY z.toNat:=rfl;by_cases l:z<0
 .have i:D<|Kl z=Hx z:=B9;have p:AR (z<0)=AP:=by simp;exact l
  have w:=RX z;have y:=RY z;go_enter func115,ntmps115
  go_wp2_with(first
   |(go_at_call 157;refine Ce (sY s l hl j) ?_;rintro e B ⟨A,rfl,b,g⟩;obtain⟨d,f,o,u,q,rfl⟩:=b))
  go_ret;rw[AE i];exact⟨_,Z,⟨d,f,_,_,_,Z⟩,g⟩
 have i:D<|Kl z=GY z.toNat:=B9;obtain⟨x,rfl⟩:∃x:I,z=x:=⟨z.toNat,E⟩
 have p:AR ((x:J)<0)=AQ:=Ba;have w:=RX (x:J);have y:=RY (x:J);go_enter func115,ntmps115
 go_wp2_with(first
  |(go_at_call 158;refine Ce (sX x E hl j) ?_;rintro e B ⟨A,rfl,b,g⟩;obtain⟨d,f,o,u,q,rfl⟩:=b))
 go_ret;rw[AE i];exact⟨_,Z,⟨d,f,_,_,_,Z⟩,g⟩
theorem vA(L : -9223372036854775808<=z)(N:z<=9223372036854775807)(hl:K bs<=999999999)(h:Cn W base v bs):Ar As 114 #[v,Tl z] W λe b=>∃d,e=Ak d/\Cn b base d (bs++Km z)/\Below base W b:=by
 unfold Tl;obtain⟨r,q,a,n,c,rfl⟩:=h;have l:D<|Cn W base (G a n c) bs:=⟨r,q,a,n,c,Z⟩
 have F:D<|Km z=if z<0 then Dd 1 (-1-z).toNat else Dd 0 z.toNat:=rfl;by_cases A:z<0
 .have f:D<|Km z=Dd 1 (-1-z).toNat:=B9;obtain⟨x,rfl⟩:∃x:I,z = -1-(x:J):=⟨(-1-z).toNat,E⟩
  have B:=λV h=>NT (W:=V) (base:=base) (v:=(G a n c)) 1 x E E hl h;have p:∀V,Cn V base (G a n c) bs->Ar As 155 #[G a n c,C Am 1,C .u64<|-1-(-1-(x:J))] V λe b=>∃d,e=Ak d/\Cn b base d (bs++Dd 1 x)/\Below base V b:=B9;rw[show(-1-(-1-(x:J))).toNat=x by omega]at f;have t:=RX<|-1-(x:J);have u:=RY<|-1-(x:J);go_enter func114,ntmps114
  go_wp2_with(first
   |(go_at_call 155;refine Ce (p _ l) ?_;rintro e y ⟨w,rfl,g,k⟩;obtain⟨i,j,m,s,o,rfl⟩:=g))
  go_ret;rw[AE f];exact⟨_,Z,⟨i,j,_,_,_,Z⟩,k⟩
 have f:D<|Km z=Dd 0 z.toNat:=B9;obtain⟨x,rfl⟩:∃x:I,z=x:=⟨z.toNat,E⟩
 have t:=RX (x:J);have u:=RY (x:J);go_enter func114,ntmps114
 go_wp2_with(first
  |(go_at_call 155;refine Ce (NT 0 x E E hl l) ?_;rintro e y ⟨w,rfl,g,k⟩;obtain⟨i,j,m,s,o,rfl⟩:=g))
 go_ret;rw[AE f];exact⟨_,Z,⟨i,j,_,_,_,Z⟩,k⟩
def XP  : ∀w:X,(Instr.typeAssert (Ai 268<|Ag #[]) 89 279 AP).run As w=.ok (Af #[Ah AQ,Ah AQ]) w:=λw=>B6
def XQ  : ∀w:X,(Instr.typeAssert (Ai 268<|Ag #[]) 89 281 AP).run As w=.ok (Af #[C Y 0,Ah AQ]) w:=λw=>B6
def XR  : ∀w:X,(Instr.typeAssert (Ai 268<|Ag #[]) 89 283 AP).run As w=.ok (Af #[.string ByteArray.empty,Ah AQ]) w:=λw=>B6
def XS  : ∀w:X,(Instr.typeAssert (Ai 268<|Ag #[]) 89 219 AP).run As w=.ok (Af #[G Ao 0 0,Ah AQ]) w:=λw=>B6
def RZ  : ∀w:X,(Instr.typeAssert (Ai 268<|Ag #[]) 89 221 AP).run As w=.ok (Af #[G Ao 0 0,Ah AQ]) w:=λw=>B6
def S0  : ∀w:X,(Instr.typeAssert (Ai 268<|Ag #[]) 89 223 AP).run As w=.ok (Af #[G Ao 0 0,Ah AQ]) w:=λw=>B6
def Qt(b:AK):∀w:X,(Instr.typeAssert (Ai 279<|Ah b) 89 279 AP).run As w=.ok (Af #[Ah b,Ah AP]) w:=λw=>B6
def XT(s:AT):∀w:X,(Instr.typeAssert (Ai 283<|.string s) 89 279 AP).run As w=.ok (Af #[Ah AQ,Ah AQ]) w:=λw=>B6
def XU(s:AT):∀w:X,(Instr.typeAssert (Ai 283<|.string s) 89 281 AP).run As w=.ok (Af #[C Y 0,Ah AQ]) w:=λw=>B6
def XV(s:AT):∀w:X,(Instr.typeAssert (Ai 283<|.string s) 89 283 AP).run As w=.ok (Af #[.string s,Ah AP]) w:=λw=>B6
def S1(a:A4)(n c:I):∀w:X,(Instr.typeAssert (Ai 219<|G a n c) 89 279 AP).run As w=.ok (Af #[Ah AQ,Ah AQ]) w:=λw=>B6
def S2(a:A4)(n c:I):∀w:X,(Instr.typeAssert (Ai 219<|G a n c) 89 281 AP).run As w=.ok (Af #[C Y 0,Ah AQ]) w:=λw=>B6
def S3(a:A4)(n c:I):∀w:X,(Instr.typeAssert (Ai 219<|G a n c) 89 283 AP).run As w=.ok (Af #[.string ByteArray.empty,Ah AQ]) w:=λw=>B6
def S4(a:A4)(n c:I):∀w:X,(Instr.typeAssert (Ai 219<|G a n c) 89 219 AP).run As w=.ok (Af #[G a n c,Ah AP]) w:=λw=>B6
def gE(a:A4)(n c:I):∀w:X,(Instr.typeAssert (Ai 221<|G a n c) 89 279 AP).run As w=.ok (Af #[Ah AQ,Ah AQ]) w:=λw=>B6
def gG(a:A4)(n c:I):∀w:X,(Instr.typeAssert (Ai 221<|G a n c) 89 281 AP).run As w=.ok (Af #[C Y 0,Ah AQ]) w:=λw=>B6
def gH(a:A4)(n c:I):∀w:X,(Instr.typeAssert (Ai 221<|G a n c) 89 283 AP).run As w=.ok (Af #[.string ByteArray.empty,Ah AQ]) w:=λw=>B6
def gI(a:A4)(n c:I):∀w:X,(Instr.typeAssert (Ai 221<|G a n c) 89 219 AP).run As w=.ok (Af #[G Ao 0 0,Ah AQ]) w:=λw=>B6
def U6(a:A4)(n c:I):∀w:X,(Instr.typeAssert (Ai 221<|G a n c) 89 221 AP).run As w=.ok (Af #[G a n c,Ah AP]) w:=λw=>B6
def gJ(a:A4)(n c:I):∀w:X,(Instr.typeAssert (Ai 223<|G a n c) 89 279 AP).run As w=.ok (Af #[Ah AQ,Ah AQ]) w:=λw=>B6
def gK(a:A4)(n c:I):∀w:X,(Instr.typeAssert (Ai 223<|G a n c) 89 281 AP).run As w=.ok (Af #[C Y 0,Ah AQ]) w:=λw=>B6
def gL(a:A4)(n c:I):∀w:X,(Instr.typeAssert (Ai 223<|G a n c) 89 283 AP).run As w=.ok (Af #[.string ByteArray.empty,Ah AQ]) w:=λw=>B6
def gM(a:A4)(n c:I):∀w:X,(Instr.typeAssert (Ai 223<|G a n c) 89 219 AP).run As w=.ok (Af #[G Ao 0 0,Ah AQ]) w:=λw=>B6
def U7(a:A4)(n c:I):∀w:X,(Instr.typeAssert (Ai 223<|G a n c) 89 221 AP).run As w=.ok (Af #[G Ao 0 0,Ah AQ]) w:=λw=>B6
def U9(a:A4)(n c:I):∀w:X,(Instr.typeAssert (Ai 223<|G a n c) 89 223 AP).run As w=.ok (Af #[G a n c,Ah AP]) w:=λw=>B6
def vB(hl:K bs<=999999999)(h:Cn W base v bs):Ar As 115 #[v,Ai 268<|Ag #[]] W λe f=>∃b,e=Ak b/\Cn f base b (bs++[192])/\Below base W f:=by
 obtain⟨m,k,a,n,c,rfl⟩:=h;have d:=T m;have r:=XP;have s:=XQ;have t:=XR;have u:=XS;have w:=RZ;have x:=S0;go_enter func115,ntmps115
 go_wp2_with(first
  |(at_builtin;refine Kd 192 d ?_;intro b i g l q;have j:D<|Cn i base b (bs++[192])/\Below base W i:=TN k d Z g l;obtain⟨p,o,rfl⟩:=ownsRow_succ g))
 go_ret;exact⟨_,Z,j⟩
def vC(hl:K bs<=999999999)(h:Cn W base v bs):Ar As 115 #[v,Ai 279<|Ah AP] W λe f=>∃b,e=Ak b/\Cn f base b (bs++[195])/\Below base W f:=by
 obtain⟨m,k,a,n,c,rfl⟩:=h;have d:=T m;have r:=Qt AP;go_enter func115,ntmps115
 go_wp2_with(first
  |(at_builtin;refine Kd 195 d ?_;intro b i g l q;have j:D<|Cn i base b (bs++[195])/\Below base W i:=TN k d Z g l;obtain⟨p,o,rfl⟩:=ownsRow_succ g))
 go_ret;exact⟨_,Z,j⟩
def vD(hl:K bs<=999999999)(h:Cn W base v bs):Ar As 115 #[v,Ai 279<|Ah AQ] W λe f=>∃b,e=Ak b/\Cn f base b (bs++[194])/\Below base W f:=by
 obtain⟨m,k,a,n,c,rfl⟩:=h;have d:=T m;have r:=Qt AQ;go_enter func115,ntmps115
 go_wp2_with(first
  |(at_builtin;refine Kd 194 d ?_;intro b i g l q;have j:D<|Cn i base b (bs++[194])/\Below base W i:=TN k d Z g l;obtain⟨p,o,rfl⟩:=ownsRow_succ g))
 go_ret;exact⟨_,Z,j⟩
def vE(l:A1)(hl:K bs<=999999999)(o:K l<=999999999)(h:Cn W base v bs):Ar As 115 #[v,Ai 283<|Ae ⟨Aw l⟩] W λe b=>∃d,e=Ak d/\Cn b base d (bs++(EP (K l)++l))/\Below base W b:=by
 obtain⟨p,m,a,n,c,rfl⟩:=h;have f:D<|Cn W base (G a n c) bs:=⟨p,m,a,n,c,Z⟩
 have t:=XT ⟨Aw l⟩;have u:=XU ⟨Aw l⟩;have w:=XV ⟨Aw l⟩;go_enter func115,ntmps115
 go_wp2_with(first
  |(go_at_call 159;refine Ce (te hl o f) ?_;rintro e y ⟨x,rfl,g,k⟩;obtain⟨i,j,q,s,r,rfl⟩:=g))
 go_ret;exact⟨_,Z,⟨i,j,_,_,_,Z⟩,k⟩
def vF(hl:K bs<=999999999)(h:Cn W base v bs):Ar As 114 #[v,Ai 268<|Ag #[]] W λe b=>∃d,e=Ak d/\Cn b base d (bs++Dd 7 22)/\Below base W b:=by
 obtain⟨m,l,a,n,c,rfl⟩:=h;have f:D<|Cn W base (G a n c) bs:=⟨m,l,a,n,c,Z⟩
 have r:=XP;have s:=XQ;have t:=XR;have u:=XS;have w:=RZ;have x:=S0;go_enter func114,ntmps114
 go_wp2_with(first
  |(go_at_call 155;refine Ce (NT 7 22 E E hl f) ?_;rintro e z ⟨y,rfl,g,k⟩;obtain⟨i,j,o,q,p,rfl⟩:=g))
 go_ret;exact⟨_,Z,⟨i,j,_,_,_,Z⟩,k⟩
def vG(hl:K bs<=999999999)(h:Cn W base v bs):Ar As 114 #[v,Ai 279<|Ah AP] W λe b=>∃d,e=Ak d/\Cn b base d (bs++Dd 7 21)/\Below base W b:=by
 obtain⟨m,l,a,n,c,rfl⟩:=h;have f:D<|Cn W base (G a n c) bs:=⟨m,l,a,n,c,Z⟩
 have r:=Qt AP;go_enter func114,ntmps114
 go_wp2_with(first
  |(go_at_call 155;refine Ce (NT 7 21 E E hl f) ?_;rintro e t ⟨s,rfl,g,k⟩;obtain⟨i,j,o,q,p,rfl⟩:=g))
 go_ret;exact⟨_,Z,⟨i,j,_,_,_,Z⟩,k⟩
def vH(hl:K bs<=999999999)(h:Cn W base v bs):Ar As 114 #[v,Ai 279<|Ah AQ] W λe b=>∃d,e=Ak d/\Cn b base d (bs++Dd 7 20)/\Below base W b:=by
 obtain⟨m,l,a,n,c,rfl⟩:=h;have f:D<|Cn W base (G a n c) bs:=⟨m,l,a,n,c,Z⟩
 have r:=Qt AQ;go_enter func114,ntmps114
 go_wp2_with(first
  |(go_at_call 155;refine Ce (NT 7 20 E E hl f) ?_;rintro e t ⟨s,rfl,g,k⟩;obtain⟨i,j,o,q,p,rfl⟩:=g))
 go_ret;exact⟨_,Z,⟨i,j,_,_,_,Z⟩,k⟩
def vI(l:A1)(hl:K bs<=999999999)(o:K l<=999999999)(h:Cn W base v bs):Ar As 114 #[v,Ai 283<|Ae ⟨Aw l⟩] W λe b=>∃d,e=Ak d/\Cn b base d (bs++(Dd 3 (K l)++l))/\Below base W b:=by
 obtain⟨p,m,a,n,c,rfl⟩:=h;have f:D<|Cn W base (G a n c) bs:=⟨p,m,a,n,c,Z⟩
 have t:=XT ⟨Aw l⟩;have u:=XU ⟨Aw l⟩;have w:=XV ⟨Aw l⟩;go_enter func114,ntmps114
 go_wp2_with(first
  |(go_at_call 156;refine Ce (td hl o f) ?_;rintro e y ⟨x,rfl,g,k⟩;obtain⟨i,j,q,s,r,rfl⟩:=g))
 go_ret;exact⟨_,Z,⟨i,j,_,_,_,Z⟩,k⟩
def gN(a:P.underlying t=H (.slice e))(b:P.underlying t'=H (.slice e))(s:Aq)(x:Aq):(Builtin.append_ #[t,t'] ty #[s,x]).run P w=(Builtin.append_ #[t,t] ty #[s,x]).run P w:=by cases s<;>simp[Builtin.append_,Mu a,Mu b]
def gO(F:o.guard=Ao){s x:Operand}(N:o.op=.call {callee:=.builtin .append,args:=#[s,x],argTypes:=#[t,t']}){i:TypeInfo}{z:Aq}(g:P.underlying t=H (.slice e))(aa:P.underlying t'=H (.slice e))(hi:P.info? e=H i)(hz:i.zero=H z)(V:i.size=size)(A:i.bytes=bytes)(ab:z.cells.size=size)(W:0<size)(S:a.eval s=v)(R:w.ownsRow base e size v n xs)(m c:I)(hx:a.eval x=G (H ad) m c)(hl:K news=m*size)(L:∀j u,news[j]?=H u->AC w (ad.add j)=H u)(k:∀u∈news,u.oneCell'=AP)(q:n+m<=maxLen)(B:(n+m)*bytes<=140737488355328)(y:base<=O (U w))(h:∀d b,b.ownsRow base e size d (n+m) (xs++news)->w.grownBy b (Ax v)->wpList P ops Q rest (a.put o.dst d) b):wpList P ops Q (o::rest) a w:=by refine LP F λac r=>?_;obtain⟨d,b,f,l,p,_⟩:=Rd (P:=P) w base t o.type e i z size bytes g hi hz V A ab W v n xs R ad m c news hl L k q B y;rw[<-gN g aa]at f;unfold Oper.wp execOp;simp only[N,resolve,invoke,builtin,GT,Ge,FZ,OE,I7,Mv,S,hx,f];exact r _ _<|h d b l p
def Ua(f:o.guard=Ao){s x:Operand}(g:o.op=.call {callee:=.builtin .append,args:=#[s,x],argTypes:=#[t,t']}){i:TypeInfo}(c:P.underlying t=H (.slice e))(l:P.underlying t'=H (.slice e))(hi:P.info? e=H i)(k:a.eval s=v)(j:w.ownsRow base e size v n xs)(hx:a.eval x=G Ao 0 0)(h:wpList P ops Q rest (a.put o.dst v) w):wpList P ops Q (o::rest) a w:=by refine LP f λm d=>?_;have b:=ZZ (P:=P) (w:=w) base t o.type e i size c hi v n xs j;rw[<-gN c l]at b;unfold Oper.wp execOp;simp only[g,resolve,invoke,builtin,GT,Ge,FZ,OE,I7,Mv,k,hx,b];exact d _ _ h
theorem DQ.cell(h:DQ V t size F (G (Aa g) n cap) n xs):∀j u,xs[j]?=H u->AC V ((⟨g,0,Ao⟩:Addr).add j)=H u:=by obtain⟨b,a⟩:=h;grind [Addr.add,cell_of_row]
theorem XW{l:A1}(h:Cn W base v bs)(f:W'.ownsRow base 5 1 v' (K bs+K l)<|bs.map CP++l.map CP)(c:W.grownBy W'<|Ax v):Cn W' base v' (bs++l)/\Below base W W':=by obtain⟨d,b,_⟩:=h;have a:=GW (Cu base W) d c b;refine⟨⟨B9,CE b a.size,?_⟩,a⟩;rcases f.2 with⟨e,_⟩|⟨g,i,j,e,_⟩<;>grind
theorem O3{s:I}:K (Dd s x)<=9:=kfU
theorem vJ:K (Gq x)<=9:=by grind [Gq,Il]
theorem vK{u:Aq}(hF:∀k,F k->k<base){l:A1}(hl:K bs<=999999999)(an:K l<=999999999)(o:DQ W 5 1 F u (K l)<|l.map CP)(h:Cn W base v bs):Ar As 114 #[v,Ai 219 u] W λe i=>∃f,e=Ak f/\Cn i base f (bs++(Dd 2 (K l)++l))/\Below base W i:=by
 obtain⟨i0,B,ab,ac,ad⟩:=DL Tryz.infoU8;obtain⟨b,Q,a,n,c,rfl⟩:=h;have N:D<|Cn W base (Ac a n c) bs:=⟨b,Q,a,n,c,Z⟩
 have s:Ar As 155 #[Ac a n c,C Am 2,C .u64<|K l] W λe i=>∃f,e=Ak f/\Cn i base f (bs++Dd 2 (K l))/\Below base W i:=NT 2 (K l) B8 E hl N;have R:K (Dd 2<|K l)<=9:=O3;rcases o.2 with⟨rfl,L⟩|⟨g,j,aj,rfl,ak,al,am⟩
 .have V:=QZ L;rw[L]at s R;rw[V];have ae:=S1 Ao 0 0;have af:=S2 Ao 0 0;have ag:=S3 Ao 0 0;have ah:=S4 Ao 0 0;go_enter func114,ntmps114
  go_wp2_with(first
   |(go_at_call 155;refine Ce s ?_;rintro e A ⟨v2,rfl,t,w⟩;obtain⟨z,r,q,y,c2,rfl⟩:=t;have d:D<|Cn A base (Ac q y c2)<|bs++Dd 2 0:=⟨z,r,_,_,_,Z⟩;have m:=T w)
   |(at_builtin;refine Ua Z Z underlying50 underlying219 B Z d.1 Z ?_))
  go_ret;rw[Rb];exact⟨_,Z,d,m⟩
 have P:=T o;have ae:=S1 (Aa g) (K l) j;have af:=S2 (Aa g) (K l) j;have ag:=S3 (Aa g) (K l) j;have ah:=S4 (Aa g) (K l) j;go_enter func114,ntmps114
 go_wp2_with(first
  |(go_at_call 155;refine Ce s ?_;rintro e A ⟨v2,rfl,t,w⟩;obtain⟨z,r,q,y,c2,rfl⟩:=t;have d:D<|Cn A base (Ac q y c2)<|bs++Dd 2 (K l):=⟨z,r,_,_,_,Z⟩;have m:=T w)
  |(at_builtin;refine gO rfl rfl underlying50 underlying219 B ab ac ad rfl B8 rfl d.1 (K l) j rfl Ba (P.same (G:=F) (λk x=>x) λk x=>Co m k<|hF k x).cell (λu o=>by obtain⟨ai,_,rfl⟩:=List.mem_map.mp o;rfl) kfh B9 d.2.1 ?_;intro f w5 aa S;have p:=T<|XW d aa S))
 go_ret;rw[L9]at p;exact⟨_,Z,p.1,Cs m p.2⟩
theorem vL{u:Aq}(hF:∀k,F k->k<base){l:A1}(hl:K bs<=999999999)(an:K l<=999999999)(j:DQ W 5 1 F u (K l)<|l.map CP)(h:Cn W base v bs):Ar As 115 #[v,Ai 219 u] W λe A=>∃y,e=Ak y/\Cn A base y (bs++(Gq (K l)++l))/\Below base W A:=by
 obtain⟨i0,B,ab,ac,ad⟩:=DL Tryz.infoU8;obtain⟨b,Q,a,n,c,rfl⟩:=h;have N:D<|Cn W base (Ac a n c) bs:=⟨b,Q,a,n,c,Z⟩
 have q:=sZ (K l) E hl N;have R:K (Gq<|K l)<=9:=vJ;rcases j.2 with⟨rfl,L⟩|⟨g,f,aj,rfl,ak,al,am⟩
 .have V:=QZ L;rw[L]at q R;rw[V];have ae:=S1 Ao 0 0;have af:=S2 Ao 0 0;have ag:=S3 Ao 0 0;have ah:=S4 Ao 0 0;go_enter func115,ntmps115
  go_wp2_with(first
   |(go_at_call 160;refine Ce q ?_;rintro e z ⟨v2,rfl,r,s⟩;obtain⟨x,p,o,w,c2,rfl⟩:=r;have d:D<|Cn z base (Ac o w c2)<|bs++Gq 0:=⟨x,p,_,_,_,Z⟩;have i:=T s)
   |(at_builtin;refine Ua Z Z underlying50 underlying219 B Z d.1 Z ?_))
  go_ret;rw[Rb];exact⟨_,Z,d,i⟩
 have P:=T j;have ae:=S1 (Aa g) (K l) f;have af:=S2 (Aa g) (K l) f;have ag:=S3 (Aa g) (K l) f;have ah:=S4 (Aa g) (K l) f;go_enter func115,ntmps115
 go_wp2_with(first
  |(go_at_call 160;refine Ce q ?_;rintro e z ⟨v2,rfl,r,s⟩;obtain⟨x,p,o,w,c2,rfl⟩:=r;have d:D<|Cn z base (Ac o w c2)<|bs++Gq (K l):=⟨x,p,_,_,_,Z⟩;have i:=T s)
  |(at_builtin;refine gO rfl rfl underlying50 underlying219 B ab ac ad rfl B8 rfl d.1 (K l) f rfl Ba (P.same (G:=F) (λk t=>t) λk t=>Co i k<|hF k t).cell (λu j=>by obtain⟨ai,_,rfl⟩:=List.mem_map.mp j;rfl) kfh B9 d.2.1 ?_;intro y w5 aa S;have m:=T<|XW d aa S))
 go_ret;rw[L9]at m;exact⟨_,Z,m.1,Cs i m.2⟩
def Ue{K:Act->X->Prop}(hi:ops[i]?=H o)(b:o.guard=Ao)(h:o.upon As a K Q<|(execOp a.eval o).run As w):wpOp As ops Q i K a w:=by unfold wpOp;rw[hi];simp only[Region.wanted,b,if_true];exact AF h
theorem XZ{y:Aq}(h:p<a.tmps.size):(a.put (H p) y).eval (.tmp p)=y:=by simp[Act.put,Act.eval,Array.getD,h]
theorem gZ{u:Aq}(h:i≠j):(a.put (H i) u).put (H j) v=(a.put (H j) v).put (H i) u:=by grind [Act.put,Array.setIfInBounds_comm]
theorem hH(a:Act)(p:I)(y:Aq):(a.put (H p) y).tmps.size=a.tmps.size:=by simp[Act.put]
def i4{b:AU}(a:A6 w g 0<|C Am (b.toNat:J)):(convert 50 9<|G (Aa g) 1 1).run As w=.ok (Ae ⟨#[b]⟩) w:=by refine R2 _ 50 9 5 ⟨g,0,Ao⟩ 1 [b] underlying50 underlying5 underlying9 ?_;intro j c;obtain rfl:j=0:=BO;exact a
theorem O4{oc ob ov:Oper}(c b v n p q:I){r:Aq}(u:AU)(ab:ops[c]?=H oc/\ops[b]?=H ob/\ops[v]?=H ov)(N:(oc.guard,oc.dst,ob.guard,ob.dst,ov.guard,ov.dst,ov.op)=(Ao,H n,Ao,H p,Ao,H q,.convert 50 9<|.tmp p))(P:((Region.ready .any ops listed).all (λi=>i==c||i==b)&&(Region.ready .any ops<|Ay listed c AP).all (·==b)&&(Region.ready .any ops<|Ay listed b AP).all (λi=>i==c||i==v)&&(Region.ready .any ops<|Ay (Ay listed c AP) b AP).all (·==v)&&(Region.ready .any ops<|Ay (Ay listed b AP) v AP).all (·==c) && !(Region.ready .any ops listed).isEmpty && !(Region.ready .any ops<|Ay listed c AP).isEmpty && !(Region.ready .any ops<|Ay listed b AP).isEmpty && !(Region.ready .any ops<|Ay (Ay listed c AP) b AP).isEmpty && !(Region.ready .any ops<|Ay (Ay listed b AP) v AP).isEmpty&&AR (c≠b/\c≠v/\b≠v/\n≠p/\n≠q/\p≠q/\p<a.tmps.size))=AP)(A:∀y ac V,(execOp a.eval oc).run As V=.ok (.enter f args) V/\(execOp (a.put (H p) y).eval oc).run As V=.ok (.enter f args) V/\(execOp ((a.put (H p) y).put (H q) ac).eval oc).run As V=.ok (.enter f args) V)(hb:∀V,(execOp a.eval ob).run As V=.ok (.value<|G (H ⟨O<|U V,0,Ao⟩) 1 1) (Az V<|M #[C Am u.toNat] 5)/\(execOp (a.put (H n) r).eval ob).run As V=.ok (.value<|G (H ⟨O<|U V,0,Ao⟩) 1 1) (Az V<|M #[C Am u.toNat] 5))(hC:∀V,Ar As f args V λe l=>e=Ak r/\A0 V l)(o:∀V,A0 w V->S V)(h:∀V y,A0 w V->wpAnyH As .any ops Q S fuel (Ay (Ay (Ay listed c AP) b AP) v AP) (((a.put (H n) r).put (H p) y).put (H q)<|Ae ⟨#[u]⟩) V):wpAnyH As .any ops Q S (fuel+3) listed a w:=by
 simp only[Fj,Hh,VZ,Wm,VU,VS,List.isEmpty_eq_false_iff]at P;obtain⟨⟨⟨⟨⟨⟨⟨⟨⟨⟨r1,r2⟩,r3⟩,r4⟩,r5⟩,n1⟩,n2⟩,n3⟩,R⟩,n5⟩,d1,d2,d3,d4,d5,d6,d7⟩:=P;simp only[LO]at N;obtain⟨g1,g2,F,L,g5,g6,g7⟩:=N;obtain⟨o1,W,o3⟩:=ab;have x:∀{a':Act} {V:X} {K:Act->X->Prop},(execOp a'.eval oc).run As V=.ok (.enter f args) V->(∀l,A0 V l->K (a'.put (H n) r) l)->wpOp As ops Q c K a' V:=λ{a' V K} e k=>by refine Ue o1 g1 ?_;rw[e];refine(hC V).mono ?_;grind
 have aa:∀{a':Act} {V:X} {K:Act->X->Prop} {g:I},a'.eval (.tmp p)=G (H ⟨g,0,Ao⟩) 1 1->AC V ⟨g,0,Ao⟩=H (C Am (u.toNat:J))->K (a'.put (H q)<|Ae ⟨#[u]⟩) V->wpOp As ops Q v K a' V:=λ{a' V K g} e k h=>by refine Ue o3 g5 ?_;unfold execOp;simp only[g7,e,GT,i4 k];show K (a'.put ov.dst _) V;rw[g6];exact h
 have cell:∀{V l:X},Below (O (U V)+1) (Az V<|M #[C Am u.toNat] 5) l->AC l ⟨O<|U V,0,Ao⟩=H (C Am (u.toNat:J)):=λ{V l} d=>by rw[d.cell (p:=⟨O<|U V,0,Ao⟩) Ba];simp_all
 have z:∀V:X,O (U<|Az V<|M #[C Am u.toNat] 5)=O (U V)+1:=λV=>Ba;have B:∀V:X,A0 V<|Az V<|M #[C Am u.toNat] 5:=λV=>Cm;refine PS Z n1 λi hi=>?_;rcases r1 i hi with rfl|rfl
 .refine x (A AO AO w).1 λV d=>⟨o V d,PS Z n2 λj m=>?_⟩
  obtain rfl:=r2 j m;refine Ue W F ?_;rw[(hb V).2];show S _/\_;rw[L];have t:=d.trans<|(B V).mono d.size;refine⟨o _ t,PS Z R λj m=>?_⟩;grind [XZ,hH,Below.refl]
 refine Ue W F ?_;rw[(hb w).1];show S _/\_;rw[L];have s:=B w;refine⟨o _ s,PS Z n3 λj m=>?_⟩;rcases r3 j m with rfl|rfl
 .refine x (A _ AO _).2.1 λV d=>?_;have t:=s.trans (d.mono<|by rw[z];omega);simp only[CL,A0]at d;rw[ng _ _ d1.symm,gZ d4.symm];refine⟨o _ t,PS Z R λj m=>?_⟩;grind [XZ,hH]
 refine aa (XZ d7) (cell<|Cu _ _) ⟨o _ s,PS Z n5 λj m=>?_⟩;obtain rfl:=r5 j m;refine x (A _ _ _).2.2 λV d=>?_;have t:=s.trans (d.mono<|by rw[z];omega);grind [gZ,Array.setIfInBounds_comm]
def Y0(h:A0 W V)(k:Below (O<|U V) {V with drawn:=V.drawn+1} V'):A0 W V':=h.drew.trans<|k.mono h.size
theorem i5:∀(k x:I),CJ x (k+1)=CJ (x/256) k++[AW<|x%256]
 |0,x=>by simp[CJ]
 |k+1,x=>by rw[CJ,i5 k x,CJ,Kv,Nat.div_div_eq_div_mul,show 256*2^(8*k)=2^(8*(k+1)) by rw[Nat.mul_succ,Nat.pow_add];omega]
theorem EX{l:A1}{m:A1}:(⟨Aw l⟩:AT)++⟨Aw m⟩=⟨Aw<|l++m⟩:=by apply ByteArray.ext;simp
theorem w8(x:J)(h:0<=x/\x<=255):IntKind.u8.wrap x=x:=Bj
theorem Hy(h:x<256):(AW x).toNat=x:=Bv
theorem Pc:∀(k n:I) (W:X),n<=9223372036854775807->k<=8->Ar As 125 #[C Y n,C Y k] W λe i=>e=Ak (CX<|CJ n k)/\A0 W i
 |0,n,W,_,_=>by unfold CX CJ;go_enter func125,ntmps125;go_wp2;go_ret;exact⟨Z,CT⟩
 |k+1,n,W,hn,hk=>by
  have c:=λV=>Pc k (n/256) V E E;obtain⟨u,r⟩:=DF<|AW<|n%256;have l:(n:J).tdiv 256=((n/256:I):J):=B9;have o:(n:J).tmod 256=((n%256:I):J):=B9;have h:D<|IntKind.u8.wrap ((n:J).tmod 256)=(u.toNat:J):=by grind [D,Hy,w8]
  have g:D<|IntKind.i64.wrap ((n:J).tdiv 256)=((n/256:I):J):=by grind [D,Ie]
  have f:D<|IntKind.i64.wrap (((k+1:I):J)-1)=(k:J):=by grind [D,Ie]
  have p:(((k+1:I):J)==0)=AQ:=B7;have d:D<|CJ n (k+1)=CJ (n/256) k++[u]:=by grind [D,i5]
  have q:¬(K (CJ (n/256) k)+1>9223372036854775807):=keF;rw[AE d];generalize((k+1:I):J)=k1 at *;go_enter func125,ntmps125
  go_wp2_with fail
  refine Dl (S:=λ_=>True) trivial B6 λa=>Cb 0 7 (C Y n) a <| Ch 1 8 (C Y ((n/256:I):J)) Z (λb _=>by go_simp;exact g) a <| Cb 2 9 (C Y k1) a <| Ch 3 10 (C Y k) Z (λb _=>by go_simp;exact f) a <| Cb 5 12 (C Y n) a <| Ch 6 13 (C Y<|(n:J).tmod 256) Z (λb _=>Bh) a <| Ch 7 14 (C Am u.toNat) Z (λb _=>by go_simp;exact h) a <| O4 4 8 9 11 15 16 u ⟨Z,Z,Z⟩ Z B6 (λ_ _ _=>⟨B6,B6,B6⟩) (λ_=>⟨B6,B6⟩) c (λ_ _=>trivial) λV y j=>?_;refine Ch 10 17 (CX<|CJ (n/256) k++[u]) Z (λb _=>by unfold CX;go_simp;exact EX (m:=[u])) a <| Cb 11 4 (CX<|CJ (n/256) k++[u]) a <| CK ?_;go_simp;go_wp2;go_ret;exact⟨Z,(CT (w:=W)).drew.trans j⟩
def Fo(n:AH):AH:=if n<256 then 0 else if n<65536 then 1 else if n<4294967296 then 2 else 3
theorem S5(n:I):Fo n<=3:=by grind [Fo]
theorem S6(W:X)(n:J):Ar As 123 #[C Y n] W λe f=>e=Ak (C Y ((2^Fo n.toNat:I):J))/\A0 W f:=by
 have h:(n<256/\D (Fo n.toNat=0))\/(¬n<256/\n<65536/\D (Fo n.toNat=1))\/(¬n<256/\¬n<65536/\n<4294967296/\D (Fo n.toNat=2))\/(¬n<256/\¬n<65536/\¬n<4294967296/\D (Fo n.toNat=3)):=by unfold Fo D;by_cases a:n<256<;>grind
 rcases h with⟨a,d⟩|⟨a,b,d⟩|⟨a,b,c,d⟩|⟨a,b,c,d⟩
 all_goals
  go_enter func123,ntmps123;go_wp2;go_ret;rw[AE d];exact⟨Z,CT⟩
theorem M9(h:j<=m)(a:m<=3):1<=2^j/\2^j<=8:=by rcases(show j=0\/j=1\/j=2\/j=3 by omega)with rfl|rfl|rfl|rfl<;>decide
theorem Uf(W:X)(q:m<=3):Ar As 124 #[C Y ((2^m:I):J)] W λe i=>e=Ak (C Y m)/\A0 W i:=by
 obtain⟨c,h⟩:∃c:I,D<|2^m=c:=⟨_,show _=_ from rfl⟩
 rw[AE h];go_enter func124,ntmps124;go_wp2
 go_loopg[3,4] m (λg l n wr=>∃j b:I,l=C Y j/\n=C Y b/\wr=W/\D (j+g=m)/\D (b=2^j))
 grind [D];obtain⟨j,b,rfl,rfl,rfl,d,r⟩:=hrel;have p:j<=3:=AY<|AE d;have o:b<=8:=by grind [D,M9]
 obtain _|g:=gk
 .have k:¬(b:J)<(c:J):=by grind [D]
  have f:D<|j=m:=AE d;go_wp2;go_ret;rw[AE f];exact⟨Z,CT⟩
 have k:(b:J)<(c:J):=by have e:=AE d;have:=aa (a:=2) B8 (show j<m by omega);grind [D]
 go_wp2;go_roundg g;exact⟨j+1,b*2,Bb,Bb,Z,B9,by grind [D]⟩;omega
def JR(w:X)(v:J)(b:AU)(a:v=b.toNat):(convert 50 9<|G (Aa<|O<|U w) 1 1).run As (Az w<|M #[C Am v] 5)=.ok (Ae ⟨#[b]⟩) (Az w<|M #[C Am v] 5):=by subst a;exact i4<|Cc (Cj w) 0
def vZ(s:I)(h:¬n<24):Dd s n=AW (32*s+24+Fo n)::CJ n (2^Fo n):=by
 unfold Dd Fo;rw[Cl h];by_cases a:n<256
 .rw[Cp E,Cp a]
 rw[Cl E,Cl a];by_cases b:n<65536
 .rw[Cp E,Cp b]
 rw[Cl E,Cl b];by_cases c:n<4294967296
 .rw[Cp E,Cp c]
 rw[Cl E,Cl c]
def Qu(W:World)(s n:Nat)(hs:s<=7)(hn:n<=9223372036854775807):Calls prog 120 #[.int .i64 s,.int .i64 n] W λe F=>e=.returned (CX<|Dd s n)/\Below W.heap.size W F:=by
 by_cases v:n<24
 .obtain⟨u,f⟩:=DF<|UInt8.ofNat<|32*s+n;have k:Hid<|Dd s n=[u]:=by show _=_;unfold Dd;rw[Cp v,f]
  rw[k.out];have hc:=JR W ((s:Int)*32+n) u (by rw[<-f,Hy E];omega);have R:(n:Int)<24:=E;go_enter func120,ntmps120;go_wp2;go_ret;exact⟨Z,Cm⟩
 obtain⟨m,r⟩:=DF<|Fo n;have w:=r▸S5 n;obtain⟨u,f⟩:=DF<|UInt8.ofNat<|32*s+24+m;have x:Hid<|(u.toNat:Int)=(s:Int)*32+(24+m:Nat):=by show _=_;rw[<-f,Hy E];omega
 have k:Hid<|Dd s n=[u]++CJ n (2^m):=by show _=_;rw[vZ s v,r,f];rfl
 rw[k.out];have q:=λV=>S6 V (n:Int);rw[OD,r]at q;have t:=λV=>Pc (2^m) n V hn (M9 (Cr m) w).2;have Q:¬(1+(CJ n<|2^m).length>9223372036854775807):=by rw[Il];have:=(M9 (Cr m) w).2;omega
 obtain⟨c,o⟩:∃c:Nat,Hid<|2^m=c:=⟨_,show _=_ from rfl⟩
 rw[o.out]at q t Q ⊢;have R:¬(n:Int)<24:=E;go_enter func120,ntmps120
 go_wp2_with(first|(go_at_call 123;refine(q _).mono ?_;rintro e w2 ⟨rfl,N⟩))
 go_loopg[6,7] m (λg zi zw wr=>∃j d:Nat,zi=.int .i64 ((24+j:Nat):Int)/\zw=.int .i64 d/\wr=w2/\Hid (j+g=m)/\Hid (d=2^j))
 exact⟨0,1,Z,Z,Z,Bg,Z⟩;obtain⟨j,d,rfl,rfl,rfl,h,i⟩:=hrel;have P:j<=3:=AY h.out;have h8:d<=8:=by rw[i.out];exact(M9 (Cr j) P).2
 obtain _|g:=gk
 .obtain rfl:j=m:=h.out;have y:¬(d:Int)<(c:Int):=B3 i.out o.out;have z:Hid<|IntKind.i64.wrap ((s:Int)*32)=(s:Int)*32:=Ie E;have A:Hid<|IntKind.i64.wrap ((s:Int)*32+(24+j:Nat))=u.toNat:=by show _=_;rw[x.out];exact Ie E
  have B:Hid<|IntKind.u8.wrap (u.toNat:Int)=u.toNat:=w8 _<|AY u.toNat_lt
  go_wp2_with fail
  refine Dl (S:=λ_=>True) trivial B6 λb=>Cb 0 26 (.int .i64 s) b <| Ch 1 27 (.int .i64<|(s:Int)*32) Z (λp _=>by go_simp<;>exact z.out) b ?_;refine Cb 2 28 (.int .i64 ((24+j:Nat):Int)) b <| Ch 3 29 (.int .i64 u.toNat) Z (λp _=>by go_simp<;>exact A.out) b ?_;refine Ch 4 30 (.int .u8 u.toNat) Z (λp _=>by go_simp<;>exact B.out) b <| Cb 7 33 (.int .i64 n) b <| Cb 8 34 (.int .i64 c) b <| O4 9 5 6 35 31 32 u ⟨rfl,rfl,rfl⟩ rfl B6 (λ_ _ _=>⟨B6,B6,B6⟩) (λ_=>⟨B6,B6⟩) t (λ_ _=>trivial) λV ab L=>?_;refine Ch 10 36 (CX<|[u]++CJ n c) Z (λp _=>by unfold CX;go_simp;exact EX (l:=[u])) b <| Cb 11 4 (CX<|[u]++CJ n c) b <| CK ?_;go_simp;go_wp2;go_ret;exact⟨Z,Y0 N L⟩
 have y:(d:Int)<(c:Int):=by have e:=h.out;have:=aa (a:=2) B8 (show j<m by omega);rw[o.out,<-i.out]at this;omega
 go_wp2;go_roundg g;exact⟨j+1,d*2,Bb,Bb,Z,AZ h.out,by show _=_;rw[i.out,Wf]⟩;omega
def S8:Cn W (O<|U W) (G Ao 0 0) []:=by refine⟨?_,Cr _,Ao,0,0,rfl⟩;exact Fi ..
def jy: String := "internal" ++ (String.singleton (Char.ofNat 47) ++ "strconv.uint64pow10")
def Jq(B:AH)(w:Ap):Prop:=Lib.TabBelow As B w jy .u64 Lib.pow10Tab
def yQ(bs:A1):Lib.byteCells bs=bs.map CP:=by unfold Lib.byteCells CP;rfl
theorem yR(i : -9223372036854775808<=z)(j:z<=9223372036854775807)(hl:K bs<=999999999)(h:Cn W base v bs)(l:Jq base W):Ar As 151 #[v,C Y z,C Y 10] W λe b=>∃a,e=Ak a/\Cn b base a (bs++Lib.itoa z)/\Below base W b:=by
 obtain⟨k,f,o⟩:=h;refine Ce (Any.strconv_AppendInt_10 Tryz.laysM176 base (K bs) z i j v (bs.map CP) W k f E<|Eq.mp (congrArg (λs=>Lib.TabBelow As base W s .u64 Lib.pow10Tab) B6) l) ?_;rintro e w ⟨a,rfl,d,c,_⟩;refine⟨a,Z,⟨?_,?_,?_⟩,c⟩
 .rw[Dj,Ka,<-yQ<|Lib.itoa z];exact d
 .have:=c.size;omega
 rcases d.2 with⟨e,_⟩|⟨g,m,n,e,_⟩<;>grind
theorem zd(n:I)(h:¬n<32)(c:n<4294967296):EP n=AW (217+Fo n)::CJ n (2^Fo n):=by
 unfold EP Fo;rw[Cl h];by_cases a:n<256
 .rw[Cp E,Cp a];rfl
 rw[Cl E,Cl a];by_cases b:n<65536
 .rw[Cp E,Cp b];rfl
 rw[Cl E,Cl b,Cp c];rfl
theorem jC(W:X)(L:n<4294967296):Ar As 122 #[C Y n] W λe o=>e=Ak (CX<|EP n)/\A0 W o:=by
 by_cases A:n<32
 .obtain⟨u,w⟩:=DF<|AW<|160+n;have b:D<|EP n=[u]:=by grind [D,EP]
  rw[AE b];have B:=JR W (160+(n:J)) u keQ;have v:(n:J)<32:=E;go_enter func122,ntmps122;go_wp2;go_ret;exact⟨Z,Cm⟩
 obtain⟨m,h⟩:=DF<|Fo n;have i:=h▸S5 n;obtain⟨u,w⟩:=DF<|AW<|217+m;have x:D<|(u.toNat:J)=217+m:=by grind [D,Hy]
 have b:D<|EP n=[u]++CJ n (2^m):=by grind [D,zd]
 rw[AE b];have d:=λV=>S6 V (n:J);rw[OD,h]at d;have p:=λV=>Pc (2^m) n V E (M9 (Cr m) i).2;have q:=λV=>Uf V i;have F:¬(1+K (CJ n<|2^m)>9223372036854775807):=by grind [Il,M9]
 generalize 2^m=kv at *;obtain⟨f,j⟩:=CC<|[u]++CJ n kv;rw[AE j];have v:¬(n:J)<32:=E;have k:D<|IntKind.i64.wrap (217+(m:J))=u.toNat:=by grind [D,Ie]
 have l:D<|IntKind.u8.wrap (u.toNat:J)=u.toNat:=w8 _ (by grind [D]);go_enter func122,ntmps122
 go_wp2_with(first|(go_at_call 123;refine(d _).mono ?_;rintro e N ⟨rfl,s⟩))
 refine Dl (S:=λ_=>True) trivial B6 λa=>Cb 0 13 (C Y kv) a <| Cb 6 19 (C Y n) a <| Cb 7 20 (C Y kv) a <| CH 1 λz t=>?_;go_simp;refine(q _).mono ?_;rintro e P ⟨rfl,g⟩;refine t.out _ _ a λ_=>?_;refine Ch 2 15 (C Y u.toNat) Z (λc _=>kfy) a <| Ch 3 16 (C Am u.toNat) Z (λc _=>by go_simp<;>exact l) a ?_;refine O4 8 4 5 21 17 18 u ⟨Z,Z,Z⟩ Z B6 (λ_ _ _=>⟨B6,B6,B6⟩) (λ_=>⟨B6,B6⟩) p (λ_ _=>trivial) λV y r=>?_;refine Ch 9 22 (CX f) Z (λc _=>by unfold CX;go_simp;grind [D,EX]) a <| Cb 10 2 (CX f) a <| CK ?_;go_wp2;go_ret;exact⟨B6,Y0 s<|g.trans<|r.mono g.size⟩
def N7(sh lo n:AH):A1:=if n<16 then[AW<|sh+n]else if n<=65535 then AW lo::CJ n 2 else AW (lo+1)::CJ n 4
def jD:N7 144 220 n=KK n/\N7 128 222 n=KL n:=⟨rfl,rfl⟩
theorem jE(W:X)(b lo:I)(q:b<=200)(r:lo<=250)(i:n<=9223372036854775807):Ar As 126 #[C Y b,C Y lo,C Y n] W λe l=>e=Ak (CX<|N7 b lo n)/\A0 W l:=by
 by_cases s:n<16
 .obtain⟨u,j⟩:=DF<|AW<|b+n;have c:D<|N7 b lo n=[u]:=by grind [D,N7]
  rw[AE c];have t:=JR W ((b:J)+(n:J)) u keQ;have o:(n:J)<16:=E;go_enter func126,ntmps126;go_wp2;go_ret;exact⟨Z,Cm⟩
 have o:¬(n:J)<16:=E;by_cases v:n<=65535
 .obtain⟨u,j⟩:=DF<|AW lo;have c:D<|N7 b lo n=[u]++CJ n 2:=by grind [D,N7]
  rw[AE c];have g:=λV=>Pc 2 n V i E;have m:¬(1+K (CJ n 2)>9223372036854775807):=keF;have p:(n:J)<65536:=E;have f:D<|IntKind.u8.wrap (lo:J)=u.toNat:=by grind [D,Hy,w8]
  go_enter func126,ntmps126
  go_wp2_with fail
  refine Dl (S:=λ_=>True) trivial B6 λa=>Cb 0 17 (C Y lo) a <| Ch 1 18 (C Am u.toNat) Z (λd _=>by go_simp<;>exact f) a ?_;refine Cb 4 21 (C Y n) a <| O4 5 2 3 22 19 20 u ⟨Z,Z,Z⟩ Z B6 (λ_ _ _=>⟨B6,B6,B6⟩) (λ_=>⟨B6,B6⟩) g (λ_ _=>trivial) λV y h=>?_;refine Ch 6 23 (CX<|[u]++CJ n 2) Z (λd _=>BI) a <| Cb 7 6 (CX<|[u]++CJ n 2) a <| CK ?_;go_simp;go_wp2;go_ret;exact⟨Z,(Cu _ _).drew.trans h⟩
 obtain⟨u,j⟩:=DF<|AW<|lo+1;have c:D<|N7 b lo n=[u]++CJ n 4:=by grind [D,N7]
 rw[AE c];have g:=λV=>Pc 4 n V i E;have m:¬(1+K (CJ n 4)>9223372036854775807):=keF;have p:¬(n:J)<65536:=E;have k:D<|IntKind.i64.wrap ((lo:J)+1)=u.toNat:=by grind [D,Hy,Ie]
 have f:D<|IntKind.u8.wrap (u.toNat:J)=u.toNat:=w8 _<|AY u.toNat_lt;go_enter func126,ntmps126
 go_wp2_with fail
 refine Dl (S:=λ_=>True) trivial B6 λa=>Cb 0 24 (C Y lo) a <| Ch 1 25 (C Y u.toNat) Z (λd _=>kfy) a ?_;refine Ch 2 26 (C Am u.toNat) Z (λd _=>by go_simp<;>exact f) a <| Cb 5 29 (C Y n) a <| O4 6 3 4 30 27 28 u ⟨rfl,rfl,rfl⟩ rfl B6 (λ_ _ _=>⟨B6,B6,B6⟩) (λ_=>⟨B6,B6⟩) g (λ_ _=>trivial) λV y h=>?_;refine Ch 7 31 (CX<|[u]++CJ n 4) Z (λd _=>BI) a <| Cb 8 6 (CX<|[u]++CJ n 4) a <| CK ?_;go_simp;go_wp2;go_ret;exact⟨Z,(Cu _ _).drew.trans h⟩
def Po(z:AI):AH:=if z < -4611686018427387904 then 3 else Fo ((-1-z)*2).toNat
theorem ze(n:I)(h:¬n<128):GY n=AW (204+Fo n)::CJ n (2^Fo n):=by
 unfold GY Fo;rw[Cl h];by_cases a:n<256
 .rw[Cp E,Cp a];rfl
 rw[Cl E,Cl a];by_cases b:n<65536
 .rw[Cp E,Cp b];rfl
 rw[Cl E,Cl b];by_cases c:n<4294967296
 .rw[Cp E,Cp c];rfl
 rw[Cl E,Cl c];rfl
theorem zf(z:J)(h:z < -32):Hx z=AW (208+Po z)::CJ (z%18446744073709551616).toNat (2^Po z):=by
 unfold Hx Po Fo;rw[Cl E];by_cases d:z < -4611686018427387904
 .rw[Cp d,Cl E,Cl E,Cl E];rfl
 rw[Cl d];by_cases a : -128<=z
 .rw[Cp a,Cp<|show((-1-z)*2).toNat<256 by omega];rfl
 rw[Cl a,Cl<|show¬((-1-z)*2).toNat<256 by omega];by_cases b : -32768<=z
 .rw[Cp b,Cp<|show((-1-z)*2).toNat<65536 by omega];rfl
 rw[Cl b,Cl<|show¬((-1-z)*2).toNat<65536 by omega];by_cases c : -2147483648<=z
 .rw[Cp c,Cp<|show((-1-z)*2).toNat<4294967296 by omega];rfl
 rw[Cl c,Cl<|show¬((-1-z)*2).toNat<4294967296 by omega];rfl
theorem zg(z:J):Po z<=3:=by grind [Po,S5]
def jF{q:J}(hi:i<8)(a:q=z/2^(8*i)):((z%18446744073709551616).toNat/2^(8*i)%256:I)=(q%256).toNat/\q/256=z/2^(8*(i+1)):=by subst a;rcases(show i=0\/i=1\/i=2\/i=3\/i=4\/i=5\/i=6\/i=7 by omega)with rfl|rfl|rfl|rfl|rfl|rfl|rfl|rfl<;>(simp;omega)
theorem zh(W:X)(n:I)(N:n<=9223372036854775807):Ar As 121 #[C Y n] W λe o=>e=Ak (CX<|GY n)/\A0 W o:=by
 have F:0<=(n:J):=E;by_cases A:n<128
 .obtain⟨u,w⟩:=DF<|AW n;have b:D<|GY n=[u]:=by grind [D,GY]
  rw[AE b];have B:=JR W (n:J) u keQ;have v:(n:J)<128:=E;go_enter func121,ntmps121;go_wp2;go_ret;exact⟨Z,Cm⟩
 obtain⟨m,h⟩:=DF<|Fo n;have i:=h▸S5 n;obtain⟨u,w⟩:=DF<|AW<|204+m;have x:D<|(u.toNat:J)=204+m:=by grind [D,Hy]
 have b:D<|GY n=[u]++CJ n (2^m):=by grind [D,ze]
 rw[AE b];have d:=λV=>S6 V (n:J);rw[OD,h]at d;have p:=λV=>Pc (2^m) n V E (M9 (Cr m) i).2;have q:=λV=>Uf V i;have L:¬(1+K (CJ n<|2^m)>9223372036854775807):=by grind [Il,M9]
 generalize 2^m=kv at *;obtain⟨f,j⟩:=CC<|[u]++CJ n kv;rw[AE j];have v:¬(n:J)<128:=E;have k:D<|IntKind.i64.wrap (204+(m:J))=u.toNat:=by grind [D,Ie]
 have l:D<|IntKind.u8.wrap (u.toNat:J)=u.toNat:=w8 _ (by grind [D]);go_enter func121,ntmps121
 go_wp2_with(first|(go_at_call 123;refine(d _).mono ?_;rintro e P ⟨rfl,s⟩))
 refine Dl (S:=λ_=>True) trivial B6 λa=>Cb 0 18 (C Y kv) a <| Cb 6 24 (C Y n) a <| Cb 7 25 (C Y kv) a <| CH 1 λz t=>?_;go_simp;refine(q _).mono ?_;rintro e Q ⟨rfl,g⟩;refine t.out _ _ a λ_=>?_;refine Ch 2 20 (C Y u.toNat) Z (λc _=>kfy) a <| Ch 3 21 (C Am u.toNat) Z (λc _=>by go_simp<;>exact l) a ?_;refine O4 8 4 5 26 22 23 u ⟨Z,Z,Z⟩ Z B6 (λ_ _ _=>⟨B6,B6,B6⟩) (λ_=>⟨B6,B6⟩) p (λ_ _=>trivial) λV y r=>?_;refine Ch 9 27 (CX f) Z (λc _=>by unfold CX;go_simp;grind [D,EX]) a <| Cb 10 2 (CX f) a <| CK ?_;go_wp2;go_ret;exact⟨B6,Y0 s<|g.trans<|r.mono g.size⟩
theorem YA(q:J):∃b:I,b<256/\q%256=b/\(q-b).tdiv 256=q/256/\((q.tmod 256=b-256/\0<b)\/q.tmod 256=b):=by refine⟨(q%256).toNat,E,E,?_,?_⟩<;>grind
theorem zl(hz:z<0)(h1 : -9223372036854775808<=z):Ar As 121 #[C Y z] W λe Q=>e=Ak (CX<|Hx z)/\A0 W Q:=by
 have an:¬0<=z:=E;by_cases am : -32<=z
 .obtain⟨u,hu⟩:=DF<|AW (z%256).toNat;have P:D<|Hx z=[u]:=by grind [D,Hx]
  rw[AE P];have L:=JR W (z+256) u keQ;go_enter func121,ntmps121;go_wp2;go_ret;exact⟨Z,Cm⟩
 obtain⟨m,hm⟩:=DF<|Po z;have ab:=hm▸zg z;obtain⟨u,hu⟩:=DF<|AW<|208+m;obtain⟨f,HZ⟩:=CC<|(z%18446744073709551616).toNat;have P:D<|Hx z=[u]++CJ f (2^m):=by grind [D,zf]
 rw[AE P];have ao:=(M9 (Cr m) ab).2;have o:=λV al=>S6 V al;have h:=λV=>Uf V ab;have B:D (∀w:X,(convert 50 9<|G (Aa<|O<|U w) 1 1).run As (Az w<|M #[C Am<|208+(m:J)] 5)=.ok (Ae ⟨#[u]⟩) (Az w<|M #[C Am<|208+(m:J)] 5)):=λw=>JR w _ u keQ;have ag:(z < -4611686018427387904/\m=3)\/(¬z < -4611686018427387904/\Fo ((-1-z)*2).toNat=m):=by grind [Po]
 rcases ag with⟨ae,rfl⟩|⟨ae,hm⟩
 .have ad:∀V,Ar As 124 #[C Y 8] V λe Q=>e=Ak (C Y 3)/\A0 V Q:=h;have ac:D (∀w:X,(convert 50 9<|G (Aa<|O<|U w) 1 1).run As (Az w<|M #[C Am 211] 5)=.ok (Ae ⟨#[u]⟩) (Az w<|M #[C Am 211] 5)):=B
  replace h:=ad
  replace B:=ac
  go_enter func121,ntmps121
  go_wp2_with(first|(go_at_call 123;refine(o _ _).mono ?_;rintro e w2 ⟨rfl,F⟩))
  go_loopg[0,5,6] 8 (λg zq zs zi wr=>∃(q:J) (i:I),zq=C Y q/\zs=Ae ⟨Aw<|CJ f i⟩/\zi=C Y i/\D (i+g=8)/\D (q=z/2^(8*i))/\D (-9223372036854775808<=q/\q<=9223372036854775807)/\D (A0 W wr))
  exact⟨z,0,Z,Z,Z,Bg,BR,⟨h1,E⟩,F⟩;obtain⟨q,i,rfl,rfl,rfl,c,N,j,a⟩:=hrel;have ah:i<=8:=AY<|AE c;have ai:¬(1+K (CJ f i)>9223372036854775807):=keF;obtain _|g:=gk
  .have p:D<|i=8:=AE c;have x:¬(i:J)<8:=AY<|AE p
   go_wp2_with(first|(go_at_call 124;refine(h _).mono ?_;clear h;rintro e w3 ⟨rfl,y⟩;have L:=B.out w3))
   go_ret;refine⟨?_,a.trans<|(y.mono a.size).alloc (CE a.size y.size) _⟩;obtain rfl:=AE p;exact congrArg (λaa=>Ending.returned<|Value.string aa)<|EX (l:=[u])
  have x:(i:J)<8:=AY<|AE c;obtain⟨b,hb,S,d,k⟩:=YA q;obtain⟨v,A⟩:=DF<|AW b;have L:=JR wr (b:J) v (by rw[<-A,Hy hb]);have hn:=jF (AY<|AE c) N.out;have r:D<|CJ f (i+1)=[v]++CJ f i:=by grind [D,CJ]
  have hw:=AE j;have n:wrap64 ((wrap64<|q-b).tdiv 256)=q/256:=kfB;have s:D<|wrap64 ((wrap64<|q-b).tdiv 256)=z/2^(8*(i+1)):=B9;have t:D<|-9223372036854775808<=wrap64 ((wrap64<|q-b).tdiv 256)/\wrap64 ((wrap64<|q-b).tdiv 256)<=9223372036854775807:=by grind [D]
  have aj:=j.out.1;have ak:=j.out.2;clear hn S d n hw A h;rcases k with⟨k,af⟩|k
  .have R:(b:J)-256<0:=E;go_wp2;go_roundg g;exact⟨_,i+1,Z,by rw[AE r,<-EX],Bb,B9,s,t,a.alloc a.size _⟩;omega
  have R:¬(b:J)<0:=E;go_wp2;go_roundg g;exact⟨_,i+1,Z,by rw[AE r,<-EX],Bb,B9,s,t,a.alloc a.size _⟩;omega
 replace o:=λV=>o V<|(-1-z)*2
 rw[hm]at o;generalize 2^m=kv at *;go_enter func121,ntmps121
 go_wp2_with(first|(go_at_call 123;refine(o _).mono ?_;clear o;rintro e w2 ⟨rfl,F⟩))
 go_loopg[0,5,6] kv (λg zq zs zi wr=>∃(q:J) (i:I),zq=C Y q/\zs=Ae ⟨Aw<|CJ f i⟩/\zi=C Y i/\D (i+g=kv)/\D (q=z/2^(8*i))/\D (-9223372036854775808<=q/\q<=9223372036854775807)/\D (A0 W wr))
 exact⟨z,0,Z,Z,Z,Bg,BR,⟨h1,E⟩,F⟩;obtain⟨q,i,rfl,rfl,rfl,c,N,j,a⟩:=hrel;have ah:i<=8:=AY<|AE c;have ai:¬(1+K (CJ f i)>9223372036854775807):=keF;obtain _|g:=gk
 .have p:D<|i=kv:=AE c;have x:¬(i:J)<(kv:J):=AY<|AE p;clear c N j F
  go_wp2_with(first|(go_at_call 124;refine(h _).mono ?_;clear h;rintro e w3 ⟨rfl,y⟩;have L:=B.out w3))
  go_ret;refine⟨?_,a.trans<|(y.mono a.size).alloc (CE a.size y.size) _⟩;obtain rfl:=AE p;exact congrArg (λaa=>Ending.returned<|Value.string aa)<|EX (l:=[u])
 have x:(i:J)<(kv:J):=AY<|AE c;obtain⟨b,hb,S,d,k⟩:=YA q;obtain⟨v,A⟩:=DF<|AW b;have L:=JR wr (b:J) v (by rw[<-A,Hy hb]);have hn:=jF (AY<|AE c) N.out;have r:D<|CJ f (i+1)=[v]++CJ f i:=by grind [D,CJ]
 have hw:=AE j;have n:wrap64 ((wrap64<|q-b).tdiv 256)=q/256:=kfB;have s:D<|wrap64 ((wrap64<|q-b).tdiv 256)=z/2^(8*(i+1)):=B9;have t:D<|-9223372036854775808<=wrap64 ((wrap64<|q-b).tdiv 256)/\wrap64 ((wrap64<|q-b).tdiv 256)<=9223372036854775807:=by grind [D]
 have aj:=j.out.1;have ak:=j.out.2;clear hn S d n hw A h;rcases k with⟨k,af⟩|k
 .have R:(b:J)-256<0:=E;go_wp2;go_roundg g;exact⟨_,i+1,Z,by rw[AE r,<-EX],Bb,B9,s,t,a.alloc a.size _⟩;omega
 have R:¬(b:J)<0:=E;go_wp2;go_roundg g;exact⟨_,i+1,Z,by rw[AE r,<-EX],Bb,B9,s,t,a.alloc a.size _⟩;omega
end
end Go.Proofs.YtaehkdnabiccnaaGreatDoor


