import Derived.Test.YtaehkdnabiccnaaGreatDoorGr00
set_option maxRecDepth 100000
set_option maxHeartbeats 8000000
set_option linter.all false
namespace Go.Proofs.YtaehkdnabiccnaaGreatDoor
open Go.Proofs.Tryz
open _root_ renaming Nat->I,Int->J,Nat->AH,Int->AI,List->AJ,Bool->AK,Except->AS,ByteArray->AT,UInt8->AU
open Go.Value renaming int->C,slice->G,slice->AX,int->Ab,slice->Ac,pointer->Ad,string->Ae,tuple->Af,agg->Ag,bool->Ah,iface->Ai,ownBlock->Ax
open Go.World renaming heap->U,setCell->AB,cell?->AC,setRow->AD,heap->Av,alloc->Az
open _root_.Array renaming size->O,size->Au,setIfInBounds->Ay
open _root_.List renaming length->K,length->At,toArray->Aw
open Go.IntKind renaming i64->Y,i64->Al,u8->Am
open Go.RowKit renaming Hid->D
open Go renaming World->X,DataW->AM,TypeId->AN,undef->AO,World->Ap,Value->Aq,Calls->Ar
open Option renaming some->H,some->An,none->Ao
open Go.Obj renaming cells->M,cells->Aj
open Go.Ending renaming returned->Ak
open Go.Proofs.Tryz renaming prog->As
open Go.RowKit.Hid renaming out->AE
open Or renaming inl->AF,inr->AG
open _root_.Bool renaming true->AP,false->AQ
open _root_.Decidable renaming decide->AR
variable{P:Program}{B V V' V0 V3 W W' w w5:X}{N ar b base bytes dst f fuel g g2 i j k lo m n p q size so wi wi':I}{fv v v' vs x z:Aq}{acc bs:A1}{s:Cw}{e t ty:AN}{F:I->Prop}{news xs:AJ Aq}{a:Act}{c:AU}{ops:Array Oper}{rest:AJ Oper}{o oi:Oper}{Q:Exit->Act->X->Prop}{fm l lim:J}{d:A2}{A args cs tmps:A3}{fn:Func}{u:Tmp}{fr:I×I}{ev:Operand->Aq}{r:Ending}{S:X->Prop}{md:Region.Mode}{listed:Array AK}{R:Ending->X->Prop}{ks:AJ A1}{hd:I->I×I×I}{ds:AJ (AM Unit)}{rd:I->AS (J×J) (AM Unit×I)}{es:AJ (Lit×AM Unit)}
section
open Go.RowKit
def EV(bs:A1)(lim:AI):AH->AH->A1->A5 A1
 |0,p,acc=>.ok (acc,p)
 |k+1,p,acc=>match bs[p]? with
  |none=>.error (9,p)
  |some c=>if(p:AI)=lim then .error (8,p)else EV bs lim k (p+1) (acc++[c])
def Rw{α:Type}(W:Ap)(b:AH)(s:Cw)(val:Ap->Aq->α->Prop)(r:A5 α)(e:Ending)(W':Ap):Prop :=
 Ci b W W'/\match r with
 |.ok (x,p)=>(∃v,e=Ak v/\val W' v x)/\Ck W' b {s with a:=p}
 |.error (en,pl)=>D4 en pl e/\∃p,Ck W' b {s with a:=p}
structure MH(W:Ap)(b:AH)(fv:Aq)(s:Cw)(p:AH)(v:Aq)(acc:A1)(V:Ap):Prop where
 e:Ck V b {s with a:=p}
 ai:Ci b W V
 h:V.heap[Au (Av W)]?=An (Aj #[A8 b,fv] 218)
 a0:Cn V (Au (Av W)+1) v acc
def qG(h:Cn W base v bs)(c:Ci b W W')(o:b<base):Cn W' base v bs:=by
 obtain⟨⟨j,a⟩,k,l⟩:=h;refine⟨⟨j,?_⟩,CE k c.size,l⟩;rcases a with a|⟨g,f,i,e,n,d,m⟩
 .exact AF a
 exact AG ⟨g,f,i,e,n,Ca (c.block g (Cd d) E) d,m⟩
def MH.take(h:MH W b fv s p v acc V)(hb:b<O (U W))(c:Ck V' b {s with a:=q})(a:Ci b V V'):MH W b fv s q v acc V' :=
 ⟨c,h.ai.trans a,Ca (a.block _ (Cd h.h) E) h.h,qG h.a0 a E⟩
def MH.a2{acc':A1}(h:MH W b fv s p v acc V)(d:Ck W b s)(a:Below (O (U W)+1) V V')(f:Cn V' (O (U W)+1) v' acc'):MH W b fv s p v' acc' V' :=
 ⟨d.same rfl rfl h.e λk c=>Co a k E,⟨Ca a.os h.ai.os,Ca a.tape h.ai.tape,Ca a.output h.ai.output,CE h.ai.size a.size,λk c e=>Ca (Co a k E)<|h.ai.block k c e⟩,Ca (Co a _ E) h.h,f⟩
def qH(h:Ck W b s):MH W b fv s s.a (G Ao 0 0) []<|Az W<|M #[A8 b,fv] 218:=by have a:Below _ W<|Az W<|M #[A8 b,fv] 218:=Cm;refine⟨h.ac a,Ci.of_below a,Cj W,Fi _ _ _ _,?_,Ao,0,0,Z⟩;simp
theorem qI(f:I)(hn:n<18446744073709551616)(h:Ck W b s)(ap:K s.e<=200000000):Ar As 304 #[Ag #[A8 b,.func (.func f) #[] #[]],C .u64 n] W<|Rw W b s (λV ai ah=>Cn V (O (U W)+1) ai ah)<|EV s.e s.d n s.a []:=by
 obtain⟨i0,hi,ae,af,ag⟩:=DL Tryz.infoU8;have y:D<|MH W b _ s _ _ []<|Az W<|M #[.pointer _,.func (.func f) #[] #[]] _:=qH h;have v:=T h;have aa:=Cd h.ad;have ao:=h.a;obtain⟨R,o⟩:=CC<|EV s.e s.d n s.a [];rw[AE o];go_enter func304,ntmps304;go_wp2;generalize Az W (M #[A8 b,.func (.func f) #[] #[]] 218)=W0 at *
 go_loopg[5,7] n (λg aj ak wr=>∃(k p:I) (a:A4) (m c:I) (r:A1),aj=G a m c/\ak=C .u64 k/\D (k+g=n)/\D (p<=K s.e)/\D (K r<=p)/\D (MH W b (.func (.func f) #[] #[]) s p (G a m c) r wr)/\D (EV s.e s.d g p r=R))
 grind [D];clear y o;obtain⟨k,p,a,m,c0,r,rfl,rfl,P,hp,ha,d,o⟩:=hrel;have kb:=Cc d.h 0;obtain _|g:=gk
 .have hk:k=n:=AY<|AE P;subst hk;have q:D<|R=.ok _:=o.symm;go_wp2;go_ret;rw[AE q];exact⟨d.ai,⟨_,Z,d.a0⟩,d.e⟩
 have an:k<n:=AY<|AE P;rcases JD d.e with i|i|⟨c,i⟩
 .have q:D<|R=.error (9,p):=by show _=_;rw[<-AE o,EV,I7 (by have:p=K s.e:=i;omega)]
  have t:=KB d.e i
  go_wp2_with(first
   |(go_at_call 270;apply t.mono;rintro e B ⟨hF,j⟩;obtain rfl:=hF))
  rw[AE q];exact⟨Z,d.ai.trans<|Ci.of_below j,Z,_,d.e.ac j⟩
 .have q:D<|R=.error (8,p):=by show _=_;have h2:=i.2;have h3:=i.1;grind [D,EV]
  have t:=KC d.e i
  go_wp2_with(first
   |(go_at_call 270;apply t.mono;rintro e B ⟨hF,j⟩;obtain rfl:=hF))
  rw[AE q];exact⟨Z,d.ai.trans<|Ci.of_below j,Z,_,d.e.ac j⟩
 have ab:=i.1;have ac:=i.2;have l:=T i.lt;have x:=AE o;rw[EV,ab]at x;simp only[]at x;rw[Cl ac]at x;have u:=T x;have t:Ar _ _ _ wr λe N=>e=Ak _/\Ck N b {s with a:=p+1}/\Ci b wr N:=J4 d.e i;have am:K r<=999999999:=by grind [D]
 go_wp2_with(first
  |(go_at_call 270;apply t.mono;rintro e B ⟨rfl,hS,j⟩;have A:=T<|d.take aa hS j;have L:=T A.a0.1;have w:=T A.a0.2.1)
  |(at_builtin;refine K8 _ Z _ _ _ Z _ 5 i0 _ 1 1 underlying219 hi ae af ag Z B8 _ _ _ Z (L.alloc _) _ 1 1 [.int _ _] Z Z (EU) (λar S=>by simp at S;subst S;rfl) Bc E (B1<|AE w) ?_;intro v' w5 Q ad aq;obtain⟨g5,al,rfl⟩:=ownsRow_succ Q;have F:=T<|GX ((Cu _ B).alloc w _) (L.alloc _) ad<|B1<|AE w;have z:=T<|A.a2 v F ⟨MF Q Z,CE w F.size,_,_,_,Z⟩))
 go_roundg g;exact⟨_,_,_,_,_,_,Z,Bb,B9,l,by grind [D],z,u⟩;omega
def DQ(V:Ap)(t:AN)(size:AH)(F:AH->Prop)(v:Aq)(n:AH)(xs:AJ Aq):Prop :=
 At xs=n*size/\((v=Ac Ao 0 0/\n=0)\/∃g cap cur,v=Ac (Aa g) n cap/\F g/\V.heap[g]?=An (Aj cur t (0,0))/\n<=cap/\cap<=maxLen/\cur.size=cap*size/\cur.toList.take (n*size)=xs)
def CA:AH->Ap->(AH->Prop)->Aq->A2->Prop
 |0,_,_,_,_=>False
 |k+1,V,F,v,d=>match d with
  |.nil=>v=Ai 268 (Ag #[])
  |.lit (.bool b)=>v=Ai 279 (Ah b)
  |.lit (.int Al z)=>v=Ai 281 (Ab Al z) /\ -9223372036854775808<=z/\z<=9223372036854775807
  |.lit (.string l)=>v=Ai 283 (Ae ⟨Aw l⟩)
  |.ptr (.lit<|.string l)=>∃u,v=Ai 219 u/\DQ V 5 1 F u (At l) (l.map CP)
  |.agg ds=>∃u xs,v=Ai 221 u/\DQ V 89 1 F u (At ds) xs/\∀(i:AH) (x:Aq) (d:A2),xs[i]?=An x->ds[i]?=An d->CA k V F x d
  |.map es=>∃u xs,v=Ai 223 u/\DQ V 225 2 F u (At es) xs/\∀(i:AH) (key:Lit) (d:A2),es[i]?=An (key,d)->∃l x,key=.string l/\xs[2*i]?=An (Ae ⟨Aw l⟩)/\xs[2*i+1]?=An x/\CA k V F x d
  |_=>False
theorem DQ.same{G:I->Prop}(h:DQ V t size F v n xs)(j:∀k,F k->G k)(m:∀k,F k->V'.heap[k]?=V.heap[k]?):DQ V' t size G v n xs:=by
 obtain⟨f,a⟩:=h;refine⟨f,?_⟩;rcases a with a|⟨g,c,d,e,b,l,i⟩
 .exact AF a
 exact AG ⟨g,c,d,e,j g b,Ca (m g b) l,i⟩
theorem CA.same{G:I->Prop}(a:∀k,F k->G k)(b:∀k,F k->V'.heap[k]?=V.heap[k]?):∀{k:I} {v:Aq} {d:A2},CA k V F v d->CA k V' G v d
 |0,_,_,h=>h
 |k+1,v,d,h=>by
  unfold CA at h ⊢;split at h
  .exact h
  .exact h
  .exact h
  .exact h
  .obtain⟨u,e,c⟩:=h;exact⟨u,e,c.same a b⟩
  .obtain⟨u,j,e,c,g⟩:=h;exact⟨u,j,e,c.same a b,λi x d f q=>CA.same a b<|g i x d f q⟩
  .obtain⟨u,j,e,c,g⟩:=h;refine⟨u,j,e,c.same a b,λi key d f=>?_⟩;obtain⟨l,x,m,n,o,p⟩:=g i key d f;exact⟨l,x,m,n,o,CA.same a b p⟩
  exact h
def CA.ai:∀{k m:I} {v:Aq} {d:A2},k<=m->CA k V F v d->CA m V F v d
 |0,_,_,_,_,h=>h.elim
 |k+1,0,_,_,hm,_=>absurd hm E
 |k+1,m+1,v,d,hm,h=>by
  unfold CA at h ⊢;split at h
  .exact h
  .exact h
  .exact h
  .exact h
  .exact h
  .obtain⟨u,f,e,c,b⟩:=h;exact⟨u,f,e,c,λi x d a p=>CA.ai E<|b i x d a p⟩
  .obtain⟨u,f,e,c,b⟩:=h;refine⟨u,f,e,c,λi key d a=>?_⟩;obtain⟨l,x,g,j,n,o⟩:=b i key d a;exact⟨l,x,g,j,n,CA.ai E o⟩
  exact h
theorem WQ{i:TypeInfo}(l:P.underlying t=H (.slice e))(hi:P.info? e=H i)(q:i.zero=H z)(N:i.size=size)(s:i.bytes=bytes)(k:w.ownsRow base e size v n xs){a:Addr}{c:I}(hl:K news=m*size)(h:∀j u,news[j]?=H u->AC w (a.add j)=H u)(r:∀u∈news,u.oneCell'=AP)(F:0<m)(Q:n+m<=maxLen)(x:(n+m)*bytes<=140737488355328){w':X}(b:(Builtin.append_ #[t,t] ty #[v,G (H a) m c]).run P w=.ok v' w'):Ax v'=Ax v\/Ax v'=H (O<|U w):=by
 subst N;subst s;have W:n+m<=9223372036854775807:=BC;rcases k.2 with⟨rfl,rfl⟩|⟨g,f,o,rfl,R,B,V,S,y,aa⟩
 .have d:=run_append_nil w t ty e i z l hi q a m c news hl h F E B9;rw[d]at b;injection b with e1 e2;right;rw[<-e1];rfl
 by_cases p:n+m<=f
 .have A:n*i.size+K news<=o.size:=by rw[hl,y,<-Nat.add_mul];exact PN _ p
  have d:=run_append_room w t ty e i l hi g n f o B a m c news hl h r p A;rw[d]at b;injection b with e1 e2;left;rw[<-e1];rfl
 have L:=k.cells (g:=g) Z;have d:=run_append_grow w t ty e i z l hi q _ n f xs k.1 L a m c news hl h E E<|growslice_fits E x;rw[d]at b;injection b with e1 e2;right;rw[<-e1];rfl
def JH(V:o.guard=Ao){s x:Operand}(ho:o.op=.call {callee:=.builtin .append,args:=#[s,x],argTypes:=#[t,t]}){i:TypeInfo}(A:P.underlying t=H (.slice e))(hi:P.info? e=H i)(B:i.zero=H z)(y:i.size=size)(k:i.bytes=bytes)(ab:z.cells.size=size)(aa:0<size)(hs:a.eval s=v)(q:w.ownsRow base e size v n xs){ad:Addr}(m c:I)(hx:a.eval x=G (H ad) m c)(hl:K news=m*size)(p:∀j u,news[j]?=H u->AC w (ad.add j)=H u)(f:∀u∈news,u.oneCell'=AP)(W:0<m)(g:n+m<=maxLen)(l:(n+m)*bytes<=140737488355328)(S:base<=O (U w))(h:∀b d,d.ownsRow base e size b (n+m) (xs++news)->w.grownBy d (Ax v)->(Ax b=Ax v\/Ax b=H (O<|U w))->wpList P ops Q rest (a.put o.dst b) d):wpList P ops Q (o::rest) a w:=by refine LQ V λac R=>?_;obtain⟨b,d,r,F,L,_⟩:=Re w base t o.type e i z size bytes A hi B y k ab aa v n xs q ad m c news hl p f g l S;have N:=WQ A hi B y k q hl p f W g l r;unfold Oper.wp execOp;simp only[ho,resolve,invoke,builtin,GU,Gf,G0,OF,I8,Mw,hs,hx,r];exact R _ _<|h b d F L N
def NI(bs:A1)(fm d l:AI):Aq:=Ag #[Ae ⟨Aw bs⟩,Ab Al fm,Ab Al d,Ab Al l]
def CN(bs:A1)(l:AI)(i:AH):AK:=AR (i<At bs)&&AR ((i:AI)<l)
def D5(bs:A1)(l:AI)(i:AH)(e:AI):AI×AI:=if l<=i/\i<At bs then(8,i)else if At bs<=i then(9,At bs)else(e,i)
def qK(x:AI×AI):Aq:=Ag #[Ab Al x.1,Ab Al x.2]
def NJ(bs:A1):(⟨Aw bs⟩:AT).size=K bs:=by show(Aw bs).size=_;simp
def Tv{d:J}:Ar As 116 #[NI bs fm d l,C Y i] W λe g=>e=Ak (Ah<|CN bs l i)/\A0 W g:=by
 have m:=NJ bs;obtain⟨R,c⟩:=CC<|CN bs l i;rw[AE c];have a:=AE c;unfold CN at a;unfold NI;by_cases f:i<K bs
 .have h:AR (i<(K bs:J))=AP:=B7;have j:i<(K bs:J):=E;rw[Fm f,SW]at a;cases b:AR<|(i:J)<l
  .rw[b]at a;subst a;have k:=of_decide_eq_false b;go_enter func116,ntmps116;go_wp2;go_ret;exact⟨Z,Cm⟩
  rw[b]at a;subst a;have k:=Dr b;go_enter func116,ntmps116;go_wp2;go_ret;exact⟨Z,Cm⟩
 have h:AR (i<(K bs:J))=AQ:=B7;have j:¬i<(K bs:J):=E;rw[FO f,Bool.false_and]at a;subst a;go_enter func116,ntmps116;go_wp2;go_ret;exact⟨Z,Cm⟩
def d8:(prog.info? 103).map (·.size)=H 2:=B6
def Tw{B s:I}(a:O (U V)=B)(b:cs.size=2)(c:tmps.getD s AO=A8 B)(h:fn.results=#[.cell s 103]):(results fn tmps).run As (Az V<|M cs 103)=.ok (.agg cs) (Az V<|M cs 103) :=
 Lb h tmps _ B 103 cs (0,0) _ c (by rw[<-a];exact Cj _) underlying103 Z (by rw[b];exact d8)
def Tx{o o':Obj}:A0 W<|Az (Az W o) o':=(Cm).alloc Ba _
def M3(W:X)(bs:A1)(fm d l:J)(i:I)(f:J):Ar As 84 #[NI bs fm d l,C Y i,C Y f] W λe m=>e=Ak (qK<|D5 bs l i f)/\A0 W m:=by
 have p:=NJ bs;obtain⟨R,h⟩:=CC<|D5 bs l i f;rw[AE h];have a:=AE h;unfold D5 at a;unfold NI;by_cases b:l<=(i:J)
 .by_cases g:i<K bs
  .rw[Cp ⟨b,g⟩]at a;subst a;have j:AR (l<=i)=AP:=BG;have n:i<(K bs:J):=E;have o:AR (i<(K bs:J))=AP:=B7;go_enter func84,ntmps84;go_wp2;exact CS (Tw Ba Z Z results84) Z ⟨Z,Tx⟩
  rw[Cl λc=>g c.2,Cp E]at a;subst a;have j:AR (l<=i)=AP:=BG;have n:¬i<(K bs:J):=E;have o:AR (i<(K bs:J))=AQ:=B7;have k:K bs<=(i:J):=E;go_enter func84,ntmps84;go_wp2;exact CS (Tw Ba Z Z results84) Z ⟨Z,Tx⟩
 have j:AR (l<=i)=AQ:=BG;by_cases g:i<K bs
 .rw[Cl λc=>b c.1,Cl E]at a;subst a;have k:¬(K bs)<=(i:J):=E;go_enter func84,ntmps84;go_wp2;exact CS (Tw Ba Z Z results84) Z ⟨Z,Tx⟩
 rw[Cl λc=>b c.1,Cp E]at a;subst a;have k:K bs<=(i:J):=E;go_enter func84,ntmps84;go_wp2;exact CS (Tw Ba Z Z results84) Z ⟨Z,Tx⟩
def qL(W:X)(c:AU):Ar As 117 #[C Am c.toNat] W λe j=>e=Ak (Ah<|MC c)/\j=W:=by
 obtain⟨R,i⟩:=CC<|MC c;rw[AE i];have a:=AE i;unfold MC at a;have k:((c.toNat:J)==32)=(c.toNat==32):=by cases h:(c.toNat==32)with|true=>simp at h;simp[h]|false=>simp at h;simp;omega
 have l:((c.toNat:J)==9)=(c.toNat==9):=by cases h:(c.toNat==9)with|true=>simp at h;simp[h]|false=>simp at h;simp;omega
 have m:((c.toNat:J)==10)=(c.toNat==10):=by cases h:(c.toNat==10)with|true=>simp at h;simp[h]|false=>simp at h;simp;omega
 have n:((c.toNat:J)==13)=(c.toNat==13):=by cases h:(c.toNat==13)with|true=>simp at h;simp[h]|false=>simp at h;simp;omega
 cases b:(c.toNat==32)<;>cases d:(c.toNat==9)<;>cases f:(c.toNat==10)<;>cases g:(c.toNat==13)<;>rw[b,d,f,g]at a<;>rw[b]at k<;>rw[d]at l<;>rw[f]at m<;>rw[g]at n<;>clear b d f g
 all_goals have a:_=R:=a
 all_goals subst a
 all_goals go_enter func117,ntmps117
 all_goals go_wp2
 all_goals go_ret
 all_goals exact⟨rfl,rfl⟩
def RA(k:I):(bs[k]?=Ao\/∃c,bs[k]?=H c/\(k:J)=lim)\/∃c,bs[k]?=H c/\¬(k:J)=lim:=by
 rcases hc:bs[k]? with _|c
 .exact AF<|AF Z
 by_cases a:(k:J)=lim
 .exact AF<|AG ⟨c,Z,a⟩
 exact AG ⟨c,Z,a⟩
def EG(bs:A1)(l:AI):AH->AH->AH
 |0,p=>p
 |g+1,p=>match bs[p]? with
  |none=>p
  |some c=>if(p:AI)<l then(if MC c=AP then EG bs l g (p+1)else p)else p
theorem Et(d:bs[k]?=H c)(V:X):(Instr.index 9 (Ae ⟨Aw bs⟩)<|C Y (k:J)).run As V=.ok (C Am c.toNat) V:=by
 have f:=Dk d;have a:=NJ bs;have e:0<=(k:J)/\k<((⟨Aw bs⟩:AT).size:J):=kfX;rw[run_index_string (h:=underlying9),dif_pos e];have b:(⟨_⟩:AT)[(k:J).toNat]'kfX=c:=by show(Aw bs)[(k:J).toNat]'B7=c;grind
 rw[b]
theorem Ty(W:X)(fm d l:J)(hb:K bs<=281474976710656)(hi:i<=K bs):Ar As 83 #[NI bs fm d l,C Y i] W λe r=>e=Ak (C Y<|EG bs l (K bs+1-i) i)/\A0 W r:=by
 obtain⟨R,q⟩:=CC<|EG bs l (K bs+1-i) i;rw[AE q];have h:D<|(Az W _).heap[O<|U W]?=H (M #[Ae ⟨Aw bs⟩,C Y fm,C Y d,C Y l] 115):=Cj _;have b:D<|Below _ W<|Az W<|M #[Ae ⟨Aw bs⟩,C Y fm,C Y d,C Y l] 115:=Cm;have A:∀(V:X) (k:I),Ar _ _ #[Ag #[.string _,.int _ fm,.int _ d,.int _ l],.int _ k] V λe r=>e=Ak (Ah<|CN bs l k)/\Below _ V r:=λV k=>Tv;unfold NI;go_enter func83,ntmps83;go_wp2;generalize Az W (M #[Ae ⟨Aw bs⟩,C Y fm,C Y d,C Y l] 115)=W0 at *
 go_loopg[1] (K bs+1-i) (λg z wr=>∃k:I,z=C Y k/\D (K bs+1<=k+g)/\D (k<=K bs)/\D (A7 wr (O<|U W) #[Ae ⟨Aw bs⟩,C Y fm,C Y d,C Y l] 115)/\D (A0 W wr)/\D (EG bs l g k=R))
 grind [D];obtain⟨k,rfl,Q,B,h,b,q⟩:=hrel;obtain⟨g,rfl⟩:∃g,gk=g+1:=⟨gk-1,by grind [D]⟩
 have aa:=AE B;have t:=Cc h 0;have N:=Cc h 1;have c2:=Cc h 2;have P:=Cc h 3;have v:=Cd h;have a:=AE q;rw[EG]at a;have j:=A wr k;rcases hc:bs[k]? with _|c
 .rw[hc]at a;simp only[]at a;have m:CN bs l k=AQ:=kfv;rw[m]at j;have n:=T a.symm;clear a hc m
  go_wp2_with(first
   |(go_at_call 116;apply j.mono;rintro e s ⟨rfl,f⟩))
  go_ret;rw[AE n];exact⟨Z,Cs b<|CG f b.size⟩
 rw[hc]at a;simp only[]at a;have F:=Dk hc;have x:=T λV=>Et hc V;by_cases u:(k:J)<l
 .rw[Cp u]at a;have m:CN bs l k=AP:=kfv;rw[m]at j;have o:=λV=>qL V c;have S:=AE x;cases w:MC c
  .rw[w]at a o;have n:D<|R=k:=a.symm
   go_wp2_with(first
    |(go_at_call 116;apply j.mono;rintro e s ⟨rfl,f⟩;have p:=Ca (Co f _ v) h;have t:=Cc p 0)
    |(go_at_call 117;apply (o _).mono;rintro e L ⟨rfl,rfl⟩))
   go_ret;rw[AE n];exact⟨Z,Cs b<|CG f b.size⟩
  rw[w]at a o;have y:D<|EG bs l g _=R:=a
  go_wp2_with(first
   |(go_at_call 116;apply j.mono;rintro e s ⟨rfl,f⟩;have p:=T<|Ca (Co f _ v) h;have t:=Cc p 0)
   |(go_at_call 117;apply (o _).mono;clear o;rintro e L ⟨rfl,rfl⟩))
  go_roundg g;exact⟨_,Bb,B9,F,p,Cs b<|CG f b.size,y⟩;omega
 rw[Cl u]at a;have m:CN bs l k=AQ:=kfv;rw[m]at j;have n:=T a.symm;clear a hc m
 go_wp2_with(first
  |(go_at_call 116;apply j.mono;clear j;rintro e s ⟨rfl,f⟩))
 go_ret;rw[AE n];exact⟨Z,Cs b<|CG f b.size⟩
def GH(bs:A1)(l:AI)(i:AH):AK:=match bs[i]? with
 |none=>AQ
 |some c=>AR ((i:AI)<l)&&Ey c
theorem d9(W:X)(bs:A1)(fm d l:J):Ar As 165 #[NI bs fm d l,C Y i] W λe m=>e=Ak (Ah<|GH bs l i)/\A0 W m:=by
 obtain⟨R,p⟩:=CC<|GH bs l i;rw[AE p];have j:=AE p;unfold GH at j;have k:D<|(Az W _).heap[O<|U W]?=H (M #[Ae ⟨Aw bs⟩,C Y fm,C Y d,C Y l] 115):=Cj _;have b:D<|Below _ W<|Az W<|M #[Ae ⟨Aw bs⟩,C Y fm,C Y d,C Y l] 115:=Cm;have h:Ar _ _ #[Ag #[.string _,.int _ fm,.int _ d,.int _ l],.int _ i] _ λe m=>e=Ak (Ah<|CN bs l i)/\Below _ (Az W<|M #[Ae ⟨Aw bs⟩,C Y fm,C Y d,C Y l] 115) m:=Tv;have n:=Cd k;unfold NI;have u:CN bs l i=AQ->R=AQ:=λf=>kfv;cases f:CN bs l i
 .have g:=T<|u f;rw[f]at h;go_enter func165,ntmps165
  go_wp2_with(first
   |(go_at_call 116;apply h.mono;rintro e o ⟨rfl,a⟩))
  go_ret;rw[AE g];exact⟨Z,Cs b<|CG a b.size⟩
 rw[f]at h;unfold CN at f;rw[Fj]at f;have t:=Dr f.1;obtain⟨c,r⟩:∃c,bs[i]?=H c:=⟨_,D7 t⟩
 rw[r]at j;simp only[]at j;rw[f.2,SW]at j;have x:=Et r;unfold Ey at j;by_cases v:(48:J)<=(c.toNat:J)
 .by_cases w:(c.toNat:J)<=57
  .have g:D<|R=AP:=by grind [D]
   go_enter func165,ntmps165
   go_wp2_with(first
    |(go_at_call 116;apply h.mono;rintro e o ⟨rfl,a⟩;have q:=Cc (Ca (Co a _ n) k) 0))
   go_ret;rw[AE g];exact⟨Z,Cs b<|CG a b.size⟩
  have g:D<|R=AQ:=by grind [D]
  go_enter func165,ntmps165
  go_wp2_with(first
   |(go_at_call 116;apply h.mono;rintro e o ⟨rfl,a⟩;have q:=Cc (Ca (Co a _ n) k) 0))
  go_ret;rw[AE g];have s:AR ((c.toNat:J)<=57)=AQ:=FO E;exact⟨by rw[s];rfl,Cs b<|CG a b.size⟩
 have g:D<|R=AQ:=by grind [D]
 go_enter func165,ntmps165
 go_wp2_with(first
  |(go_at_call 116;apply h.mono;rintro e o ⟨rfl,a⟩;have q:=Cc (Ca (Co a _ n) k) 0))
 go_ret;rw[AE g];exact⟨Z,Cs b<|CG a b.size⟩
def Lm(bs:A1)(l lim:AI):Prop:=∀p:AH,p<At bs->((p:AI)<l↔(p:AI)<lim)
def Cx(bs:A1)(lim:AI)(p:AH):Prop:=p<=At bs/\(p:AI)<=lim
theorem Id(h:bs[p]?=Ao):CN bs l p=AQ:=kfv
theorem IN(a:p<=K bs)(h:bs[p]?=Ao)(e:J):D5 bs l p e=(9,(p:J)):=by grind [D5]
theorem Hs(hl:Lm bs l lim)(h:bs[p]?=H c)(d:(p:J)=lim):CN bs l p=AQ:=by have a:=Dk h;have b:=hl p a;grind [CN]
theorem Gl(hl:Lm bs l lim)(h:bs[p]?=H c)(d:(p:J)=lim)(e:J):D5 bs l p e=(8,(p:J)):=by have a:=Dk h;have b:=hl p a;grind [D5]
theorem J5(hl:Lm bs l lim)(hi:Cx bs lim p)(h:bs[p]?=H c)(e:¬(p:J)=lim):CN bs l p=AP:=by have a:=Dk h;have b:=hl p a;have d:=hi.2;grind [CN]
theorem Ie(hl:Lm bs l lim)(hi:Cx bs lim p)(h:bs[p]?=H c)(f:¬(p:J)=lim)(e:J):D5 bs l p e=(e,(p:J)):=by have a:=Dk h;have b:=hl p a;have d:=hi.2;grind [D5]
theorem Eu(hi:Cx bs lim p)(h:bs[p]?=H c)(d:¬(p:J)=lim):Cx bs lim<|p+1:=by have a:=Dk h;have b:=hi.2;exact⟨E,E⟩
def GI{α:Type}(bs:A1)(lim:AI)(r r':A5 α):Prop:=r=r'\/∃q:AH,r=.error (8,(q:AI))/\(q:AI)=lim/\q<At bs/\∃x,r'=.ok (x,q)
theorem MI(hl:Lm bs l lim):∀(g p:I),Cx bs lim p->(∃q,DW bs lim g p=.ok ((),q)/\EG bs l g p=q/\Cx bs lim q/\p<=q/\(K bs+1<=p+g->∀f,DW bs lim f q=.ok ((),q)))\/(∃q:I,DW bs lim g p=.error (8,(q:J))/\EG bs l g p=q/\(q:J)=lim/\q<K bs)
 |0,p,hi=>AF ⟨p,rfl,rfl,hi,Cr _,λh=>absurd h<|AY hi.1⟩
 |g+1,p,hi=>by
  rw[DW,EG];rcases hc:bs[p]? with _|c
  .refine AF ⟨p,Z,Z,hi,Cr _,λ_ f=>?_⟩;cases f<;>grind [DW]
  simp only[];by_cases k:(p:J)=lim
  .rw[Cp k];have j:=Dk hc;rw[Cl (show¬p<l by have:=hl p j;omega)];grind
  rw[Cl k];have j:=Dk hc;rw[Cp (show p<l by have:=hl p j;have:=hi.2;omega)];by_cases i:MC c=AP
  .rw[Cp i,Cp i];rcases MI hl g _ (Eu hi hc k)with⟨q,a,b,c,d,e⟩|h<;>grind
  rw[Cl i,Cl i];refine AF ⟨p,Z,Z,hi,Cr _,λ_ f=>?_⟩;cases f<;>grind [DW]
theorem qM{P:Program}{fn:Func}{p u:Tmp}{ty:AN}(h:fn.results=#[.tmp u,.cell p ty]){tmps:A3}{w:X}{g:I}{t:AN}{cs:A3}{fr:I×I}{d:TypeDesc}(f:tmps.getD p AO=A8 g)(c:w.heap[g]?=H (M cs t fr))(i:P.underlying ty=H d)(b:(match d with|.struct _|.array _ _=>AP|_=>AQ)=AP)(hi:(P.info? ty).map (·.size)=H cs.size){v:Aq}(j:tmps.getD u AO=v):(results fn tmps).run P w=.ok (Af #[v,.agg cs]) w:=by have e:(results fn tmps).run P w=((asAddr<|tmps.getD p AO).run P w).andThen λa k=>((loadVar ty a).run P k).andThen λv l=>.ok (Af #[tmps.getD u AO,v]) l:=Bm;subst j;rw[e,f];simp only[asAddr,Gf,G0,Jz w g t ty cs fr d c i b hi]
def Ct(bs:A1)(fm d l:AI):A3:=#[Ae ⟨Aw bs⟩,Ab Al fm,Ab Al d,Ab Al l]
def Cf(x:AI×AI):A3:=#[Ab Al x.1,Ab Al x.2]
theorem Qd{x:J×J}:(Cf x).all (·.oneCell')=AP:=by simp[Cf,Value.oneCell']
structure IP(W:Ap)(A:A3)(N:AH)(V:Ap):Prop where
 h:V.heap[Au (Av W)]?=An (Aj A 115)
 a:V.heap[N]?=An (Aj (Cf (0,0)) 103)
 ac:A0 W V
 lt:Au (Av W)<N
theorem IP.next(h:IP W A N V)(hb:A0 V V'):IP W A N V' :=
 ⟨(hb.block _<|Cd h.h).trans h.h,(hb.block _<|Cd h.a).trans h.a,h.ac.trans<|hb.mono h.ac.size,h.lt⟩
theorem IP.drew(h:IP W A N V):IP W A N V.drew:=⟨h.h,h.a,h.ac.drew,h.lt⟩
def OW{W:World}{A:Array Value}:IP W A (W.heap.size+1) ((W.alloc<|.cells A 115).alloc<|.cells (Cf (0,0)) 103) :=
 ⟨(CB _ _ _<|by simp).trans<|Cj _,by have:=Cj (W.alloc<|.cells A 115) (o:=(.cells (Cf (0,0)) 103));simpa using this,(Cm).alloc (by simp) _,by omega⟩
def WT{P:Program}{ev:Operand->Aq}{W:X}{o:Oper}{ty:AN}{x:Operand}(c:o.op=.load ty x){g:I}(hx:ev x=A8 g){t:AN}{cs:A3}{fr:I×I}{d:TypeDesc}(b:W.heap[g]?=H (M cs t fr))(e:P.underlying ty=H d)(a:(match d with|.struct _|.array _ _=>AP|_=>AQ)=AP)(hi:(P.info? ty).map (·.size)=H cs.size):(execOp ev o).run P W=.ok (.value<|.agg cs) W:=Bk
theorem If{x:J}(h : -9223372036854775808<=x/\x<=9223372036854775807):IntKind.i64.wrap x=x:=(ZM x).trans E
def Tz{d:J}:(prog.info? 115).map (·.size)=H (Ct bs fm d l).size:=by show _=H 4;kernel_rfl
def TA(r:A5 Unit):Aq:=match r with
 |.ok (_,q)=>Af #[Ab Al q,.agg<|Cf (0,0)]
 |.error f=>Af #[Ab Al 0,.agg<|Cf f]
def Ht(h:IP W A N V)(hb:A0 V V')(x:J×J):(AD V' N<|Cf x).heap[N]?=H (M (Cf x) 103)/\A0 W (AD V' N<|Cf x) :=
 ⟨CR _ _ _ _ _ _ (h.next hb).a,Dq (h.next hb).ac<|Nat.le_of_lt h.lt⟩
theorem KG{x:J×J}:(prog.info? 103).map (·.size)=H (Cf x).size:=d8
def Eb{d:J}(h:V.heap[g]?=H (M (Ct bs fm d l) t fr)):AC V ⟨g,0,Ao⟩=(#[Ae ⟨Aw bs⟩,C Y fm,C Y d,C Y l]:A3)[0]?/\AC V ⟨g,1,Ao⟩=(#[Ae ⟨Aw bs⟩,C Y fm,C Y d,C Y l]:A3)[1]?/\AC V ⟨g,2,Ao⟩=(#[Ae ⟨Aw bs⟩,C Y fm,C Y d,C Y l]:A3)[2]?/\AC V ⟨g,3,Ao⟩=(#[Ae ⟨Aw bs⟩,C Y fm,C Y d,C Y l]:A3)[3]? :=
 ⟨Cc h 0,Cc h 1,Cc h 2,Cc h 3⟩
def ck{f:FuncId}{Q:Ending->X->Prop}(c:Ar P f args V λe a=>e=r/\A0 V a)(b:∀{V':X},A0 V V'->S V')(k:∀w,D (S w)->Q r w):Ar P f args V Q :=
 c.mono λ_ _ h=>h.1▸k _ (b h.2)
def MJ{f:FuncId}{Q:Ending->X->Prop}(c:Ar P f args V λe a=>e=r/\A0 V a)(b:∀{V':X},A0 V V'->S V')(k:∀w,A0 V w->D (S w)->Q r w):Ar P f args V Q :=
 c.mono λ_ _ h=>h.1▸k _ h.2 (b h.2)
def Ec{f:FuncId}{Q:Ending->X->Prop}{d:J}(c:Ar P f args V λe a=>e=r/\A0 V a)(b:∀{V':X},A0 V V'->S V')(hb:∀w,S w->w.heap[g]?=H (M (Ct bs fm d l) t fr))(k:∀w,D (S w)->AC w ⟨g,0,Ao⟩=(#[Ae ⟨Aw bs⟩,C Y fm,C Y d,C Y l]:A3)[0]?->AC w ⟨g,1,Ao⟩=(#[Ae ⟨Aw bs⟩,C Y fm,C Y d,C Y l]:A3)[1]?->AC w ⟨g,2,Ao⟩=(#[Ae ⟨Aw bs⟩,C Y fm,C Y d,C Y l]:A3)[2]?->AC w ⟨g,3,Ao⟩=(#[Ae ⟨Aw bs⟩,C Y fm,C Y d,C Y l]:A3)[3]?->Q r w):Ar P f args V Q :=
 ck c b λw h=>let z:=Eb<|hb w h;k w h z.1 z.2.1 z.2.2.1 z.2.2.2
def GJ{b:AK}(fm d:J)(h:CN bs l i=b)(V:X):Ar As 116 #[Ag #[Ae ⟨Aw bs⟩,C Y fm,C Y d,C Y l],C Y i] V λe a=>e=Ak (Ah b)/\A0 V a:=h▸Tv
def NK{en:J}{x:J×J}(fm d:J)(h:D5 bs l i en=x)(V:X):Ar As 84 #[Ag #[Ae ⟨Aw bs⟩,C Y fm,C Y d,C Y l],C Y i,C Y en] V λe a=>e=Ak (.agg<|Cf x)/\A0 V a:=h▸M3 V bs fm d l i en
def NL(bs:A1)(fm d l:J)(V:X)(k:I):Ar As 116 #[Ag #[Ae ⟨Aw bs⟩,C Y fm,C Y d,C Y l],C Y k] V λe a=>e=Ak (Ah<|CN bs l k)/\A0 V a:=Tv
def OX(bs:A1)(fm d l:J)(V:X)(k:I)(a:J):Ar As 84 #[Ag #[Ae ⟨Aw bs⟩,C Y fm,C Y d,C Y l],C Y k,C Y a] V λe b=>e=Ak (.agg<|Cf<|D5 bs l k a)/\A0 V b:=M3 V bs fm d l k a
def Fb(x y:I)(c:o.guard=Ao)(d:o.op=.store 103 (.tmp x) (.tmp y))(g:I)(F:J×J)(hx:a.eval (.tmp x)=A8 g)(hy:a.eval (.tmp y)=.agg (Cf F))(b:A7 w g (Cf (0,0)) 103)(h:wpList As ops Q rest (a.put o.dst AO)<|AD w g<|Cf F):wpList As ops Q (o::rest) a w :=
 D8 c _ _ _ d g _ hx hy _ _ b (KG) rfl (Qd) h
def tk(i dst:I)(v:Aq)(hi:ops[i]?=H oi)(b:(Region.noSelect ops&&Region.free md ops listed i&&(Region.ready md ops listed).contains i&&oi.dst==H dst&&Region.wanted oi (yielded ops a.tmps))=AP)(e:∀c a w,Q (.panic c) (a.put (H dst) v) w->Q (.panic c) a w)(hy:∀d,S d->(execOp a.eval oi).run P d=.ok (.value v) d)(f:S w)(h:wpAnyH P md ops Q S fuel (Ay listed i AP) (a.put (H dst) v) w):wpAnyH P md ops Q S (fuel+1) listed a w:=by simp only[Fj]at b;exact IC _ hi b.1.1.1.1 b.1.1.1.2 b.1.1.2 e C7 (AF ⟨b.2,hy⟩) f h
def OY(i:I)(m:(Region.noSelect ops&&Region.free md ops listed i&&(Region.ready md ops listed).contains i,ops[i]?.map λo=>(o.dst,Region.wanted o<|yielded ops a.tmps,λb=>(execOp a.eval o).run P b))=(AP,H (H dst,AP,λb=>.ok (.value v) b)))(k:∀c a w,Q (.panic c) (a.put (H dst) v) w->Q (.panic c) a w)(l:S w)(h:wpAnyH P md ops Q S fuel (Ay listed i AP) (a.put (H dst) v) w):wpAnyH P md ops Q S (fuel+1) listed a w:=by obtain⟨d,g⟩:=Lc m;obtain⟨o,n,e⟩:=Ox.1 g;obtain⟨e,f⟩:=Lc e;obtain⟨f,j⟩:=Lc f;simp only[Fj]at d;exact IC _ n d.1.1 d.1.2 d.2 k e (AF ⟨f,λb _=>congrFun j b⟩) l h
def M4(i:I)(hi:ops[i]?=H oi)(b:(Region.noSelect ops&&Region.free md ops listed i&&(Region.ready md ops listed).contains i&&oi.dst==H dst && !Region.wanted oi (yielded ops a.tmps))=AP)(d:∀c a w,Q (.panic c) (a.put (H dst) AO) w->Q (.panic c) a w)(e:S w)(h:wpAnyH P md ops Q S fuel (Ay listed i AP) (a.put (H dst) AO) w):wpAnyH P md ops Q S (fuel+1) listed a w:=by simp only[Fj,VT]at b;exact IC _ hi b.1.1.1.1 b.1.1.1.2 b.1.1.2 d C7 (AG ⟨b.2,Z⟩) e h
def yF(x:I){F:J×J}(a:A7 W g (Cf F) 103)(b:o.op=.load 103 (.tmp x))(hx:ev (.tmp x)=A8 g):(execOp ev o).run As W=.ok (.value<|.agg<|Cf F) W :=
 WT b hx a underlying103 rfl<|KG
def yI(x:I){d:J}(a:A7 W g (Ct bs fm d l) 115)(b:o.op=.load 115 (.tmp x))(hx:ev (.tmp x)=A8 g):(execOp ev o).run As W=.ok (.value<|Ag #[Ae ⟨Aw bs⟩,C Y fm,C Y d,C Y l]) W :=
 WT b hx a underlying115 rfl Tz
def qN{p:Tmp}{F:J×J}(h:fn.results=#[.tmp u,.cell p 103])(a:A7 w g (Cf F) 103)(b:tmps.getD p AO=A8 g)(c:tmps.getD u AO=v):(results fn tmps).run As w=.ok (Af #[v,.agg<|Cf F]) w :=
 qM h b a underlying103 rfl (KG) c
def TB{p:Tmp}{A:Act}{F:J×J}{B:Prop}(h:fn.results=#[.tmp u,.cell p 103])(b:A7 w g (Cf F) 103/\B)(c:A.tmps.getD p AO=A8 g)(d:A.tmps.getD u AO=v)(a:A.defers=[])(k:R (Ak<|Af #[v,.agg<|Cf F]) w):bodyPost As fn R .ret A w:=CS (qN h b.1 c d) a k
def RB(W:X)(bs:A1)(fm d l:J):D<|IP W (Ct bs fm d l) (O (U W)+1)<|Az (Az W<|M #[Ae ⟨Aw bs⟩,C Y fm,C Y d,C Y l] 115)<|M #[C Y 0,C Y 0] 103:=OW
def M5{v:I}(a:bs[i]?=H c)(b:c.toNat=v)(V:X):(Instr.index 9 (Ae ⟨Aw bs⟩)<|C Y (i:J)).run As V=.ok (C Am v) V:=b▸Et a V
theorem WU(W:X)(fm d:J)(w:A1)(p:K w<=100)(hl:Lm bs l lim)(hi:Cx bs lim i)(hb:K bs<=281474976710656):Ar As 127 #[.agg<|Ct bs fm d l,C Y i,Ae ⟨Aw w⟩] W λe W'=>e=Ak (TA<|Dt bs lim w i)/\A0 W W':=by
 have ak:=NJ w;obtain⟨R,h⟩:=CC<|Dt bs lim w i;rw[AE h];have ai:=hi.1;have HL:=T hl;have t:=T hi;have N:=NL bs fm d l;have B:∀(V:X) (k:I) (P:J),Ar _ 84 #[.agg _,.int _ k,.int _ P] V _:=λV k P=>M3 V bs fm d l k P;clear hl hi;unfold Ct;go_enter func127,ntmps127;go_wp2
 go_loopg[8] (K w) (λg af wr=>∃k:I,af=C Y k/\D (k+g=K w)/\D (IP W (Ct bs fm d l) (O (U W)+1) wr)/\D (Dt bs lim (w.drop k) (i+k)=R)/\D (Cx bs lim<|i+k))
 exact⟨0,Z,Bg,OW,h,t⟩;clear h t;obtain⟨k,rfl,y,j,h,t⟩:=hrel;have aj:=t.1;obtain⟨c0,c1,c2,c3⟩:=Eb j.h;have u:=λV=>N V<|i+k;have r:(i+k:I)=i+(k:J):=E;rw[r]at u;obtain _|g:=gk
 .have q:D<|R=.ok ((),i+K w):=by grind [D,Dt]
  have ab:¬k<(K w:J):=AY<|AE y;have s:=Ht j CT (0,0);clear h N u B
  go_wp2_with(first
   |(refine D8 Z 103 _ _ Z (O (U W)+1) (Cf (0,0)) Z Z 103 (Cf (0,0)) j.a (KG) Z (Qd) ?_))
  refine TB results127 s Z Z Z ⟨?_,s.2⟩;rw[AE q];simp[TA]
 have ad:k<K w:=AY<|AE y;have ab:k<(K w:J):=E;obtain⟨x,hx⟩:=IB<|w[k];have ae:w[k]?=H x:=B9;have z:=λV=>Et ae V;have hr:=AE h;rw[K7 ad,<-hx,Dt]at hr;clear h hx N;have b:=j.h;have L:=λV=>B V (i+k) 9;rw[r]at L;have p:(CN bs l (i+k)=AQ/\R=.error (D5 bs l (i+k) 9))\/∃c,CN bs l (i+k)=AP/\bs[i+k]?=H c/\Cx bs lim (i+(k+1))/\((((c.toNat:J)==(x.toNat:J))=AQ/\R=.error (D5 bs l (i+k) 9))\/(((c.toNat:J)==(x.toNat:J))=AP/\Dt bs lim (w.drop<|k+1) (i+(k+1))=R)):=by grind [D,Id,IN,Hs,Gl,J5,Eu,Ie,UInt8.toNat_inj]
 generalize D5 bs l (i+k) 9=F at *;generalize CN bs l (i+k)=hh at *;have n:=T p;clear p hr B ae;go_wp2;refine Ei (S:=λV=>A7 V (O<|U W) (Ct bs fm d l) 115) B6 <| Ch 0 15 (.agg<|Ct bs fm d l) Z (λo f=>yI 3 f Z Z) b <| Cb 1 16 (C Y i) b <| Cb 2 17 (C Y k) b <| Ch 3 18 (C Y<|i+k) Z (λo f=>Bo) b ?_;refine CH 4 λag hK=>?_;go_simp;apply (u _).mono;rintro e w2 ⟨rfl,v⟩;simp only[];have a:=(v.block _<|Cd b).trans b;refine hK.out _ _ a λ_=>?_;clear hK u;rcases AE n with⟨rfl,m⟩|⟨c,rfl,Q,hN,p⟩
 case' inl =>
  have q:=T m;clear m n r z;refine Cb 5 20 (Ah AP) a <| Cb 6 21 (Ah AP) a <| M4 7 (dst:=22) Z B6 GC a <| M4 8 (dst:=23) Z B6 GC a <| M4 9 (dst:=24) Z B6 GC a <| M4 10 (dst:=25) Z B6 GC a <| M4 11 (dst:=26) Z B6 GC a <| M4 12 (dst:=27) Z B6 GC a <| M4 13 (dst:=28) Z B6 GC a <| M4 14 (dst:=29) Z B6 GC a <| M4 15 (dst:=30) Z B6 GC a <| M4 16 (dst:=31) Z B6 GC a <| Cb 17 32 (Ah AP) a ?_
 case' inr =>
  have aa:=λV=>Et Q V;rw[r]at aa;have ah:=Dk Q;have HN:=T hN;have n:=T p;clear hN Q p r;refine Cb 5 20 (Ah AQ) a <| Cb 6 21 (Ah AQ) a <| Cb 7 22 (A8<|O<|U W) a <| Ch 8 23 (Ae ⟨Aw bs⟩) Z (λo f=>by have h2:=Cc f 0;unfold Ct at h2;go_simp) a <| Cb 9 24 (C Y i) a <| Cb 10 25 (C Y k) a <| Ch 11 26 (C Y<|i+k) rfl (λo f=>Bo) a <| Ch 12 27 (C Am c.toNat) rfl (λo f=>Bh) a <| Cb 13 28 (Ae ⟨Aw w⟩) a <| Cb 14 29 (C Y k) a <| Ch 15 30 (C Am x.toNat) rfl (λo f=>Bh) a <| Ch 16 31 (Ah<|!(c.toNat==(x.toNat:J))) rfl (λo f=>by go_simp;rfl) a ?_;apply Cb 17 32 (Ah<|!(c.toNat==(x.toNat:J))) a;rcases AE n with⟨A,m⟩|⟨A,m⟩<;>rw[A]<;>have q:=T m
  rotate_left
  .refine CK ?_;go_simp;have HG:D<|(k+1)+g=K w:=B9;clear b y ab HL c0 c1 c2 c3 aa z A m n;go_wp2;go_roundg g;exact⟨_,Bb,HG,j.drew.next v,q,HN⟩;omega
  clear aa A m n z
 all_goals
  refine CK ?_;go_simp;clear b y ad ab HL c0 c1 c2 c3
  go_wp2_with(first
   |(go_at_call 84;apply (L _).mono;clear L;rintro e w3 ⟨rfl,ac⟩)
   |(refine D8 rfl 103 _ _ rfl (O (U W)+1) (Cf F) rfl rfl 103 (Cf (0,0)) ((j.drew.next v).next ac).a (KG) rfl (Qd) ?_)
   |(refine CO Z 115 _ Z (O<|U W) Z _ _ _ _ a underlying115 Z Tz ?_))
  have s:=Ht (j.drew.next v) ac F;refine TB results127 s Z Z Z ⟨?_,s.2⟩;rw[AE q];rfl
theorem qO{P:Program}{fn:Func}{p q u:Tmp}{ty ty2:AN}(h:fn.results=#[.cell p ty,.tmp u,.cell q ty2]){tmps:A3}{w:X}{g g2:I}{t t2:AN}{cs cs2:A3}{fr fr2:I×I}{d d2:TypeDesc}(l:tmps.getD p AO=A8 g)(i:w.heap[g]?=H (M cs t fr))(n:P.underlying ty=H d)(c:(match d with|.struct _|.array _ _=>AP|_=>AQ)=AP)(hi:(P.info? ty).map (·.size)=H cs.size)(m:tmps.getD q AO=A8 g2)(j:w.heap[g2]?=H (M cs2 t2 fr2))(o:P.underlying ty2=H d2)(f:(match d2 with|.struct _|.array _ _=>AP|_=>AQ)=AP)(k:(P.info? ty2).map (·.size)=H cs2.size){v:Aq}(r:tmps.getD u AO=v):(results fn tmps).run P w=.ok (Af #[.agg cs,v,.agg cs2]) w:=by have e:(results fn tmps).run P w=((asAddr<|tmps.getD p AO).run P w).andThen λa x=>((loadVar ty a).run P x).andThen λv y=>((asAddr<|tmps.getD q AO).run P y).andThen λb z=>((loadVar ty2 b).run P z).andThen λs A=>.ok (Af #[v,tmps.getD u AO,s]) A:=Bm;subst r;rw[e,l,m];simp only[asAddr,Gf,G0,Jz w g t ty cs fr d i n c hi,Jz w g2 t2 ty2 cs2 fr2 d2 j o f k]
def Cq:Aq:=Ac Ao 0 0
def Cg(kind n:AI)(s:AT)(ks vs:Aq):A3:=#[Ab Al kind,Ab Al n,.string s,ks,vs]
def Cv:A3:=Cg 0 0 ⟨#[]⟩ Cq Cq
def KI:(prog.info? 101).map (·.size)=H 5:=B6
def NM{k n:J}{s:AT}{ks:Aq}:(prog.info? 101).map (·.size)=H (Cg k n s ks vs).size:=KI
structure Jj(W:Ap)(A:A3)(V:Ap):Prop where
 h:V.heap[Au (Av W)]?=An (Aj A 115)
 b:V.heap[Au (Av W)+1]?=An (Aj Cv 101)
 a:V.heap[Au (Av W)+2]?=An (Aj (Cf (0,0)) 103)
 ac:A0 W V
theorem Jj.next(h:Jj W A V)(hb:A0 V V'):Jj W A V' :=
 ⟨Ca (Co hb _<|Cd h.h) h.h,Ca (Co hb _<|Cd h.b) h.b,Ca (Co hb _<|Cd h.a) h.a,Cs h.ac<|CG hb h.ac.size⟩
theorem Jj.drew(h:Jj W A V):Jj W A V.drew:=⟨h.h,h.b,h.a,h.ac.drew⟩
def da:Jj W A (Az (Az (Az W<|M A 115)<|M Cv 101)<|M (Cf (0,0)) 103) :=
 ⟨Ca (Ca (CB _ _ _ B7)<|CB _ _ _ Ba)<|Cj _,Ca (CB _ _ _ Ba)<|B2<|Cj (Az W<|M A 115) (o:=(M Cv 101)),B2<|Cj (Az (Az W<|M A 115)<|M Cv 101) (o:=(M (Cf (0,0)) 103)),((Cm).alloc Ba _).alloc B7 _⟩
def EO(h:Jj W A V)(hb:A0 V V')(y:A3)(x:J×J):(AD (AD V' (O (U W)+1) y) (O (U W)+2)<|Cf x).heap[O (U W)+1]?=H (M y 101)/\(AD (AD V' (O (U W)+1) y) (O (U W)+2)<|Cf x).heap[O (U W)+2]?=H (M (Cf x) 103)/\A0 W (AD (AD V' (O (U W)+1) y) (O (U W)+2)<|Cf x):=by
 have a:=h.next hb
 refine⟨?_,?_,Dq (Dq a.ac E) E⟩
 .rw[Do _ _ _ _ E];exact CR _ _ _ _ _ _ a.b
 exact CR _ _ _ _ _ _<|sx E a.a
def Gm(h:Jj W A V)(hb:A0 V V'){y:A3}:(AD V' (O (U W)+1) y).heap[O (U W)+2]?=H (M (Cf (0,0)) 103):=sx E (h.next hb).a
theorem de{k n:J}{s:AT}{a b:A4}:(Cg k n s (G a i j)<|G b p q).all (·.oneCell')=AP:=by simp[Cg,Value.oneCell']
def df(r:A5 AI)(e:Ending):Prop:=match r with
 |.ok (z,q)=>e=Ak (Af #[.agg<|Cg 3 z ⟨#[]⟩ Cq Cq,Ab Al q,.agg<|Cf (0,0)])
 |.error f=>e=Ak (Af #[.agg Cv,Ab Al 0,.agg<|Cf f])
theorem qP(num d:I)(a:d<=9):(-(num:J)<(-9223372036854775808+(d:J)).tdiv 10)↔(9223372036854775808-d)/10<num:=B9
def TC(T:A3):Prop:=T.size=5/\T.all (·.oneCell')=AP
def thg{k n:J}{s:AT}{a b:A4}:TC<|Cg k n s (G a i j)<|G b p q:=⟨rfl,de⟩
def RC(x:I){y:I}(d:o.guard=Ao)(e:o.op=.store 101 (.tmp x) (.tmp y))(g:I)(T:A3)(hx:a.eval (.tmp x)=A8 g)(hy:a.eval (.tmp y)=.agg T)(c:A7 w g Cv 101)(b:TC T)(h:wpList As ops Q rest (a.put o.dst AO)<|AD w g T):wpList As ops Q (o::rest) a w :=
 D8 d _ _ _ e g _ hx hy _ _ c (by rw[b.1];exact KI) (by rw[b.1];rfl) b.2 h
def qQ{p q:Tmp}{k n:J}{s:AT}{ks:Aq}{F:J×J}(h:fn.results=#[.cell p 101,.tmp u,.cell q 103])(a:A7 w g (Cg k n s ks vs) 101)(b:A7 w g2 (Cf F) 103)(c:tmps.getD p AO=A8 g)(d:tmps.getD q AO=A8 g2)(e:tmps.getD u AO=v):(results fn tmps).run As w=.ok (Af #[.agg<|Cg k n s ks vs,v,.agg<|Cf F]) w :=
 qO h c a underlying101 rfl (NM) d b underlying103 rfl (KG) e
def F4{p q:Tmp}{A:Act}{k n:J}{s:AT}{ks:Aq}{F:J×J}{B:Prop}(h:fn.results=#[.cell p 101,.tmp u,.cell q 103])(a:A7 w g (Cg k n s ks vs) 101/\A7 w g2 (Cf F) 103/\B)(v:Aq)(c:A.tmps.getD p AO=A8 g)(d:A.tmps.getD q AO=A8 g2)(e:A.tmps.getD u AO=v)(b:A.defers=[])(f:R (Ak<|Af #[.agg<|Cg k n s ks vs,v,.agg<|Cf F]) w):bodyPost As fn R .ret A w:=CS (qQ h a.1 a.2.1 c d e) b f
def Ln(W:X)(bs:A1)(fm d l:J):D<|Jj W (Ct bs fm d l)<|Az (Az (Az W<|M #[Ae ⟨Aw bs⟩,C Y fm,C Y d,C Y l] 115)<|M Cv 101)<|M (Cf (0,0)) 103:=da
def yT(x:I){k n:J}{s:AT}{ks:Aq}(a:A7 W g (Cg k n s ks vs) 101)(b:o.op=.load 101 (.tmp x))(hx:ev (.tmp x)=A8 g):(execOp ev o).run As W=.ok (.value<|.agg<|Cg k n s ks vs) W :=
 WT b hx a underlying101 rfl<|NM
def CX(l:A1):Aq:=Ae ⟨Aw l⟩
theorem dg(s:A1)(h:DQ W 9 1 F v (K ks)<|ks.map CX)(B:K ks<=200000000):Ar As 169 #[v,Ae ⟨Aw s⟩] W λe p=>e=Ak (Ah<|AR<|s∈ks)/\p=W:=by
 obtain⟨R,b⟩:=CC<|AR<|s∈ks;rw[AE b];obtain⟨a,d,rfl,m⟩:∃a d,v=G a (K ks) d/\D (∀(j:I) (x:A1),ks[j]?=H x->∃g,a=Aa g/\A6 W g j (CX x)):=by obtain⟨y,A⟩:=h;grind [D,Dk,Cc]
 go_enter func169,ntmps169;go_wp2
 go_loopg[5] (K ks) (λg z wr=>wr=W/\∃k:I,z=C Y k/\D (k+g=K ks)/\D (AR (s∈ks.drop k)=R))
 grind [D];obtain⟨rfl,k,rfl,c,b⟩:=hrel;have i:=AE b;obtain _|g:=gk
 .rw[Oy<|AY<|AE c]at i;have n:D<|R=AQ:=by grind [D]
  have t:¬k<(K ks:J):=AY<|AE c;go_wp2;go_ret;simp_all
 have f:k<K ks:=AY<|AE c;have t:k<(K ks:J):=E;obtain⟨x,l⟩:∃x,ks[k]?=H x:=⟨_,D7 f⟩
 obtain⟨w,rfl,q⟩:=m.out k x l;unfold CX at q;rw[K7 f,(Nu.1 l).2]at i;by_cases r:x=s
 .have n:D<|R=AP:=B9;have u:(x==s)=AP:=B9;go_wp2;go_ret;simp_all
 have o:D<|AR (s∈ks.drop (k+1))=R:=by grind [D]
 have u:(x==s)=AQ:=kex;go_wp2;go_roundg g;exact⟨Z,_,Bb,B9,o⟩;omega
theorem WV(n:I)(h:Ck W b s):Ck ((W.drewN n).setCell ⟨b,4,Ao⟩<|C Y k) b {s with c:=k}/\Ci b W ((W.drewN n).setCell ⟨b,4,Ao⟩<|C Y k):=by
 have c:(W.drewN n).heap[b]?=H _:=h.ad;have e:∀q,q≠b->((W.drewN n).setCell ⟨b,4,Ao⟩<|C Y k).heap[q]?=W.heap[q]?:=λq a=>CY _ _ _ _ Bl;refine⟨⟨?_,λi d=>?_,h.len,h.a⟩,⟨Z,Z,Z,Bv,λq _ a=>e q a⟩⟩
 .rw[VR _ b 4 _ _ _ _ c,CR _ _ _ _ _ _ c];rfl
 obtain⟨g,off,f,j,l⟩:=h.c i d;grind [World.cell?_of_block]
theorem dk(h:Ck W b s)(c:¬(s.c:J)=s.b)(i:s.c<=1000000):Ar As 265 #[A8 b] W λe a=>e=Ak (Af #[])/\Ck a b {s with c:=s.c+1}/\Ci b W a:=by
 have j:AC W _=H (.int _ _):=Cc h.ad 1;have k:AC W _=H (.int _ _):=Cc h.ad 4;have g:=Dy W b 4 _ _ h.ad;have d:D (∀n,Ck ((W.drewN n).setCell _<|.int _<|s.c+1) b {s with c:=s.c+1}/\Ci b W ((W.drewN n).setCell _<|.int _<|s.c+1)):=λn=>WV n h;have f:(s.c==s.b)=AQ:=BO;go_enter func265,ntmps265;go_wp2
 go_quiet (fail)
 go_wp2;go_end0;grind [D]
def dl(h:Ck W b s)(f:(s.c:J)=s.b):Ar As 265 #[A8 b] W λe a=>D4 11 ((s.a:J)-1) e/\Ci b W a/\∃p,Ck a b {s with a:=p}:=by
 have g:AC W _=H (.int _ _):=Cc h.ad 1;have i:AC W _=H (.int _ _):=Cc h.ad 4;have d:=λn=>G5 11<|h.drewN n;have c:=T h;go_enter func265,ntmps265;go_wp2
 go_quiet (fail)
 go_wp2_with(first
  |(go_at_call 271;apply (d nq).mono;rintro e j ⟨hF,rfl⟩;obtain rfl:=hF))
 exact⟨Z,Z,Ci.of_below<|IJ,_,c.drewN nq⟩
theorem qS(h:Ck W b s)(c:s.c=k+1)(g:s.c<=1000000):Ar As 293 #[Ad<|H ⟨b,0,Ao⟩] W λe a=>e=Ak (Af #[])/\Ck a b {s with c:=k}/\Ci b W a:=by
 have i:AC W ⟨b,4,Ao⟩=H (C Y<|k+1):=by have:=Cc h.ad 4;rw[this];show H (Value.int Y (s.c:J))=_;rw[c];rfl
 have f:=Dy W b 4 _ _ h.ad;have d:D<|Ck (AB W _ _) b _/\Ci b W (AB W _<|.int _ k):=WV 0 h;go_enter func293,ntmps293;go_wp2;go_end0;grind [D]
def GY(rd:AH->AS (AI×AI) (AM Unit×AH)):AH->AH->AJ (AM Unit)->AS (AI×AI) (AJ (AM Unit)×AH)
 |0,p,acc=>.ok (acc,p)
 |k+1,p,acc=>match rd p with
  |.error e=>.error e
  |.ok (d,q)=>GY rd k q<|acc++[d]
def El(hd:AH->AH×AH×AH)(bs:A1)(lim:AI)(ks:AJ A1)(p:AH):A5 A1 :=
 match bs[p]? with
 |none=>.error (9,p)
 |some c=>if(p:AI)=lim then .error (8,p)else if(hd c.toNat).1=8 then
   match CZ bs lim (hd c.toNat).2.1 (p+1) (hd c.toNat).2.2 with
   |.error e=>.error e
   |.ok (x,q)=>match Ds bs lim x q [] 0 with
    |.error e=>.error e
    |.ok (l,r)=>if l∈ks then .error (12,(r:AI)-1)else .ok (l,r)
  else .error (9,p)
def GK(kf:AJ A1->AH->A5 A1)(rd:AH->AS (AI×AI) (AM Unit×AH)):AH->AH->AJ A1->AJ (Lit×AM Unit)->AS (AI×AI) (AJ (Lit×AM Unit)×AH)
 |0,p,_,acc=>.ok (acc,p)
 |k+1,p,ks,acc=>match kf ks p with
  |.error e=>.error e
  |.ok (l,q)=>match rd q with
   |.error e=>.error e
   |.ok (d,r)=>GK kf rd k r (l::ks)<|acc++[(.string l,d)]
def Gn(bs:A1)(lim:AI)(li:AH->AH->AS (AI×AI) (AJ (AM Unit)×AH))(ma:AH->AH->AS (AI×AI) (AJ (Lit×AM Unit)×AH))(so w x q:AH):AS (AI×AI) (AM Unit×AH) :=
 match so with
 |2=>.ok (.lit<|.bool AQ,q)
 |3=>.ok (.lit<|.bool AP,q)
 |4=>match FE 4 w x q with
  |.error e=>.error e
  |.ok z=>.ok (.lit<|.int Al z,q)
 |5=>match FE 5 w x q with
  |.error e=>.error e
  |.ok z=>.ok (.lit<|.int Al z,q)
 |6=>match FE 6 w x q with
  |.error e=>.error e
  |.ok z=>.ok (.lit<|.int Al z,q)
 |7=>match EV bs lim x q []with
  |.error e=>.error e
  |.ok (l,r)=>.ok (.ptr<|.lit<|.string l,r)
 |8=>match Ds bs lim x q [] 0 with
  |.error e=>.error e
  |.ok (l,r)=>.ok (.lit<|.string l,r)
 |9=>match li x q with
  |.error e=>.error e
  |.ok (ds,r)=>.ok (.agg ds,r)
 |10=>match ma x q with
  |.error e=>.error e
  |.ok (es,r)=>.ok (.map es,r)
 |_=>.ok (.nil,q)
def DR(hd:AH->AH×AH×AH)(bs:A1)(lim depth:AI):AH->AH->AH->AS (AI×AI) (AM Unit×AH)
 |0,_,_=>.error (0,0)
 |g+1,wi,p=>match bs[p]? with
  |none=>.error (9,p)
  |some c=>if(p:AI)=lim then .error (8,p)else if(hd c.toNat).1=0 then .error (9,p)else
   if((hd c.toNat).1=9\/(hd c.toNat).1=10)/\(wi:AI)=depth then .error (11,p)else
   match CZ bs lim (hd c.toNat).2.1 (p+1) (hd c.toNat).2.2 with
   |.error e=>.error e
   |.ok (x,q)=>Gn bs lim (λx q=>GY (DR hd bs lim depth g<|wi+1) x q []) (λx q=>GK (El hd bs lim) (DR hd bs lim depth g<|wi+1) x q [] []) (hd c.toNat).1 (hd c.toNat).2.1 x q
theorem TD{depth:J}{w:I}(a:bs[p]?=H c)(b:¬(p:J)=lim)(d:hd c.toNat=(so,w,ar)):DR hd bs lim depth (g+1) wi p=(if so=0 then .error (9,(p:J))else if(so=9\/so=10)/\(wi:J)=depth then .error (11,(p:J))else
   match CZ bs lim w (p+1) ar with
   |.error e=>.error e
   |.ok (x,q)=>Gn bs lim (λx q=>GY (DR hd bs lim depth g<|wi+1) x q []) (λx q=>GK (El hd bs lim) (DR hd bs lim depth g<|wi+1) x q [] []) so w x q):=by
 grind [DR]
def RD(k:AH)(W:Ap)(b:AH)(s:Cw)(r:AS (AI×AI)<|AM Unit×AH)(e:Ending)(W':Ap):Prop :=
 Ci b W W'/\match r with
 |.ok (d,p)=>(∃t y,e=Ak (Ai t y)/\CA k W' (λj=>Au (Av W)<=j/\j<Au (Av W')) (Ai t y) d)/\Ck W' b {s with a:=p}
 |.error (en,pl)=>D4 en pl e/\∃p,Ck W' b {s with a:=p}
def WW(k f b:AH)(s:Cw)(W0:Ap)(rd:AH->AS (AI×AI) (AM Unit×AH)):Prop :=
 ∀(V:Ap) (p:AH),Ck V b {s with a:=p}->Ci b W0 V->Ar As 301 #[Ag #[A8 b,.func (.func f) #[] #[]]] V (RD k V b {s with a:=p}<|rd p)
structure Lo(k:AH)(W:Ap)(b:AH)(fv:Aq)(s:Cw)(p:AH)(v:Aq)(ds:AJ (AM Unit))(V:Ap):Prop where
 e:Ck V b {s with a:=p}
 ai:Ci b W V
 h:V.heap[Au (Av W)]?=An (Aj #[A8 b,fv] 218)
 a0:∃xs,V.ownsRow (Au (Av W)+1) 89 1 v (At ds) xs/\∀(i:AH) (x:Aq) (d:A2),xs[i]?=An x->ds[i]?=An d->CA k V (λj=>Au (Av W)+1<=j/\j<Au (Av V)/\An j≠Ax v) x d
 size:Au (Av W)+1<=Au (Av V)
def TE(h:W.ownsRow base t size v n xs)(k:Ci b W W')(m:b<base):W'.ownsRow base t size v n xs:=by
 obtain⟨i,a⟩:=h;refine⟨i,?_⟩;rcases a with a|⟨g,d,f,e,l,c,j⟩
 .exact AF a
 exact AG ⟨g,d,f,e,l,Ca (k.block g (Cd c) E) c,j⟩
def Lo.but'(h:Lo k W b fv s p v ds V)(hb:b<O (U W))(l:Ck V' b {s with a:=q})(a:Ci b V V'):Lo k W b fv s q v ds V':=by obtain⟨n,e,f⟩:=h.a0;refine⟨l,h.ai.trans a,Ca (a.block _ (Cd h.h) E) h.h,⟨n,TE e a E,λi x d m g=>?_⟩,CE h.size a.size⟩;refine(f i x d m g).same (λj c=>⟨c.1,CQ c.2.1 a.size,c.2.2⟩) λj c=>a.block j c.2.1 E
def qU(h:Ck W b s):Lo k W b fv s s.a (G Ao 0 0) []<|Az W<|M #[A8 b,fv] 218:=by have a:Below _ W<|Az W<|M #[A8 b,fv] 218:=Cm;exact⟨h.ac a,Ci.of_below a,Cj W,⟨[],Fi _ _ _ _,λi x d c=>kf2⟩,Ba⟩
theorem Lo.push(h:Lo k W b fv s p v ds V)(z:Ck W b s)(u:V.ownsRow (O (U W)+1) 89 1 v (K ds) xs)(hx:∀(i:I) (x:Aq) (d:A2),xs[i]?=H x->ds[i]?=H d->CA k V (λj=>O (U W)+1<=j/\j<O (U V)/\H j≠Ax v) x d)(A:CA k V (λj=>O (U V0)<=j/\j<O (U V)) x d)(R:∀g,Ax v=H g->g<O (U V0))(F:O (U W)+1<=O (U V0))(P:w5.ownsRow (O (U W)+1) 89 1 v' (K ds+1)<|xs++[x])(f:(Az V<|M #[x] 89).grownBy w5<|Ax v)(n:Ax v'=Ax v\/Ax v'=H (O<|U<|Az V<|M #[x] 89)):Lo k W b fv s p v' (ds++[d]) w5:=by
 have Q:=h.size;have L:O (U V)+1<=O (U w5):=kfc;have key:∀g,Ax v=H g->O (U W)+1<=g:=λg f=>DK u f;have q:=λj a m=>Ca (f.block j B7 m)<|CB _ _ _ a;have r:∀j,j<O (U W)+1->w5.heap[j]?=V.heap[j]?:=λj a=>q j E λe=>B9;refine⟨z.same Z Z h.e λj a=>r j E,⟨Ca f.os h.ai.os,Ca f.tape h.ai.tape,Ca f.output h.ai.output,E,λj a m=>Ca (r j E)<|h.ai.block j a m⟩,Ca (r _ E) h.h,⟨xs++[x],B9,λi y c o l=>?_⟩,E⟩;have t:∀j,j<O (U V)->H j≠Ax v->H j≠Ax v':=λj a m=>by
  rcases n with n|n
  .rw[n];exact m
  rw[n];intro e;injection e with e;simp at e;omega
 have B:K xs=K ds:=AY u.1;by_cases N:i<K ds
 .rw[Hh E]at o l;exact(hx i y c o l).same (λj a=>⟨a.1,AY a.2.1,t j a.2.1 a.2.2⟩) λj a=>q j a.2.1 a.2.2
 have e:i=K ds:=B9;subst e;rw[Jd E]at l;rw[Jd E,B]at o;simp at o l;subst o;subst l;have w:∀j,O (U V0)<=j->H j≠Ax v:=λj a e=>B9;exact A.same (λj a=>⟨E,E,t j a.2<|w j a.1⟩) λj a=>q j a.2<|w j a.1
def Qe(h:V.ownsRow base t size v n xs):∀g,Ax v=H g->g<O (U V):=λg a=>by
 rcases h.2 with⟨b,_⟩|⟨f,d,e,rfl,i,c,_⟩
 .subst b;cases a
 cases a;exact Cd c
def Lo.ad(h:Lo k W b fv s p v ds V):CA (k+1) V (λj=>O (U W)<=j/\j<O (U V)) (Ai 221 v)<|.agg ds:=by
 obtain⟨u,a,m⟩:=h.a0;unfold CA;refine⟨v,u,Z,⟨a.1,?_⟩,λi x d t q=>(m i x d t q).same (λj r=>⟨E,r.2.1⟩) λ_ _=>rfl⟩;rcases a.2 with n|⟨g,f,l,e,w,c,o⟩
 .exact AF n
 exact AG ⟨g,f,l,e,⟨E,(Cd c)⟩,c,o⟩
def Tryz.infoThing:(prog.info? 89).map (λi=>(i.zero,i.size,i.bytes))=H (H .nilIface,1,16):=B6
theorem qV(hn:n<18446744073709551616)(h:Ck W b s)(a1:K s.e<=200000000)(t:WW k f b s W rd)(S:∀p d q,rd p=.ok (d,q)->p<q):Ar As 306 #[Ag #[A8 b,.func (.func f) #[] #[]],C .u64 n] W<|Rw W b s (λV v o=>(∃a n c,v=G a n c)/\CA (k+1) V (λj=>O (U W)<=j/\j<O (U V)) (Ai 221 v) (.agg o))<|GY rd n s.a []:=by
 obtain⟨i0,hi,ap,aq,ar⟩:=DL Tryz.infoThing;have ag:D<|Lo k W b _ s _ _ []<|Az W<|M #[.pointer _,.func (.func f) #[] #[]] _:=qU h;have ae:=T h;have ad:=T t;have ab:=T S;have aj:=Cd h.ad;have a0:=h.a;obtain⟨R,w⟩:=CC<|GY rd n s.a [];rw[AE w];clear h t S;go_enter func306,ntmps306;go_wp2;generalize Az W (M #[A8 b,.func (.func f) #[] #[]] 218)=W0 at *
 go_loopg[5,7] n (λg y av wr=>∃(m p:I) (a:A4) (l c:I) (o:AJ<|AM Unit),y=G a l c/\av=C .u64 m/\D (m+g=n)/\D (p<=K s.e)/\D (K o<=p)/\D (Lo k W b (.func (.func f) #[] #[]) s p (G a l c) o wr)/\D (GY rd g p o=R))
 grind [D];clear ag w;obtain⟨m,p,a,l,c0,o,rfl,rfl,N,hp,ha,i,w⟩:=hrel;have kb:=Cc i.h 0;have a3:=Cc i.h 1;obtain _|g:=gk
 .have hk:m=n:=AY<|AE N;subst hk;have B:D<|R=.ok _:=w.symm;clear w N;go_wp2;go_ret;rw[AE B];exact⟨i.ai,⟨_,Z,⟨_,_,_,Z⟩,i.ad⟩,i.e⟩
 have az:m<n:=AY<|AE N;have x:=ad.out wr p i.e i.ai;have r:=AE w;rw[GY]at r;rcases hq:rd p with er|dq
 .rw[hq]at r x;simp only[]at r;obtain⟨en,pl⟩:=er;have B:=T r.symm;clear w r hq
  go_wp2_with(first
   |(go_at_call 301;apply x.mono;clear x;rintro e A ⟨L,hF⟩;obtain⟨hF,pz,am⟩:=(show D4 en pl e/\∃p,Ck A b {s with a:=p}from hF);obtain rfl:=hF))
  rw[AE B];exact⟨Z,i.ai.trans L,Z,pz,am⟩
 obtain⟨d,q⟩:=dq;rw[hq]at r x;simp only[]at r;have a2:=ab.out p d q hq;have HN:=T r;have ay:K o<=200000000:=by grind [D]
 have aw:D<|K o+1<=q:=by grind [D]
 have af:=T i.size;have ac:D (∀g,Ax (AX a l c0)=H g->g<O (U wr)):=by obtain⟨xs,h1,_⟩:=i.a0;exact Qe h1
 go_wp2_with(first
  |(go_at_call 301;apply x.mono;rintro e A ⟨L,hF⟩;obtain⟨⟨au,y,rfl,hd⟩,Q⟩:=(show(∃au y,e=Ak _/\CA k A _ _ d)/\Ck A b {s with a:=q}from hF);have F:=T<|i.but' aj Q L;have HD:=T hd;have HQ:=T Q.a;obtain⟨xs,al,ao⟩:=F.a0;have P:=T al;have ai:=T ao;have aa:=T F.size)
  |(at_builtin;apply JH Z Z underlying221 hi ap aq ar Z B8 Z (P.alloc _) 1 1 Z Z (EU) (λa4 z=>by simp at z;subst z;rfl) B8 Bc E<|B1<|AE aa;intro v' w5 u ak an;have ah:=T<|F.push ae P ai HD ac af u ak an;obtain⟨g5,ax,rfl⟩:=ownsRow_succ u))
 go_roundg g;exact⟨_,q,_,_,_,_,Z,Bb,B9,HQ,by grind [D],ah,HN⟩;omega
def dm{c:Code}(T:I->X->Prop)(b:I->Act)(d:(∀x V,T x V->Q .normal (b x) V)->c.wp P Q a w)(e:∀x V,T x V->Q .normal (b x) V):c.wp P Q a w:=d e
theorem qW{u:FrameMode}(h:Ck W b s)(c:s.c=k+1)(i:s.c<=1000000):CallsD As 293 #[A8 b] u W λe d a=>d=u/\(e=Ak (Af #[])/\Ck a b {s with c:=k}/\Ci b W a):=by
 have j:AC W ⟨b,4,Ao⟩=H (C Y<|k+1):=by have:=Cc h.ad 4;rw[this];show H (Value.int Y (s.c:J))=_;rw[c];rfl
 have g:=Dy W b 4 _ _ h.ad;have f:D<|Ck (AB W _ _) b _/\Ci b W (AB W _<|.int _ k):=WV 0 h;apply callsD_of_wp func293 Z;simp only[ntmps293,K9,FN,J2,Nat.reduceAdd,Nat.reduceSub,Mp,Mq,Ms,Mr,Ka,Kw];go_wp2;go_end0;grind [D]
def dt(t:J)(h:Ck W b s)(r:∀V,Ck V b s->Ar As 270 #[A8 b] V λe m=>D4 t s.a e/\A0 V m):Ar As 301 #[Ag #[A8 b,.func (.func f) #[] #[]]] W λe m=>Ci b W m/\D4 t s.a e/\∃p,Ck m b {s with a:=p}:=by
 have l:=T h;have y:Below _ W (Az W<|M #[A8 b,.func (.func f) #[] #[]] 218).drew:=(Cm).drew;have g:=T y;have u:D<|(Az W _).drew.heap[O<|U W]?=H (M #[A8 b,.func (.func f) #[] #[]] 218):=Cj W
 go_enter_defers func301,ntmps301
 go_wp2_with fail
 apply Ei (S:=λV=>A7 V (O<|U W) #[A8 b,.func (.func f) #[] #[]] 218) B6;have d:=AE u;refine EN (i:=0) (v:=A9 (O<|U W) 1) rfl B6 B6 B6 (λc a w h=>NH results301 B8 h) (AF ⟨rfl,λV k=>rfl⟩) d <| EN (i:=1) (v:=.func (.func f) #[] #[]) rfl B6 B6 B6 (λc a w h=>NH results301 B8 h) (AF ⟨rfl,λV k=>(by have x:=Cc k 1;go_simp)⟩) d ?_;refine EN (i:=2) (v:=A8<|O<|U W) Z B6 B6 B6 (λc a w h=>NH results301 B8 h) (AF ⟨Z,λV k=>rfl⟩) d <| EN (i:=3) (v:=A8 b) Z B6 B6 B6 (λc a w h=>NH results301 B8 h) (AF ⟨Z,λV k=>(by have x:=Cc k 0;go_simp)⟩) d ?_;refine Hk 4 6 (λq o=>?_) λq o=>?_
 .go_simp;apply (r _<|l.ac g).mono;rintro e A ⟨hF,j⟩;obtain rfl:=hF;exact⟨(Ci.of_below g).trans<|Ci.of_below j,Z,_,(l.ac g).ac j⟩
 go_simp;have z:((Az W _).drew.alloc<|M #[C Y 0,C Y 0,C .u64 0] 275).heap[O<|U W]?=_:=(CB _ _ _<|Cd d).trans d;have n:Below _ W<|(Az W _).drew.alloc<|M #[C Y 0,C Y 0,C .u64 0] 275:=g.alloc g.size _;refine o.out _ _ z λ_=>?_;refine CH 4 λq o=>?_;go_simp;apply (r _<|l.ac n).mono;rintro e A ⟨hF,j⟩;obtain rfl:=hF;exact⟨(Ci.of_below n).trans<|Ci.of_below j,Z,_,(l.ac n).ac j⟩
section
variable{bs:A1} {lim:Int} {li:Nat->Nat->Except (Int×Int) (List (DataW Unit)×Nat)} {ma:Nat->Nat->Except (Int×Int) (List (Lit×DataW Unit)×Nat)} {w x q:Nat}
def qX:Gn bs lim li ma 1 w x q=.ok (.nil,q):=rfl
def qY:Gn bs lim li ma 2 w x q=.ok (.lit<|.bool AQ,q):=rfl
def qZ:Gn bs lim li ma 3 w x q=.ok (.lit<|.bool AP,q):=rfl
def r7:Gn bs lim li ma 7 w x q=(match EV bs lim x q []with|.error e=>.error e|.ok (l,r)=>.ok (.ptr<|.lit<|.string l,r)):=rfl
def r8:Gn bs lim li ma 8 w x q=(match Ds bs lim x q [] 0 with|.error e=>.error e|.ok (l,r)=>.ok (.lit<|.string l,r)):=rfl
def r9:Gn bs lim li ma 9 w x q=(match li x q with|.error e=>.error e|.ok (ds,r)=>.ok (.agg ds,r)):=rfl
def rf:Gn bs lim li ma 10 w x q=(match ma x q with|.error e=>.error e|.ok (ds,r)=>.ok (.map ds,r)):=rfl
def rg(h:4<=so/\so<=6):Gn bs lim li ma so w x q=(match FE so w x q with|.error e=>.error e|.ok z=>.ok (.lit<|.int Y z,q)):=by rcases(show so=4\/so=5\/so=6 by omega)with rfl|rfl|rfl<;>rfl
end
theorem du{so w:J}{x:I}{p z:J}(h:FE so w x p=.ok z):-9223372036854775808<=z/\z<=9223372036854775807:=by grind [wrap64,FE,GG]
theorem RE:∀(k p a x q:I),CZ bs lim k p a=.ok (x,q)->x<(a+1)*256^k
 |0,p,a,x,q,h=>kfu
 |k+1,p,a,x,q,h=>by
  rw[CZ]at h;split at h
  .cases h
  next c _ =>
  split at h
  .cases h
  have b:=RE k _ _ x q h;have d:=c.toNat_lt;have e:(a*256+c.toNat+1)*256^k<=((a+1)*256)*256^k:=PN _ E;grind
def dv{w x:I}(h:w<=8/\(w=0\/g=0)/\g<18446744073709551616)(d:CZ bs lim w p g=.ok (x,q)):x<18446744073709551616:=by
 have a:=RE w p g x q d;obtain⟨b,c,e⟩:=h;rcases c with rfl|rfl
 .simp at a;omega
 have:256^w<=256^8:=OB B8 b;omega
def rh(e:O (U W)<=lo)(hb:b<O (U W))(h:CA k V (λj=>lo<=j/\j<O (U V)) v d)(c:Ci b V V'):CA k V' (λj=>O (U W)<=j/\j<O (U V')) v d :=
 h.same (λj a=>⟨E,CQ a.2 c.size⟩) λj a=>c.block j a.2 E
theorem ri{l:A1}(m:O (U W)<=lo)(h:Cn V lo v l):CA (k+1) V (λj=>O (U W)<=j/\j<O (U V)) (Ai 219 v)<|.ptr<|.lit<|.string l:=by
 unfold CA;refine⟨v,Z,Ba,?_⟩;rcases h.1.2 with f|⟨g,b,c,e,i,a,d⟩
 .grind
 exact AG ⟨g,b,c,e,⟨E,(Cd a)⟩,a,d⟩
theorem WX{t:A3}{u:FrameMode}(d:u≠.run)(h:Ck V b s)(c:s.c=k+1)(e:s.c<=1000000)(H:∀a,Ck a b {s with c:=k}->Ci b V a->Leaves As f301 t R [] (settle u) a):Leaves As f301 t R [{target:=.fn (.func 293) #[],args:=#[A8 b]}] u V:=by refine OJ (f:=293) (args:=#[A8 b]) d C1 <| (qW h c e).mono ?_;grind
theorem rj(z:I->I×I×I){w:I}(h:Ck W b s)(h1:JC s c)(bj:z c.toNat=(so,w,ar))(bv:so<=10)(hw:w<=8)(hg:w=0\/ar=0)(bi:ar<18446744073709551616)(bk:K s.e<=200000000)(bw:s.c<=100000)(hf:f=111\/f=112)(hU:∀V,Ci b W V->U8 V)(ag:7<b)(cH:∀V,Ci b W V->Ar As f #[C Am c.toNat] V λe V'=>e=Ak (Ag #[C Y so,C Y w,C .u64 ar])/\A0 V V')(cL:¬(s.c:J)=s.b->∀(V:X) (p n:I),Ck V b {s with a:=p,c:=s.c+1}->Ci b W V->n<18446744073709551616->Ar As 306 #[Ag #[A8 b,.func (.func f) #[] #[]],C .u64 n] V (Rw V b {s with a:=p,c:=s.c+1} (λV' v ds=>(∃a n c,v=G a n c)/\CA (g+1) V' (λa0=>O (U V)<=a0/\a0<O (U V')) (Ai 221 v) (.agg ds))<|GY (DR z s.e s.d s.b g<|s.c+1) n p []))(cM:¬(s.c:J)=s.b->∀(V:X) (p n:I),Ck V b {s with a:=p,c:=s.c+1}->Ci b W V->n<18446744073709551616->Ar As 307 #[Ag #[A8 b,.func (.func f) #[] #[]],C .u64 n] V (Rw V b {s with a:=p,c:=s.c+1} (λV' v es=>(∃a n c,v=G a n c)/\CA (g+1) V' (λa0=>O (U V)<=a0/\a0<O (U V')) (Ai 223 v) (.map es))<|GK (El z s.e s.d) (DR z s.e s.d s.b g<|s.c+1) n p [] [])):Ar As 301 #[Ag #[A8 b,.func (.func f) #[] #[]]] W<|RD (g+1) W b s<|DR z s.e s.d s.b (g+1) s.c s.a:=by
 obtain⟨bu,HR⟩:=CC<|DR z s.e s.d s.b (g+1) s.c s.a;rw[AE HR];have t:=AE HR;rw[TD h1.1 h1.2 bj]at t;clear HR bj;have a7:=λV A=>J4 (W:=V) (b:=b) (s:=s) (c:=c) A h1;have cA:∀V,Ck V b s.next->Ar As 302 #[Ag #[A8 b,.func (.func f) #[] #[]],Ag #[C Y so,C Y w,C .u64 ar]] V (Q6 V b s.next (λx:I=>C .u64 x)<|CZ s.e s.d w (s.a+1) ar):=λV A=>WE (W:=V) (b:=b) (s:=s.next) f so (w:=w) (g:=ar) hw hg A
 have ae:∀V,Ck V b {s.next with c:=s.c+1}->Ar As 302 #[Ag #[A8 b,.func (.func f) #[] #[]],Ag #[C Y so,C Y w,C .u64 ar]] V (Q6 V b {s.next with c:=s.c+1} (λx:I=>C .u64 x)<|CZ s.e s.d w (s.a+1) ar):=λV A=>WE (W:=V) (b:=b) (s:={s.next with c:=s.c+1}) f so (w:=w) (g:=ar) hw hg A;have af:D (∀x q,CZ s.e s.d w (s.a+1) ar=.ok (x,q)->x<18446744073709551616):=λx q hx=>dv ⟨hw,hg,bi⟩ hx;have cN:=λV p x A hx=>pO (W:=V) (b:=b) (s:={s with a:=p}) f so w ar (x:=x) hx A;have cB:=λV p x A hx=>qI (W:=V) (b:=b) (s:={s with a:=p}) f (n:=x) hx A bk;have cX:=λV p x A hB hx=>dh (W:=V) (b:=b) (s:={s with a:=p}) f (n:=x) hx A (hU V hB) ag bk;have av:=λV A=>by have:=G5 (W:=V) (b:=b) (s:=s.next) 9 A;rwa[show((s.next.a:J)-1)=s.a by show(((s.a+1:I)):J)-1=s.a;omega]at this
 have aq:∀V,Ck V b s.next->(s.c:J)=s.b->Ar As 265 #[A8 b] V λe W'=>D4 11 s.a e/\Ci b V W'/\∃p,Ck W' b {s with a:=p}:=λV A z=>by have:=dl (W:=V) (b:=b) (s:=s.next) A z;rwa[show((s.next.a:J)-1)=s.a by show(((s.a+1:I)):J)-1=s.a;omega]at this
 have au:∀V,Ck V b s.next->¬(s.c:J)=s.b->Ar As 265 #[A8 b] V λe W'=>e=Ak (Af #[])/\Ck W' b {s.next with c:=s.c+1}/\Ci b V W':=λV A z=>dk (W:=V) (b:=b) (s:=s.next) A z keI
 have HH:=T h;have bq:=Cd h.ad;have a8:A0 W (Az W<|Aj #[A8 b,.func (.func f) #[] #[]] 218).drew:=(Cm).drew;have a1:=T a8;have bc:=T<|h.ac a8;have bd:D<|(Az W<|Aj #[A8 b,.func (.func f) #[] #[]] 218).drew.heap[O<|U W]?=H (Aj #[A8 b,.func (.func f) #[] #[]] 218):=Cj W;have a2:D (∀(a5:A3) (V:X),(callFunc f a5).run As V=.ok (.enter f a5) V):=by show∀_ _,_;rcases hf with rfl|rfl<;>exact λa5 V=>B6
 clear h h1 a8 hw hg bi hf hU
 go_enter_defers func301,ntmps301
 go_wp2_with fail
 refine dm (λM V=>KE W b (O<|U W) M (.func (.func f) #[] #[]) so w ar s.next V) (λM=>{tmps:=#[Ag #[A8 b,.func (.func f) #[] #[]],A8<|O<|U W,.nilIface,A8 M,AO,A9 (O<|U W) 1,.func (.func f) #[] #[],A8<|O<|U W,A8 b,C Am c.toNat,Ag #[C Y so,C Y w,C .u64 ar],AO,AO,AO,AO,AO,AO,AO,AO,AO,AO,AO,AO,AO,AO,AO,AO,AO,AO,AO,AO,AO,AO,AO,AO,AO,AO,AO,AO,AO,AO,AO,AO,AO,AO,AO,AO,AO,AO,AO,AO,AO,AO,AO,AO,AO,AO,AO,AO,AO,AO,AO,AO,AO,AO,AO,AO,AO,AO,AO,AO,AO,AO],defers:=[]}) (λbb=>?reg) ?tail
 case reg =>
  refine Ei (S:=λV=>A7 V (O<|U W) #[A8 b,.func (.func f) #[] #[]] 218) B6 ?_;have hS:=AE bd;refine EN (i:=0) (v:=A9 (O<|U W) 1) Z B6 B6 B6 (λc a w h=>NH results301 (d:=5) B8 (c:=c) (a:=a) (w:=w) h) (AF ⟨Z,λV A=>rfl⟩) hS ?_;refine EN (i:=1) (v:=.func (.func f) #[] #[]) rfl B6 B6 B6 (λc a w h=>NH results301 (d:=6) B8 (c:=c) (a:=a) (w:=w) h) (AF ⟨rfl,λV A=>(by have h2:=Cc A 1;go_simp)⟩) hS ?_;refine EN (i:=2) (v:=A8<|O<|U W) Z B6 B6 B6 (λc a w h=>NH results301 (d:=7) B8 (c:=c) (a:=a) (w:=w) h) (AF ⟨Z,λV A=>rfl⟩) hS ?_;refine EN (i:=3) (v:=A8 b) Z B6 B6 B6 (λc a w h=>NH results301 (d:=8) B8 (c:=c) (a:=a) (w:=w) h) (AF ⟨Z,λV A=>(by have h2:=Cc A 0;go_simp)⟩) hS ?_;refine Hk 4 6 (λad y=>?_) λad y=>?_
  .go_simp;refine(a7 _ bc).mono ?_;rintro e w2 ⟨rfl,a4,am⟩;simp only[];have ai:=(am.block _ (Cd hS) E).trans hS;have al:=(Ci.of_below a1).trans am;have a9:=Cd ai;refine y.out _ _ ai λ_=>?_;clear y;refine Hk 5 6 (λad y=>?_) λad y=>?_
   .go_simp;rw[AE a2];refine Ce (cH _ al) ?_;rintro e w3 ⟨rfl,l⟩;simp only[];have ac:=(l.block _ a9).trans ai;have a3:=Cd ac;refine y.out _ _ ac λ_=>?_;clear y;refine CH 6 λad y=>?_;go_simp;have aj:(Az w3<|Aj #[C Y 0,C Y 0,C .u64 0] 275).heap[O<|U W]?=_:=(CB _ _ _ a3).trans ac;refine y.out _ _ aj λ_=>?_;clear y;refine CH 7 λad y=>?_;rw[Cp keJ];refine Jf 275 _ _ Z (O<|U w3) #[C Y so,C Y w,C .u64 ar] Z Z 275 _ (Cj w3) OT Z BK ?_;have u:D (KE W b (O<|U W) (O<|U w3) (.func (.func f) #[] #[]) so w ar s.next<|(Az w3<|Aj #[C Y 0,C Y 0,C .u64 0] 275).setRow (O<|U w3) #[C Y so,C Y w,C .u64 ar]) :=
     Qb (M:=O<|U w3) HH ((a4.ac l).ac Cm) ((al.trans<|Ci.of_below l).trans<|Ci.of_below Cm) aj a3<|Cj w3
    refine y.out _ _ u.h λ_=>?_;clear y;refine CK ?_;exact bb _ _ u
   go_simp;have ac:(Az w2<|Aj #[C Y 0,C Y 0,C .u64 0] 275).heap[O<|U W]?=_:=(CB _ _ _ a9).trans ai;have an:A0 w2<|Az w2<|Aj #[C Y 0,C Y 0,C .u64 0] 275:=Cm;have a3:=Cd ac;refine y.out _ _ ac λ_=>?_;clear y;refine CH 5 λad y=>?_;go_simp;rw[AE a2];refine Ce (cH _<|al.trans<|Ci.of_below an) ?_;rintro e w3 ⟨rfl,l⟩;simp only[];have aj:=(l.block _ a3).trans ac;have az:=(l.block (O<|U w2) Ba).trans<|Cj w2 (o:=(Aj #[C Y 0,C Y 0,C .u64 0] 275));refine y.out _ _ aj λ_=>?_;clear y;refine CH 7 λad y=>?_;rw[Cp keJ];refine Jf 275 _ _ Z (O<|U w2) #[C Y so,C Y w,C .u64 ar] Z Z 275 _ az OT Z BK ?_;have u:D (KE W b (O<|U W) (O<|U w2) (.func (.func f) #[] #[]) so w ar s.next<|AD w3 (O<|U w2) #[C Y so,C Y w,C .u64 ar]) :=
    Qb (M:=O<|U w2) HH ((a4.ac an).ac l) ((al.trans<|Ci.of_below an).trans<|Ci.of_below l) aj a9 az
   refine y.out _ _ u.h λ_=>?_;clear y;refine CK ?_;exact bb _ _ u
  go_simp;have ac:((Az W<|Aj #[A8 b,.func (.func f) #[] #[]] 218).drew.alloc<|Aj #[C Y 0,C Y 0,C .u64 0] 275).heap[O<|U W]?=_:=(CB _ _ _<|Cd hS).trans hS;have an:A0 W<|(Az W<|Aj #[A8 b,.func (.func f) #[] #[]] 218).drew.alloc<|Aj #[C Y 0,C Y 0,C .u64 0] 275:=a1.alloc a1.size _;have bh:((Az W<|Aj #[A8 b,.func (.func f) #[] #[]] 218).drew.alloc<|Aj #[C Y 0,C Y 0,C .u64 0] 275).heap[O (U W)+1]?=H (Aj #[C Y 0,C Y 0,C .u64 0] 275):=by have:=Cj (Az W<|Aj #[A8 b,.func (.func f) #[] #[]] 218).drew (o:=(Aj #[C Y 0,C Y 0,C .u64 0] 275));simp_all
  have bm:=T<|HH.ac an;refine y.out _ _ ac λ_=>?_;clear y;refine CH 4 λad y=>?_;go_simp;refine(a7 _ bm).mono ?_;rintro e w2 ⟨rfl,a4,am⟩;simp only[];have ai:=(am.block _ (Cd ac) E).trans ac;have bg:=(am.block _ (Cd bh) E).trans bh;have al:=(Ci.of_below an).trans am;refine y.out _ _ ai λ_=>?_;clear y;refine CH 5 λad y=>?_;go_simp;rw[AE a2];refine Ce (cH _ al) ?_;rintro e w3 ⟨rfl,l⟩;simp only[];have aj:=(l.block _<|Cd ai).trans ai;have az:=(l.block _<|Cd bg).trans bg;refine y.out _ _ aj λ_=>?_;clear y;refine CH 7 λad y=>?_;rw[Cp keJ];refine Jf 275 _ _ Z (O (U W)+1) #[C Y so,C Y w,C .u64 ar] Z Z 275 _ az OT Z BK ?_;have u:D (KE W b (O<|U W) (O (U W)+1) (.func (.func f) #[] #[]) so w ar s.next<|AD w3 (O (U W)+1) #[C Y so,C Y w,C .u64 ar]) :=
   Qb (M:=(O (U W)+1)) HH (a4.ac l) (al.trans<|Ci.of_below l) aj E az
  refine y.out _ _ u.h λ_=>?_;clear y;refine CK ?_;exact bb _ _ u
 case tail =>
  intro M V hT;have u:=T hT;clear hT bd bc a1 HH cH a7 a2;have r:=Cc u.h 0;have j:=Cc u.h 1;have m0:=Cc u.c 0;have m1:=Cc u.c 1;have m2:=Cc u.c 2;have br:so=0\/so=1\/so=2\/so=3\/so=4\/so=5\/so=6\/so=7\/so=8\/so=9\/so=10:=E;rcases br with k|k|k|k|k|k|k|k|k|k|k
  all_goals
   first|have e0:((so:J)==0)=AP:=by rw[k];rfl|have e0:((so:J)==0)=AQ:=C8
   first|have e2:((so:J)==2)=AP:=by rw[k];rfl|have e2:((so:J)==2)=AQ:=C8
   first|have e3:((so:J)==3)=AP:=by rw[k];rfl|have e3:((so:J)==3)=AQ:=C8
   first|have e4:((so:J)==4)=AP:=by rw[k];rfl|have e4:((so:J)==4)=AQ:=C8
   first|have e5:((so:J)==5)=AP:=by rw[k];rfl|have e5:((so:J)==5)=AQ:=C8
   first|have e6:((so:J)==6)=AP:=by rw[k];rfl|have e6:((so:J)==6)=AQ:=C8
   first|have e7:((so:J)==7)=AP:=by rw[k];rfl|have e7:((so:J)==7)=AQ:=C8
   first|have e8:((so:J)==8)=AP:=by rw[k];rfl|have e8:((so:J)==8)=AQ:=C8
   first|have e9:((so:J)==9)=AP:=by rw[k];rfl|have e9:((so:J)==9)=AQ:=C8
   first|have bn:((so:J)==10)=AP:=by rw[k];rfl|have bn:((so:J)==10)=AQ:=C8
  .rw[Cp k]at t;subst t;have be:=av V u.e;clear k av cA ae cN cB cX aq au cL cM
   go_wp2_with(first
    |(go_at_call 271;refine be.mono ?_;clear be;rintro e w7 ⟨hF,rfl⟩;obtain rfl:=hF))
   exact⟨u.ai,Z,_,u.e⟩
  all_goals
   rw[Cl E]at t
   first
   |have h9:9<=so:=by omega
    clear h9;by_cases ao:(s.c:J)=s.b
    .rw[Cp ⟨E,ao⟩]at t;subst t;have cE:=aq V u.e ao;clear k av cA ae cN cB cX aq au cL cM
     go_wp2_with(first
      |(go_at_call 265;refine cE.mono ?_;clear cE;rintro e w7 ⟨hF,bo,bp⟩;obtain rfl:=hF))
     exact⟨u.ai.trans bo,Z,bp⟩
    rw[Cl λhh=>ao hh.2]at t;have cE:=au V u.e ao;clear av cA cN cB cX aq au;rcases ha:CZ s.e s.d w (s.a+1) ar with er|xq
    .rw[ha]at t;simp only[]at t;subst t;obtain⟨en,pl⟩:=er;rw[ha]at ae;clear k cL cM af
     go_wp2_with(first
      |(go_at_call 265;refine cE.mono ?_;clear cE;rintro e w4 ⟨rfl,ax,aw⟩;have F:=T<|u.aq ax aw;clear u r j m0 m1 m2 aw ax;have r:=Cc F.h 0;have j:=Cc F.h 1;have m0:=Cc F.c 0;have m1:=Cc F.c 1;have m2:=Cc F.c 2;have L:=ae w4 F.e;clear ae)
      |(go_at_call 302;refine L.mono ?_;clear L;rintro e w5 ⟨N,rfl,pz,ba⟩))
     exact WX Ba ba Z B9 λB ay ag=>⟨(F.ai.trans N).trans ag,Z,_,ay⟩
    obtain⟨x,q⟩:=xq;rw[ha]at t ae;simp only[]at t;rw[k]at t;have ap:=af.out x q ha
    first
    |rw[r9]at t
     obtain⟨ak,HZ⟩:=CC<|GY (DR z s.e s.d s.b g<|s.c+1) x q [];have Q:=λB (hs:Ck B b {s with a:=q,c:=s.c+1}) (hb:Ci b W B)=>cL ao B q x hs hb ap
    |rw[rf]at t
     obtain⟨ak,HZ⟩:=CC<|GK (El z s.e s.d) (DR z s.e s.d s.b g<|s.c+1) x q [] [];have Q:=λB (hs:Ck B b {s with a:=q,c:=s.c+1}) (hb:Ci b W B)=>cM ao B q x hs hb ap
    rw[AE HZ]at t Q;clear k cL cM af ha HZ;rcases ak with⟨en,pl⟩|⟨ds,bt⟩
    all_goals
     simp only[]at t;subst t
     go_wp2_with(first
      |(go_at_call 265;refine cE.mono ?_;clear cE;rintro e w4 ⟨rfl,ax,aw⟩;have F:=T<|u.aq ax aw;clear u r j m0 m1 m2 aw ax;have r:=Cc F.h 0;have j:=Cc F.h 1;have m0:=Cc F.c 0;have m1:=Cc F.c 1;have m2:=Cc F.c 2;have L:=ae w4 F.e;clear ae)
      |(go_at_call 302;refine L.mono ?_;clear L;rintro e w5 ⟨N,rfl,ab⟩;have m:=T<|F.aq ab N;clear F r j m0 m1 m2 N ab;have r:=Cc m.h 0;have j:=Cc m.h 1;have m0:=Cc m.c 0;have m1:=Cc m.c 1;have m2:=Cc m.c 2;have R:=Q w5 m.e m.ai;clear Q)
      |(go_at_call 306;refine R.mono ?_;clear R;rintro e w6 ⟨aa,ah⟩;first|(obtain⟨⟨v6,rfl,⟨a6,n6,c6,rfl⟩,bf⟩,P⟩:=ah)|(obtain⟨rfl,P⟩:=ah))
      |(go_at_call 307;refine R.mono ?_;clear R;rintro e w6 ⟨aa,ah⟩;first|(obtain⟨⟨v6,rfl,⟨a6,n6,c6,rfl⟩,bf⟩,P⟩:=ah)|(obtain⟨rfl,P⟩:=ah)))
     first
     |exact WX Ba P.choose_spec Z B9 λB ay ag=>⟨(m.ai.trans aa).trans ag,Z,_,ay⟩
     |exact WX Ba P Z B9 λB ay ag=>⟨_,Rs results301,(m.ai.trans aa).trans ag,⟨_,_,Z,rh m.ai.size bq bf ag⟩,ay⟩
   |rw[Cl E]at t
    clear av ae aq au cL cM;have L:=cA V u.e;clear cA;rcases ha:CZ s.e s.d w (s.a+1) ar with er|xq
    .rw[ha]at t L;simp only[]at t;subst t;obtain⟨en,pl⟩:=er;clear k cN cB cX af
     go_wp2_with(first
      |(go_at_call 302;refine L.mono ?_;clear L;rintro e w5 ⟨N,rfl,pz,ba⟩))
     exact⟨u.ai.trans N,Z,pz,ba⟩
    obtain⟨x,q⟩:=xq;rw[ha]at t L;simp only[]at t;have ap:=af.out x q ha
    first
    |have h9:so<=3:=by omega
     clear h9;rw[k]at t
     first|rw[qX]at t|rw[qY]at t|rw[qZ]at t
     subst t;clear k cN cB cX af ha
     go_wp2_with(first
      |(go_at_call 302;refine L.mono ?_;clear L;rintro e w5 ⟨N,rfl,ab⟩;have m:=T<|u.aq ab N;clear u r j m0 m1 m2 N ab;have r:=Cc m.h 0;have j:=Cc m.h 1;have m0:=Cc m.c 0;have m1:=Cc m.c 1;have m2:=Cc m.c 2))
     exact⟨_,Rs results301,m.ai,⟨_,_,Z,Z⟩,m.e⟩
    |have h9:7<=so:=by omega
     clear h9;rw[k]at t
     first
     |rw[r7]at t
      obtain⟨ak,HZ⟩:=CC<|EV s.e s.d x q [];have Q:=λB (hs:Ck B b {s with a:=q}) (_:Ci b W B)=>cB B q x hs ap
     |rw[r8]at t
      obtain⟨ak,HZ⟩:=CC<|Ds s.e s.d x q [] 0;have Q:=λB (hs:Ck B b {s with a:=q}) (hb:Ci b W B)=>cX B q x hs hb ap
     rw[AE HZ]at t Q;clear k cN cB cX af ha HZ;rcases ak with⟨en,pl⟩|⟨bx,bt⟩
     all_goals
      simp only[]at t;subst t
      go_wp2_with(first
       |(go_at_call 302;refine L.mono ?_;clear L;rintro e w5 ⟨N,rfl,ab⟩;have m:=T<|u.aq ab N;clear u r j m0 m1 m2 N ab;have r:=Cc m.h 0;have j:=Cc m.h 1;have m0:=Cc m.c 0;have m1:=Cc m.c 1;have m2:=Cc m.c 2;have R:=Q w5 m.e m.ai;clear Q)
       |(go_at_call 304;refine R.mono ?_;clear R;rintro e w6 ⟨aa,ah⟩;first|(obtain⟨⟨v6,rfl,o6,b6,a6,n6,c6,rfl⟩,P⟩:=ah)|(obtain⟨rfl,P⟩:=ah))
       |(go_at_call 305;refine R.mono ?_;clear R;rintro e w6 ⟨aa,rfl,P⟩))
      first
      |exact⟨m.ai.trans aa,Z,P⟩
      |exact⟨_,Rs results301,m.ai.trans aa,⟨_,_,Z,Z⟩,P⟩
      |exact⟨_,Rs results301,m.ai.trans aa,⟨_,_,Z,ri (AY m.ai.size) ⟨o6,b6,_,_,_,Z⟩⟩,P⟩
    |rw[rg E]at t
     have Q:=λB (hs:Ck B b {s with a:=q})=>cN B q x hs ap;obtain⟨ak,HZ⟩:=CC<|FE so w x q;rw[AE HZ]at t Q;clear k cN cB cX af ha;rcases ak with⟨en,pl⟩|bz
     all_goals
      simp only[]at t;subst t
      try have bl:=T<|du HZ
      clear HZ
      go_wp2_with(first
       |(go_at_call 302;refine L.mono ?_;clear L;rintro e w5 ⟨N,rfl,ab⟩;have m:=T<|u.aq ab N;clear u r j m0 m1 m2 N ab;have r:=Cc m.h 0;have j:=Cc m.h 1;have m0:=Cc m.c 0;have m1:=Cc m.c 1;have m2:=Cc m.c 2;have R:=Q w5 m.e;clear Q)
       |(go_at_call 303;refine R.mono ?_;clear R;rintro e w6 ⟨aa,rfl,P⟩))
      first
      |exact⟨m.ai.trans aa,Z,P⟩
      |exact⟨_,Rs results301,m.ai.trans aa,⟨_,_,Z,Z,bl⟩,P⟩
structure Ig(b m:AH)(W W':Ap):Prop where
 os:W'.os=W.os
 tape:W'.tape=W.tape
 output:W'.output=W.output
 size:Au (Av W)<=Au (Av W')
 block:∀k,k<Au (Av W)->k≠b->k≠m->W'.heap[k]?=W.heap[k]?
def Ig.of1(h:Ci b W W'):Ig b m W W':=⟨h.os,h.tape,h.output,h.size,λk a c _=>h.block k a c⟩
def Ig.of2(h:Ci m W W'):Ig b m W W':=⟨h.os,h.tape,h.output,h.size,λk a _ c=>h.block k a c⟩
def Ig.trans{A C:X}(h:Ig b m A B)(k:Ig b m B C):Ig b m A C :=
 ⟨k.os.trans h.os,k.tape.trans h.tape,k.output.trans h.output,CE h.size k.size,λi d a c=>(k.block i Bn a c).trans<|h.block i d a c⟩
def Ck.a2(h:Ck V b s)(k:m≠b)(hi:∀g off,s.e≠[]->s.f=H ⟨g,off,Ao⟩->g≠m)(d:Ci m V V'):Ck V' b s :=
 ⟨(d.block b (Cd h.ad)<|Ne.symm k).trans h.ad,λi f=>by obtain⟨g,off,a,j,c⟩:=h.c i f;exact⟨g,off,a,j,(Je<|d.block g (Fk c)<|hi g off (λe=>by simp[e]at f) a).trans c⟩,h.len,h.a⟩
def F5.ai(h:F5 V m ks)(d:m≠b)(a:Ci b V V'):F5 V' m ks :=
 h.kept (row:=H b) ⟨a.os,a.tape,a.output,a.size,λk c f=>a.block k c λe=>f<|by rw[e]⟩ (λe=>d<|by injection e)
def dw(W:Ap)(b m:AH)(s:Cw)(ks:AJ A1)(r:A5 A1)(e:Ending)(W':Ap):Prop :=
 Ig b m W W'/\match r with
 |.ok (l,p)=>e=Ak (Ae ⟨Aw l⟩)/\Ck W' b {s with a:=p}/\F5 W' m (l::ks)
 |.error (en,pl)=>D4 en pl e/\∃p,Ck W' b {s with a:=p}
theorem TF:∀(n p b:I) (a l:A1) (r:I),Ds bs lim n p a b=.ok (l,r)->K l=K a+n/\r=p+n
 |0,p,b,a,l,r,h=>kfF
 |n+1,p,b,a,l,r,h=>by
  rw[Ds]at h;split at h
  .cases h
  split at h
  .cases h
  split at h
  .cases h
  have:=TF n _ _ _ l r h;rw[Dj]at this;simp at this;omega
theorem rk(hd:I->I×I×I){w:I}(h:Ck W b s)(h1:JC s c)(hk:F5 W m ks)(bf:m≠b)(bd:∀a7 off,s.e≠[]->s.f=H ⟨a7,off,Ao⟩->a7≠m)(bm:K ks<1000000000)(bc:hd c.toNat=(so,w,ar))(hw:w<=8)(hg:w=0\/ar=0)(bb:ar<18446744073709551616)(bn:K s.e<=200000000)(hf:f=111\/f=112)(hU:∀V,Ci b W V->U8 V)(bk:7<b)(cH:∀V,Ci b W V->Ar As f #[C Am c.toNat] V λe V'=>e=Ak (Ag #[C Y so,C Y w,C .u64 ar])/\A0 V V'):Ar As 309 #[Ag #[A8 b,.func (.func f) #[] #[]],.map<|H m] W<|dw W b m s ks<|El hd s.e s.d ks s.a:=by
 obtain⟨bp,HR⟩:=CC<|El hd s.e s.d ks s.a;rw[AE HR];have j:=AE HR;unfold El at j;rw[h1.1]at j;simp only[]at j;rw[Cl h1.2,bc]at j;simp only[]at j;clear HR bc;have an:=λV d=>J4 (W:=V) (b:=b) d h1;have cA:∀V,Ck V b _->Ar _ _ _ V (Q6 V b _ _<|CZ s.e s.d w (s.a+1) ar):=λV d=>WE (s:=s.next) f so hw hg d;have ak:D (∀x q,CZ s.e s.d w (s.a+1) ar=.ok (x,q)->x<18446744073709551616):=λx q hx=>dv ⟨hw,hg,bb⟩ hx;have cX:∀(V:X) (p x:I),Ck V b _->Ci b W V->x<18446744073709551616->Ar _ _ _ V (Q6 V b _ _<|Ds s.e s.d x p [] 0):=λV p x d hB hx=>dh (s:={s with a:=p}) f hx d (hU V hB) bk bn;have am:=λV d=>by have:=G5 (W:=V) (b:=b) (s:=s.next) 9 d;rwa[show((s.next.a:J)-1)=s.a by show(((s.a+1)):J)-1=s.a;omega]at this
 have ah:∀(V:X) (p:I),Ck V b _->Ar _ _ _ V λe W'=>D4 12 (p-1) e/\W'=V:=λV p d=>G5 (s:={s with a:=p}) 12 d;have az:D (∀V,Ci b W V->F5 V m ks):=λV d=>hk.ai bf d;have bh:D (∀V V' p,Ck V b _->Ci m V V'->Ck V' b {s with a:=p}):=λV V' p d hB=>d.a2 bf bd hB;have HH:=T h;have bq:=Cd h.ad;have ao:Below _ W (Az W<|M #[A8 b,.func (.func f) #[] #[]] 218).drew:=(Cm).drew;have ae:=T ao;have a1:=T<|h.ac ao;have a2:D<|(Az W _).drew.heap[O<|U W]?=H (M #[A8 b,.func (.func f) #[] #[]] 218):=Cj W;have af:D (∀(al:A3) (V:X),(callFunc f al).run As V=.ok (.enter f al) V):=by show∀_ _,_;rcases hf with rfl|rfl<;>exact λal V=>B6
 clear h h1 ao hw hg bb hf hU hk bd;go_enter func309,ntmps309
 go_wp2_with fail
 refine dm (λaa V=>KE W b (O<|U W) aa (.func (.func f) #[] #[]) so w ar s.next V) (λaa=>{tmps:=#[Ag #[A8 b,.func (.func f) #[] #[]],.map<|H m,A8<|O<|U W,AO,Ae ⟨#[]⟩,A8 aa,AO,A9 (O<|U W) 1,.func (.func f) #[] #[],A8<|O<|U W,A8 b,C Am c.toNat,Ag #[C Y so,C Y w,C .u64 ar],AO,AO,AO,AO,AO,AO,AO,AO,AO,AO,AO,AO,AO,AO,AO,AO,AO,AO,AO],defers:=[]}) (λax=>?reg) ?tail
 case reg =>
  apply Ei (S:=λV=>A7 V (O<|U W) #[A8 b,.func (.func f) #[] #[]] 218) B6;have A:=AE a2;refine EN (i:=0) (v:=A9 (O<|U W) 1) rfl B6 B6 B6 (λ_ _ _ h=>h) (AF ⟨rfl,λV d=>rfl⟩) A <| EN (i:=1) (v:=.func (.func f) #[] #[]) rfl B6 B6 B6 (λ_ _ _ h=>h) (AF ⟨rfl,λV d=>(by have h2:=Cc d 1;go_simp)⟩) A ?_;refine EN (i:=2) (v:=A8<|O<|U W) Z B6 B6 B6 (λ_ _ _ h=>h) (AF ⟨Z,λV d=>rfl⟩) A <| EN (i:=3) (v:=A8 b) Z B6 B6 B6 (λ_ _ _ h=>h) (AF ⟨Z,λV d=>(by have h2:=Cc d 0;go_simp)⟩) A ?_;refine Hk 4 6 (λn a=>?_) λn a=>?_
  .go_simp;apply (an _ a1).mono;rintro e r ⟨rfl,aj,P⟩;simp only[];have B:=(P.block _ (Cd A) E).trans A;have N:=(Ci.of_below ae).trans P;have au:=Cd B;refine a.out _ _ B λ_=>?_;clear a;refine Hk 5 6 (λn a=>?_) λn a=>?_
   .go_simp;rw[AE af];apply Ce<|cH _ N;rintro e w3 ⟨rfl,t⟩;simp only[];have y:=(t.block _ au).trans B;have ai:=Cd y;refine a.out _ _ y λ_=>?_;clear a;refine CH 6 λn a=>?_;go_simp;have F:(Az w3<|M #[C Y 0,C Y 0,C .u64 0] 275).heap[O<|U W]?=_:=(CB _ _ _ ai).trans y;refine a.out _ _ F λ_=>?_;clear a;refine CH 7 λn a=>?_;rw[Cp keJ];refine Jf _ _ _ Z _ _ Z Z _ _ (Cj w3) OT Z BK ?_;have k:D (KE W b _ _ _ so w ar _ _) :=
     Qb HH ((aj.ac t).ac Cm) ((N.trans<|Ci.of_below t).trans<|Ci.of_below Cm) F ai<|Cj w3
    refine a.out _ _ k.h λ_=>?_;clear a;exact CK <| ax _ _ k
   go_simp;have y:(Az r<|M #[C Y 0,C Y 0,C .u64 0] 275).heap[O<|U W]?=_:=(CB _ _ _ au).trans B;have R:Below _ r<|Az r<|M #[C Y 0,C Y 0,C .u64 0] 275:=Cm;have ai:=Cd y;refine a.out _ _ y λ_=>?_;clear a;refine CH 5 λn a=>?_;go_simp;rw[AE af];refine Ce (cH _<|N.trans<|Ci.of_below R) ?_;rintro e w3 ⟨rfl,t⟩;simp only[];have F:=(t.block _ ai).trans y;have ad:=(t.block _ Ba).trans<|Cj r (o:=(M _ 275));refine a.out _ _ F λ_=>?_;clear a;refine CH 7 λn a=>?_;rw[Cp keJ];apply Jf 275 _ _ Z (O<|U r) #[C Y so,C Y w,C .u64 ar] Z Z 275 _ ad OT Z BK;have k:D (KE W b _ _ _ so w ar _ _) :=
    Qb HH ((aj.ac R).ac t) ((N.trans<|Ci.of_below R).trans<|Ci.of_below t) F au ad
   refine a.out _ _ k.h λ_=>?_;clear a;exact CK <| ax _ _ k
  go_simp;have y:((Az W _).drew.alloc<|M #[C Y 0,C Y 0,C .u64 0] 275).heap[O<|U W]?=_:=(CB _ _ _<|Cd A).trans A;have R:Below _ W<|(Az W _).drew.alloc<|M #[C Y 0,C Y 0,C .u64 0] 275:=ae.alloc ae.size _;have ba:((Az W<|M #[A8 b,.func (.func f) #[] #[]] 218).drew.alloc<|M #[C Y 0,C Y 0,C .u64 0] 275).heap[O (U W)+1]?=H (M #[C Y 0,C Y 0,C .u64 0] 275):=by have:=Cj (Az W<|M #[A8 b,.func (.func f) #[] #[]] 218).drew (o:=(M #[C Y 0,C Y 0,C .u64 0] 275));simp_all
  have bi:=T<|HH.ac R;refine a.out _ _ y λ_=>?_;clear a;refine CH 4 λn a=>?_;go_simp;apply (an _ bi).mono;rintro e r ⟨rfl,aj,P⟩;simp only[];have B:=(P.block _ (Cd y) E).trans y;have a9:=(P.block _ (Cd ba) E).trans ba;have N:=(Ci.of_below R).trans P;refine a.out _ _ B λ_=>?_;clear a;refine CH 5 λn a=>?_;go_simp;rw[AE af];apply Ce<|cH _ N;rintro e w3 ⟨rfl,t⟩;simp only[];have F:=(t.block _<|Cd B).trans B;have ad:=(t.block _<|Cd a9).trans a9;refine a.out _ _ F λ_=>?_;clear a;refine CH 7 λn a=>?_;rw[Cp keJ];apply Jf 275 _ _ Z (O (U W)+1) #[C Y so,C Y w,C .u64 ar] Z Z 275 _ ad OT Z BK;have k:D (KE W b _ _ _ so w ar _ _) :=
   Qb HH (aj.ac t) (N.trans<|Ci.of_below t) F E ad
  refine a.out _ _ k.h λ_=>?_;clear a;exact CK <| ax _ _ k
 case tail =>
  intro aa V hT;have k:=T hT;clear hT a2 a1 ae HH cH an af;have k0:=Cc k.h 0;have k1:=Cc k.h 1;have m0:=Cc k.c 0;have m1:=Cc k.c 1;have m2:=Cc k.c 2;by_cases l:so=8
  .have e8:((so:J)==8)=AP:=kfE;have bj:((so:J) != 8)=AQ:=kfE;rw[Cp l]at j;clear am l
   go_wp2_with fail
   apply Ei (S:=λV9=>A7 V9 (O<|U W) #[A8 b,.func (.func f) #[] #[]] 218/\A7 V9 aa #[C Y so,C Y w,C .u64 ar] 275) B6;have z:=T<|k.aq (k.e.ac (Cu _ _).drew)<|Ci.of_below (Cu _ _).drew;change wpAnyH _ _ _ _ _ _ _ _ (World.drew V);refine EN (i:=0) (v:=Ag #[A8 b,.func (.func f) #[] #[]]) rfl B6 B6 B6 (λ_ _ _ h=>h) (AF ⟨rfl,λV9 d=>keq⟩) ⟨z.h,z.c⟩ ?_;refine EN (i:=1) (v:=Ag #[A8 b,.func (.func f) #[] #[]]) rfl B6 B6 B6 (λ_ _ _ h=>h) (AF ⟨rfl,λV9 d=>keq⟩) ⟨z.h,z.c⟩ ?_;refine EN (i:=2) (v:=Ag #[C Y so,C Y w,C .u64 ar]) Z B6 B6 B6 (λ_ _ _ h=>h) (AF ⟨Z,λV9 d=>(by have c0:=Cc d.2 0;have c1:=Cc d.2 1;have c2:=Cc d.2 2;go_simp)⟩) ⟨z.h,z.c⟩ ?_;have a3:=cA _ z.e;clear cA k k0 k1 m0 m1 m2;refine CH 3 λn a=>?_;go_simp;apply a3.mono;clear a3;rintro e w5 ⟨ap,ab⟩;rcases ha:CZ s.e s.d w (s.a+1) ar with er|xq
   .rw[ha]at j ab;simp only[]at j;subst j;obtain⟨en,pl⟩:=er;obtain⟨hF,pz,aw⟩:=(show D4 en pl e/\∃p,Ck w5 b {s with a:=p}from ab)
    obtain rfl:=hF;exact⟨Z,.of1<|z.ai.trans ap,Z,pz,aw⟩
   obtain⟨x,q⟩:=xq;rw[ha]at j ab;simp only[]at j;have bo:=ak.out x q ha;obtain⟨rfl,a8⟩:=(show e=Ak (.int _ x)/\Ck w5 b {s with a:=q}from ab)
   have L:=T<|z.aq a8 ap;simp only[];refine a.out _ _ ⟨L.h,L.c⟩ λ_=>?_;clear a;have a6:=cX w5 q x L.e L.ai bo;clear cX ak ha ab ap a8 z;refine CH 4 λn a=>?_;go_simp;apply a6.mono;clear a6;rintro e w6 ⟨aq,ac⟩;rcases hz:Ds s.e s.d x q [] 0 with er|lr
   .rw[hz]at j ac;simp only[]at j;subst j;obtain⟨en,pl⟩:=er;obtain⟨hF,pz,aw⟩:=(show D4 en pl e/\∃p,Ck w6 b {s with a:=p}from ac)
    obtain rfl:=hF;exact⟨Z,.of1<|L.ai.trans aq,Z,pz,aw⟩
   obtain⟨bg,ay⟩:=lr;rw[hz]at j ac;simp only[]at j;have be:=TF _ _ _ _ _ _ hz;simp only[J2,Gg]at be;obtain⟨rfl,av⟩:=(show e=Ak (.string _)/\Ck w6 b {s with a:=ay}from ac)
   have u:=T<|L.aq av aq;have a0:D<|K bg<=1000000000:=by show _<=_;have h1:ay<=K s.e:=av.a;omega
   simp only[];refine a.out _ _ ⟨u.h,u.c⟩ λ_=>?_;clear a hz be ac aq av L;refine CH 5 λn a=>?_;go_simp;refine a.out _ _ ⟨u.h,u.c⟩ λ_=>?_;clear a;refine CK ?_;have k0:=Cc u.h 0;by_cases g:bg∈ks
   .rw[Cp g]at j;subst j;have cK:=di (az w6 u.ai) g a0;clear g
    go_wp2_with(first
     |(go_at_call 294;apply cK.mono;clear cK k0;rintro e w7 ⟨rfl,Q⟩;have ag:=T<|u.aq (u.e.ac Q)<|Ci.of_below Q;clear u Q;have k0:=Cc ag.h 0;have a5:=ah w7 ay ag.e;clear ah)
     |(go_at_call 271;apply a5.mono;clear a5;rintro e w8 ⟨hF,rfl⟩;obtain rfl:=hF))
    exact⟨Z,.of1 ag.ai,Z,_,ag.e⟩
   rw[Cl g]at j;subst j;have cK:=dj (az w6 u.ai) g bm a0;clear g ah
   go_wp2_with(first
    |(go_at_call 294;apply cK.mono;clear cK k0;rintro e w7 ⟨rfl,bl,Q⟩))
   go_ret;exact⟨(Ig.of1 u.ai).trans<|Ig.of2 Q,Z,bh _ _ _ u.e Q,bl⟩
  have e8:((so:J)==8)=AQ:=B7;have bj:((so:J) != 8)=AP:=B7;rw[Cl l]at j;subst j;have a4:=am V k.e;clear l am cA cX ah ak
  go_wp2_with(first
   |(go_at_call 271;apply a4.mono;clear a4;rintro e w7 ⟨hF,rfl⟩;obtain rfl:=hF))
  exact⟨Z,.of1 k.ai,Z,_,k.e⟩
def dx(r:J)(h:Ck W b s)(q:∀V,Ck V b s->Ar As 270 #[A8 b] V λe k=>D4 r s.a e/\A0 V k):Ar As 309 #[Ag #[A8 b,.func (.func f) #[] #[]],.map<|H m] W λe k=>Ci b W k/\D4 r s.a e/\∃p,Ck k b {s with a:=p}:=by
 have j:=T h;have t:Below _ W (Az W<|M #[A8 b,.func (.func f) #[] #[]] 218).drew:=(Cm).drew;have c:=T t;have u:D<|(Az W _).drew.heap[O<|U W]?=H (M #[A8 b,.func (.func f) #[] #[]] 218):=Cj W;clear h t;go_enter func309,ntmps309
 go_wp2_with fail
 apply Ei (S:=λV=>A7 V (O<|U W) #[A8 b,.func (.func f) #[] #[]] 218) B6;have a:=AE u;refine EN (i:=0) (v:=A9 (O<|U W) 1) rfl B6 B6 B6 (λ_ _ _ h=>h) (AF ⟨rfl,λV g=>rfl⟩) a <| EN (i:=1) (v:=.func (.func f) #[] #[]) rfl B6 B6 B6 (λ_ _ _ h=>h) (AF ⟨rfl,λV g=>(by have w:=Cc g 1;go_simp)⟩) a ?_;refine EN (i:=2) (v:=A8<|O<|U W) Z B6 B6 B6 (λ_ _ _ h=>h) (AF ⟨Z,λV g=>rfl⟩) a <| EN (i:=3) (v:=A8 b) Z B6 B6 B6 (λ_ _ _ h=>h) (AF ⟨Z,λV g=>(by have w:=Cc g 0;go_simp)⟩) a ?_;refine Hk 4 6 (λo l=>?_) λo l=>?_
 .go_simp;apply (q _<|j.ac c).mono;rintro e y ⟨hF,d⟩;obtain rfl:=hF;exact⟨Z,(Ci.of_below c).trans<|Ci.of_below d,Z,_,(j.ac c).ac d⟩
 go_simp;have x:((Az W _).drew.alloc<|M #[C Y 0,C Y 0,C .u64 0] 275).heap[O<|U W]?=_:=(CB _ _ _<|Cd a).trans a;have n:Below _ W<|(Az W _).drew.alloc<|M #[C Y 0,C Y 0,C .u64 0] 275:=c.alloc c.size _;refine l.out _ _ x λ_=>?_;clear l;refine CH 4 λo l=>?_;go_simp;apply (q _<|j.ac n).mono;rintro e y ⟨hF,d⟩;obtain rfl:=hF;exact⟨Z,(Ci.of_below n).trans<|Ci.of_below d,Z,_,(j.ac n).ac d⟩
structure NO(f:AH)(hd:AH->AH×AH×AH)(b:AH)(W:Ap):Prop where
 fn:f=111\/f=112
 so:∀c,c<256->(hd c).1<=10
 a:∀c,c<256->(hd c).2.1<=8/\((hd c).2.1=0\/(hd c).2.2=0)/\(hd c).2.2<18446744073709551616
 call:∀(c:AU) (V:Ap),Ci b W V->Ar As f #[Ab Am c.toNat] V λe V'=>e=Ak (Ag #[Ab Al (hd c.toNat).1,Ab Al (hd c.toNat).2.1,Ab .u64 (hd c.toNat).2.2])/\A0 V V'
def NO.ai(h:NO f hd b W)(d:Ci b W V):NO f hd b V:=⟨h.fn,h.so,h.a,λc a e=>h.call c a<|d.trans e⟩
def rl(h:Ck W b s)(p:F5 W m ks)(t:m≠b)(o:∀g off,s.e≠[]->s.f=H ⟨g,off,Ao⟩->g≠m)(q:K ks<1000000000)(r:K s.e<=200000000)(n:∀V,Ci b W V->U8 V)(l:7<b)(d:NO f hd b W):Ar As 309 #[Ag #[A8 b,.func (.func f) #[] #[]],.map<|H m] W<|dw W b m s ks<|El hd s.e s.d ks s.a:=by
 rcases JD h with a|a|⟨c,a⟩
 .have e:El hd s.e s.d ks s.a=.error (9,s.a):=by unfold El;rw[I7 (by have:s.a=K s.e:=a;omega)]
  rw[e];apply (dx 9 h λV k=>KB k a).mono;rintro e w ⟨a,i,j⟩;exact⟨.of1 a,i,j⟩
 .have e:El hd s.e s.d ks s.a=.error (8,s.a):=by unfold El;rw[D7 a.1];simp only[];rw[Cp a.2]
  rw[e];apply (dx 8 h λV k=>KC k a).mono;rintro e w ⟨a,i,j⟩;exact⟨.of1 a,i,j⟩
 exact rk hd h a p t o q Z (d.a _ c.toNat_lt).1 (d.a _ c.toNat_lt).2.1 (d.a _ c.toNat_lt).2.2 r d.fn n l<|d.call c
def JJ(k:AH)(V:Ap)(F:AH->Prop)(xs:AJ Aq)(es:AJ<|Lit×AM Unit):Prop :=
 ∀(i:AH) (key:Lit) (d:A2),es[i]?=An (key,d)->∃l x,key=.string l/\xs[2*i]?=An (Ae ⟨Aw l⟩)/\xs[2*i+1]?=An x/\CA k V F x d
theorem JJ.same{G:I->Prop}(h:JJ k V F xs es)(f:∀k,F k->G k)(j:∀k,F k->V'.heap[k]?=V.heap[k]?):JJ k V' G xs es:=λi key d g=>by obtain⟨l,x,a,b,c,e⟩:=h i key d g;exact⟨l,x,a,b,c,e.same f j⟩
def Ci.ac{A C:X}(h:Ci b A B)(k:Ig b m B C)(d:O (U A)<=m:=by omega):Ci b A C :=
 ⟨Ca k.os h.os,Ca k.tape h.tape,Ca k.output h.output,CE h.size k.size,λi c a=>Ca (k.block i Bn a E)<|h.block i c a⟩
structure Lp(k:AH)(W:Ap)(b:AH)(fv:Aq)(s:Cw)(p:AH)(v:Aq)(es:AJ (Lit×AM Unit))(ks:AJ A1)(V:Ap):Prop where
 e:Ck V b {s with a:=p}
 ai:Ci b W V
 h:V.heap[Au (Av W)]?=An (Aj #[A8 b,fv] 218)
 q:F5 V (Au (Av W)+1) ks
 a0:∃xs,V.ownsRow (Au (Av W)+2) 225 2 v (At es) xs/\JJ k V (λj=>Au (Av W)+2<=j/\j<Au (Av V)/\An j≠Ax v) xs es
 size:Au (Av W)+2<=Au (Av V)
def dz(h:W.ownsRow base t size v n xs)(k:Ig b m W W')(p:b<base)(o:m<base):W'.ownsRow base t size v n xs:=by
 obtain⟨i,a⟩:=h;refine⟨i,?_⟩;rcases a with a|⟨g,d,f,e,l,c,j⟩
 .exact AF a
 exact AG ⟨g,d,f,e,l,Ca (k.block g (Cd c) E E) c,j⟩
def Lp.aq{ks':AJ A1}(h:Lp k W b fv s p v es ks V)(hb:b<O (U W))(g:Ck V' b {s with a:=q})(a:Ig b (O (U W)+1) V V')(f:F5 V' (O (U W)+1) ks'):Lp k W b fv s q v es ks' V':=by obtain⟨i,d,e⟩:=h.a0;refine⟨g,h.ai.ac a,Ca (a.block _ (Cd h.h) E E) h.h,f,⟨i,dz d a E E,?_⟩,CE h.size a.size⟩;exact e.same (λj c=>⟨c.1,CQ c.2.1 a.size,c.2.2⟩) λj c=>a.block j c.2.1 E E
theorem Lp.push{l:A1}(h:Lp k W b fv s p v es ks V)(B:Ck W b s)(u:V.ownsRow (O (U W)+2) 225 2 v (K es) xs)(hx:JJ k V (λj=>O (U W)+2<=j/\j<O (U V)/\H j≠Ax v) xs es)(N:CA k V (λj=>O (U V0)<=j/\j<O (U V)) x d)(ad:∀g,Ax v=H g->g<O (U V0))(aa:O (U W)+2<=O (U V0))(R:w5.ownsRow (O (U W)+2) 225 2 v' (K es+1)<|xs++[Ae ⟨Aw l⟩,x])(f:(Az V<|M #[Ae ⟨Aw l⟩,x] 225).grownBy w5<|Ax v)(o:Ax v'=Ax v\/Ax v'=H (O<|U<|Az V<|M #[Ae ⟨Aw l⟩,x] 225)):Lp k W b fv s p v' (es++[(.string l,d)]) ks w5:=by
 have ac:=h.size;have ab:O (U V)+1<=O (U w5):=kfc;have key:∀g,Ax v=H g->O (U W)+2<=g:=λg f=>DK u f;have q:=λj a n=>Ca (f.block j B7 n)<|CB _ _ _ a;have r:∀j,j<O (U W)+2->w5.heap[j]?=V.heap[j]?:=λj a=>q j E λe=>B9;have Q:F5 w5 (O (U W)+1) ks:=by have L:Ci (O (U W)+2) V<|Az V<|M #[Ae ⟨Aw l⟩,x] 225:=Ci.of_below Cm;have F:=h.q.ai E L;exact F.kept f λe=>B9
 refine⟨B.same Z Z h.e λj a=>r j E,⟨Ca f.os h.ai.os,Ca f.tape h.ai.tape,Ca f.output h.ai.output,E,λj a n=>Ca (r j E)<|h.ai.block j a n⟩,Ca (r _ E) h.h,Q,⟨_,by rw[Dj];exact R,λi y c m=>?_⟩,E⟩;have t:∀j,j<O (U V)->H j≠Ax v->H j≠Ax v':=λj a n=>by
  rcases o with o|o
  .rw[o];exact n
  rw[o];intro e;injection e with e;simp at e;omega
 have ae:=u.1;by_cases P:i<K es
 .rw[Hh P]at m;obtain⟨S,x',z,e2,e3,A⟩:=hx i y c m;refine⟨S,x',z,B9,B9,?_⟩;exact A.same (λj a=>⟨a.1,AY a.2.1,t j a.2.1 a.2.2⟩) λj a=>q j a.2.1 a.2.2
 have e:i=K es:=B9;subst e;rw[Jd E]at m;simp at m;obtain⟨rfl,rfl⟩:=m;have w:∀j,O (U V0)<=j->H j≠Ax v:=λj a e=>B9;refine⟨l,x,Z,?_,?_,N.same (λj a=>⟨E,E,t j a.2<|w j a.1⟩) λj a=>q j a.2<|w j a.1⟩<;>grind
def Lp.ad(h:Lp k W b fv s p v es ks V):CA (k+1) V (λj=>O (U W)<=j/\j<O (U V)) (Ai 223 v)<|.map es:=by
 obtain⟨o,a,i⟩:=h.a0;unfold CA;refine⟨v,o,Z,⟨a.1,?_⟩,i.same (λj n=>⟨E,n.2.1⟩) λ_ _=>rfl⟩;rcases a.2 with l|⟨g,d,f,e,q,c,m⟩
 .exact AF l
 exact AG ⟨g,d,f,e,⟨E,(Cd c)⟩,c,m⟩
def Tryz.infoEntry:(prog.info? 225).map (λi=>(i.zero,i.size,i.bytes))=H (H<|Ag #[.string ByteArray.empty,.nilIface],2,32):=B6
theorem WY(bs:A1)(lim:J):∀(k p a x q:I),CZ bs lim k p a=.ok (x,q)->q=p+k
 |0,p,a,x,q,h=>kfu
 |k+1,p,a,x,q,h=>by
  rw[CZ]at h;split at h
  .cases h
  split at h
  .cases h
  have:=WY bs lim k _ _ x q h;omega
def dA{l:A1}(h:El hd bs lim ks p=.ok (l,q)):p<q:=by
 unfold El at h;split at h
 .cases h
 split at h
 .cases h
 split at h
 .split at h
  .cases h
  next x q' ha =>
  split at h
  .cases h
  next l' r hb =>
  split at h
  .cases h
  injection h with h;injection h with h1 h2;have:=WY _ _ _ _ _ _ _ ha;have:=TF _ _ _ _ _ _ hb;omega
 cases h
theorem ro(h:Ck W b s):Lp k W b fv s s.a (G Ao 0 0) [] []<|Az (Az W<|M #[A8 b,fv] 218)<|.map #[] 0:=by have a:Below _ W<|Az (Az W<|M #[A8 b,fv] 218)<|.map #[] 0:=(Cm).alloc Ba _;refine⟨h.ac a,Ci.of_below a,Ca (CB _ _ _ Ba)<|Cj W,⟨.map [],?_,λl=>kfC⟩,⟨[],Fi _ _ _ _,λi key d c=>kf2⟩,Ba⟩;grind [World.ownsMap_made,World.size_alloc]
theorem rp(hn:n<18446744073709551616)(h:Ck W b s)(a6:K s.e<=200000000)(hU:∀V,Ci b W V->U8 V)(a1:7<b)(cH:NO f hd b W)(ak:WW k f b s W rd)(ai:∀p d q,rd p=.ok (d,q)->p<q):Ar As 307 #[Ag #[A8 b,.func (.func f) #[] #[]],C .u64 n] W<|Rw W b s (λV ao x=>(∃a n c,ao=G a n c)/\CA (k+1) V (λal=>O (U W)<=al/\al<O (U V)) (Ai 223 ao) (.map x))<|GK (El hd s.e s.d) rd n s.a [] []:=by
 obtain⟨i0,hi,bb,bc,bd⟩:=DL Tryz.infoEntry;have a7:∀V:X,(Instr.makeMap 399 Ao).run As V=.ok (.map<|H<|O<|U V) (Az V<|.map #[] 0):=λV=>B6;have ax:D<|Lp k W b _ s _ _ [] []<|Az (Az W<|M #[.pointer _,.func (.func f) #[] #[]] _) _:=ro h;have ab:=Cd h.ad;have ae:D (∀g off,s.e≠[]->s.f=H ⟨g,off,Ao⟩->g≠O (U W)+1):=λg off bj e=>by have hl:0<K s.e:=B9;obtain⟨g',bm,N,_,e3⟩:=h.c 0 hl;rw[e]at N;injection N with N;injection N with N;have:g'<O (U W):=Fk e3;omega
 have v:=λV p ks hV B hk hl=>rl (W:=V) (s:={s with a:=p}) (ks:=ks) hV hk E ae hl a6 (λa0 a2=>hU a0<|B.trans a2) a1<|cH.ai B;have av:=T h;have af:=T ak;have ar:=T ai;have bi:=h.a;obtain⟨ag,F⟩:=CC<|GK (El hd s.e s.d) rd n s.a [] [];rw[AE F];clear h ak ai cH hU ae;go_enter func307,ntmps307;go_wp2;generalize Az (Az W<|M #[A8 b,.func (.func f) #[] #[]] 218) (.map #[] 0)=W0 at *;clear a7
 go_loopg[5,10] n (λg y be wr=>∃(m p:I) (a:A4) (ad c:I) (x:AJ<|Lit×AM Unit) (ks:AJ A1),y=G a ad c/\be=C .u64 m/\D (m+g=n)/\D (p<=K s.e)/\D (K x<=p/\K ks<=p)/\D (Lp k W b (.func (.func f) #[] #[]) s p (G a ad c) x ks wr)/\D (GK (El hd s.e s.d) rd g p ks x=ag))
 grind [D];clear ax F;obtain⟨m,p,a,ad,c0,x,ks,rfl,rfl,hg,hp,ha,w,F⟩:=hrel;have kb:=Cc w.h 0;have am:=Cc w.h 1;obtain _|g:=gk
 .have hk:m=n:=AY<|AE hg;subst hk;have P:D<|ag=.ok _:=F.symm;clear F hg v;go_wp2;go_ret;rw[AE P];exact⟨w.ai,⟨_,Z,⟨_,_,_,Z⟩,w.ad⟩,w.e⟩
 have bh:m<n:=AY<|AE hg;have N:AR (m<(n:J))=AP:=B7;have a5:K ks<1000000000:=by grind [D]
 have L:=v wr p ks w.e w.ai w.q a5;have o:=AE F;rw[GK]at o;clear F v;rcases hq:El hd s.e s.d ks p with er|lq
 .rw[hq]at o L;simp only[]at o;obtain⟨R,pl⟩:=er;have P:=T o.symm;clear o hq
  go_wp2_with(first
   |(go_at_call 309;apply L.mono;clear L;rintro e A ⟨B,hF⟩;obtain⟨hF,pz,ac⟩:=(show D4 R pl e/\∃p,Ck A b {s with a:=p}from hF);obtain rfl:=hF))
  rw[AE P];exact⟨Z,w.ai.ac B,Z,pz,ac⟩
 obtain⟨key,q⟩:=lq;rw[hq]at o L;simp only[]at o;have bk:=dA hq;clear hq;rcases hq2:rd q with er|dr
 .rw[hq2]at o;simp only[]at o;obtain⟨R,pl⟩:=er;have P:=T o.symm;have j:=T hq2;clear o hq2
  go_wp2_with(first
   |(go_at_call 309;apply L.mono;rintro e A ⟨B,hF⟩;obtain⟨rfl,aa,l⟩:=(show e=Ak _/\Ck A b {s with a:=q}/\F5 A _ _ from hF);have i:=T<|w.aq ab aa B l;have kb:=Cc i.h 0;have am:=Cc i.h 1;have Q:=af.out A q i.e i.ai;rw[AE j]at Q)
   |(go_at_call 301;apply Q.mono;rintro e z ⟨u,S⟩;obtain⟨S,pz,ac⟩:=(show D4 R pl e/\∃p,Ck z b {s with a:=p}from S);obtain rfl:=S))
  rw[AE P];exact⟨Z,i.ai.trans u,Z,pz,ac⟩
 obtain⟨d,r⟩:=dr;rw[hq2]at o;simp only[]at o;have j:=T hq2;have bl:=ar.out q d r hq2;have HN:=T o;have bg:K x<=200000000:=by grind [D]
 have aq:D<|K x+1<=r/\K ks+1<=r:=⟨AY ha.out.1,AY ha.out.2⟩
 go_wp2_with(first
  |(go_at_call 309;apply L.mono;rintro e A ⟨B,hF⟩;obtain⟨rfl,aa,l⟩:=(show e=Ak _/\Ck A b {s with a:=q}/\F5 A _ _ from hF);have i:=T<|w.aq ab aa B l;have kb:=Cc i.h 0;have am:=Cc i.h 1;have Q:=af.out A q i.e i.ai;rw[AE j]at Q;have aw:=T i.size;have au:D _:=by{obtain⟨xs,h1,_⟩:=i.a0;exact Qe h1})
  |(go_at_call 301;apply Q.mono;rintro e z ⟨u,S⟩;obtain⟨⟨an,y,rfl,a3⟩,ah⟩:=(show(∃an y,e=Ak _/\CA k z _ _ d)/\Ck z b {s with a:=r}from S);have t:=T<|i.aq ab ah (.of1 u)<|i.q.ai E u;have HD:=T a3;have HQ:=T ah.a;obtain⟨xs,a8,ba⟩:=t.a0;have HO:=T a8;have az:=T ba;have ap:=T t.size)
  |(at_builtin;refine JH Z Z underlying223 hi bb bc bd Z B8 Z (HO.alloc _) 1 1 (news:=[.string _,Ai an y]) Z Z (EU) (λbn hu=>BJ) B8 Bc E (B1<|AE ap) ?_;intro v' w5 aj a4 a9;have ay:=T<|t.push av HO az HD au aw aj a4 a9;obtain⟨g5,bf,rfl⟩:=ownsRow_succ aj))
 go_roundg g;exact⟨m+1,r,_,_,_,x++[(.string key,d)],key::ks,Z,Bb,B9,HQ,⟨by grind [D],aq.2⟩,ay,HN⟩;omega
theorem dB:∀(n p:I) (a l:A1) (r:I),EV bs lim n p a=.ok (l,r)->r=p+n
 |0,p,a,l,r,h=>by grind [EV]
 |n+1,p,a,l,r,h=>by
  rw[EV]at h;split at h
  .cases h
  split at h
  .cases h
  have:=dB n _ _ l r h;omega
theorem dC(a:∀p d q,rd p=.ok (d,q)->p<q):∀(n p:I) (acc ds:AJ<|AM Unit) (r:I),GY rd n p acc=.ok (ds,r)->p<=r
 |0,p,acc,ds,r,h=>by grind [GY]
 |n+1,p,acc,ds,r,h=>by
  rw[GY]at h;split at h
  .cases h
  next d q hq =>
  have b:=a _ _ _ hq;have c:=dC a n q _ ds r h;omega
theorem dD{kf:AJ A1->I->A5 A1}(b:∀a p l q,kf a p=.ok (l,q)->p<q)(c:∀p d q,rd p=.ok (d,q)->p<q):∀(n p:I) (a:AJ A1) (acc es:AJ<|Lit×AM Unit) (r:I),GK kf rd n p a acc=.ok (es,r)->p<=r
 |0,p,a,acc,es,r,h=>by grind [GK]
 |n+1,p,a,acc,es,r,h=>by
  rw[GK]at h;split at h
  .cases h
  next l q hq =>
  split at h
  .cases h
  next d r' hr =>
  have e:=b _ _ _ _ hq;have f:=c _ _ _ hr;have g:=dD b c n r' _ _ es r h;omega
theorem rq{li:I->I->AS (J×J) (AJ (AM Unit)×I)}{ma:I->I->AS (J×J) (AJ (Lit×AM Unit)×I)}{w x:I}{r:I}(c:∀x q a r,li x q=.ok (a,r)->q<=r)(e:∀x q b r,ma x q=.ok (b,r)->q<=r)(h:Gn bs lim li ma so w x q=.ok (d,r)):q<=r:=by
 unfold Gn at h;split at h
 .grind
 .grind
 .grind
 .grind
 .grind
 .grind [dB]
 .split at h
  .cases h
  next l r' hl =>
  injection h with h;injection h with h1 h2;have:=TF _ _ _ _ _ _ hl;omega
 .grind
 .grind
 grind
theorem Qf(e:I->I×I×I)(bs:A1)(lim depth:J):∀(g b p:I) (d:A2) (q:I),DR e bs lim depth g b p=.ok (d,q)->p<q
 |0,_,_,_,_,h=>by rw[DR]at h;cases h
 |g+1,b,p,d,q,h=>by
  have f:=Qf e bs lim depth g<|b+1;rcases hc:bs[p]? with _|c
  .grind [DR]
  by_cases m:(p:J)=lim
  .grind [DR]
  rw[TD hc m rfl]at h;split at h
  .cases h
  split at h
  .cases h
  split at h
  .cases h
  next x q' ha =>
  have n:=WY _ _ _ _ _ _ _ ha;have o:=rq (λx q i r a=>dC f x q [] i r a) (λx q j r a=>dD (λs p l q k=>dA k) f x q [] [] j r a) h;omega
theorem RF(d:I->I×I×I)(f:I):∀(g:I) (W:X) (b:I) (s:Cw),Ck W b s->K s.e<=200000000->(∀V,Ci b W V->U8 V)->7<b->NO f d b W->s.b<=100000->(s.c:J)<=s.b->s.b<s.c+g ->
  Ar As 301 #[Ag #[A8 b,.func (.func f) #[] #[]]] W (RD g W b s<|DR d s.e s.d s.b g s.c s.a)
 |0,W,b,s,_,_,_,_,_,_,a,h2=>E
 |g+1,W,b,s,h,hlen,hU,h7,cH,hdp,hwd,hgd=>by
  have r:¬s.c=s.b->∀V,Ci b W V->WW g f b {s with c:=s.c+1} V (DR d s.e s.d s.b g<|s.c+1):=λl V j t p k i =>
   RF d f g t b _ k hlen (λm o=>hU m<|(j.trans i).trans o) h7 (cH.ai<|j.trans i) hdp B9 B9
  rcases JD h with a|a|⟨c,a⟩
  .have e:DR d s.e s.d s.b (g+1) s.c s.a=.error (9,s.a):=by unfold DR;rw[I7 (by have:s.a=K s.e:=a;omega)]
   rw[e];exact dt 9 h λV j=>KB j a
  .have e:DR d s.e s.d s.b (g+1) s.c s.a=.error (8,s.a):=by unfold DR;rw[D7 a.1];simp only[];rw[Cp a.2]
   rw[e];exact dt 8 h λV j=>KC j a
  exact rj d h a Z (cH.so _ c.toNat_lt) (cH.a _ c.toNat_lt).1 (cH.a _ c.toNat_lt).2.1 (cH.a _ c.toNat_lt).2.2 hlen E cH.fn hU h7 (cH.call c)
   (λl V p n k i q=>qV q k hlen (r l V i)<|Qf d _ _ _ g _)
   (λl V p n k i q=>rp q k hlen (λm o=>hU m<|i.trans o) h7 (cH.ai i) (r l V i)<|Qf d _ _ _ g _)
def FU{α:Type}(bs:A1)(lim:AI)(itF:α->AH->A5 α)(last:AH):AH->AH->α->A5 α
 |0,p,_=>.error (9,p)
 |g+1,p,acc=>match DW bs lim (At bs+1-p) p with
  |.error e=>.error e
  |.ok (_,p1)=>match itF acc p1 with
   |.error e=>.error e
   |.ok (acc',p2)=>match DW bs lim (At bs+1-p2) p2 with
    |.error e=>.error e
    |.ok (_,p3)=>match bs[p3]? with
     |none=>.error (9,p3)
     |some c=>if(p3:AI)=lim then .error (8,p3)else if c.toNat=last then .ok (acc',p3+1)else if c.toNat=44 then FU bs lim itF last g (p3+1) acc' else .error (9,p3)
def Gp{α:Type}(bs:A1)(lim:AI)(itF:α->AH->A5 α)(last p:AH)(acc:α):A5 α :=
 match DW bs lim (At bs+1-p) p with
 |.error e=>.error e
 |.ok (_,p1)=>match bs[p1]? with
  |none=>FU bs lim itF last (At bs+1-p1) p1 acc
  |some c=>if(p1:AI)=lim then .error (8,p1)else if c.toNat=last then .ok (acc,p1+1)else FU bs lim itF last (At bs+1-p1) p1 acc
def G7(rd:AH->AS (AI×AI) (AM Unit×AH))(ds:AJ<|AM Unit)(p:AH):AS (AI×AI) (AJ (AM Unit)×AH) :=
 match rd p with
 |.error e=>.error e
 |.ok (d,q)=>.ok (ds++[d],q)
def Jk(bs:A1)(lim:AI)(ks:AJ A1)(p:AH):A5 A1 :=
 match Dt bs lim [34] p with
 |.error e=>.error e
 |.ok (_,q)=>match DA bs lim (At bs+1-q) q [] 0 with
  |.error e=>.error e
  |.ok (l,r)=>if l∈ks then .error (12,(r:AI)-1)else .ok (l,r)
def FF(bs:A1)(lim:AI)(rd:AH->AS (AI×AI) (AM Unit×AH))(a:AJ A1×AJ (Lit×AM Unit))(p:AH):AS (AI×AI) ((AJ A1×AJ (Lit×AM Unit))×AH) :=
 match Jk bs lim a.1 p with
 |.error e=>.error e
 |.ok (l,p1)=>match DW bs lim (At bs+1-p1) p1 with
  |.error e=>.error e
  |.ok (_,p2)=>match Dt bs lim [58] p2 with
   |.error e=>.error e
   |.ok (_,p3)=>match DW bs lim (At bs+1-p3) p3 with
    |.error e=>.error e
    |.ok (_,p4)=>match rd p4 with
     |.error e=>.error e
     |.ok (d,p5)=>.ok ((l::a.1,a.2++[(.string l,d)]),p5)
def Kg(bs:A1)(lim depth:AI)(wi:AH)(rd:AH->AS (AI×AI) (AM Unit×AH))(nm:AU->AH->A5 AI)(c:AU)(p:AH):AS (AI×AI) (AM Unit×AH) :=
 if c.toNat=110 then match Dt bs lim [117,108,108] p with
  |.error e=>.error e
  |.ok (_,q)=>.ok (.nil,q)
 else if c.toNat=116 then match Dt bs lim [114,117,101] p with
  |.error e=>.error e
  |.ok (_,q)=>.ok (.lit<|.bool AP,q)
 else if c.toNat=102 then match Dt bs lim [97,108,115,101] p with
  |.error e=>.error e
  |.ok (_,q)=>.ok (.lit<|.bool AQ,q)
 else if c.toNat=34 then match DA bs lim (At bs+1-p) p [] 0 with
  |.error e=>.error e
  |.ok (l,q)=>.ok (.lit<|.string l,q)
 else if c.toNat=91 then(if(wi:AI)=depth then .error (11,(p:AI)-1)else match Gp bs lim (G7 rd) 93 p []with
  |.error e=>.error e
  |.ok (ds,q)=>.ok (.agg ds,q))
 else if c.toNat=123 then(if(wi:AI)=depth then .error (11,(p:AI)-1)else match Gp bs lim (FF bs lim rd) 125 p ([],[])with
  |.error e=>.error e
  |.ok (es,q)=>.ok (.map es.2,q))
 else if c.toNat=45\/Ey c=AP then match nm c p with
  |.error e=>.error e
  |.ok (z,q)=>.ok (.lit<|.int Al z,q)
 else .error (9,(p:AI)-1)
def Fw(bs:A1)(lim depth:AI)(nm:AU->AH->A5 AI):AH->AH->AH->AS (AI×AI) (AM Unit×AH)
 |0,_,_=>.error (0,0)
 |g+1,wi,p=>match bs[p]? with
  |none=>.error (9,p)
  |some c=>if(p:AI)=lim then .error (8,p)else Kg bs lim depth wi (Fw bs lim depth nm g<|wi+1) nm c (p+1)
def NP(k:AH)(W:Ap)(b:AH)(s:Cw)(r:AS (AI×AI)<|AM Unit×AH)(e:Ending)(W':Ap):Prop :=
 Ci b W W'/\match r with
 |.ok (d,p)=>(∃t y,e=Ak (Ai t y)/\CA k W' (λj=>Au (Av W)<=j/\j<Au (Av W')) (Ai t y) d)/\Ck W' b {s with a:=p}
 |.error (en,pl)=>D4 en pl e
def Qg(k b:AH)(s:Cw)(W0:Ap)(rd:AH->AS (AI×AI) (AM Unit×AH)):Prop :=
 ∀(V:Ap) (p:AH),Ck V b {s with a:=p}->Ci b W0 V->Ar As 272 #[Ag #[A8 b]] V (NP k V b {s with a:=p}<|rd p)
def TG{α:Type}(St:AH->α->Ap->Prop)(Fr:Ap->Prop)(r:A5 α)(e:Ending)(V:Ap):Prop :=
 match r with
 |.ok (a,q)=>e=Ak (Af #[])/\St q a V
 |.error (en,pl)=>D4 en pl e/\Fr V
structure WZ{α:Type}(b:AH)(s:Cw)(St:AH->AH->AH->α->Ap->Prop)(Fr:Ap->Prop):Prop where
 e:∀N wi p a V,St N wi p a V->Ck V b {s with a:=p,c:=wi}
 aq:∀N wi p a V wi' q V',St N wi p a V->Ck V' b {s with a:=q,c:=wi' }->Ci b V V'->p<=q->St N wi' q a V'
 h:∀N wi p a V,St N wi p a V->V.heap[N]?=An (Aj #[A8 b] 215)
 fr:∀N wi p a V,St N wi p a V->Fr V
 c:∀V V',Fr V->Ci b V V'->Fr V'
theorem Lq:∀(g p:I) (u:Unit) (q:I),DW bs lim g p=.ok (u,q)->p<=q
 |0,p,u,q,h=>by grind [DW]
 |g+1,p,u,q,h=>by
  rw[DW]at h;split at h
  .grind
  split at h
  .cases h
  split at h
  .have:=Lq g _ u q h;omega
  grind
theorem dE{α:Type}(last:I)(ae:FuncId)(cp:A3)(ax:∀(an:A3) (V:X),(callFunc ae an).run As V=.ok (.enter ae an) V){itF:α->I->A5 α}(acc:α){St:I->I->I->α->X->Prop}{Fr:X->Prop}(hI:WZ b s St Fr)(h:Ck W b s)(hd:¬(s.c:J)=s.b)(bg:s.c<=100000)(a7:St (O<|U W) s.c s.a acc<|Az W<|M #[A8 b] 215)(ay:∀am p a V,St am (s.c+1) p a V->Ar As ae cp V (TG (St am<|s.c+1) Fr<|itF a p))(a6:∀a p a' ai,itF a p=.ok (a',ai)->p<ai):Ar As 285 #[Ag #[A8 b],C Am last,.func (.func ae) #[] cp] W<|TG (λai a V=>St (O<|U W) s.c ai a V) Fr<|Gp s.e s.d itF last s.a acc:=by
 have az:=T ax;clear ax;have HS:=T a7;have f:=T hI;have a0:=T a6;have cE:=dk (W:=(Az W<|M #[A8 b] 215)) (h.ac Cm) hd E;have o:∀(V:X) (p:I),Ck V b {s with a:=p,c:=s.c+1}->Ar _ _ _ V λe u=>e=Ak _/\Ck u b {s with a:=p}/\Ci b V u:=λV p j=>qS j Z B9;obtain⟨ad,S⟩:=CC<|Gp s.e s.d itF last s.a acc;rw[AE S];have d:=AE S;unfold Gp at d;have m:=Cc (f.h _ _ _ _ _ HS) 0;go_enter func285,ntmps285;go_wp2;go_step3
 go_wp2_with fail
 apply cE.mono;rintro e w2 ⟨rfl,a5,a1⟩;have H2:=T<|f.aq _ _ _ _ _ _ _ _ HS a5 a1 E;have m:=Cc (f.h _ _ _ _ _ H2) 0
 go_wp2_with fail
 apply (Ro<|f.e _ _ _ _ _ H2).mono;rintro e w3 ⟨ao,af⟩;rcases h1:DW s.e s.d (K s.e+1-s.a) s.a with y|up
 .obtain⟨x,A⟩:=y;simp only[h1]at d af;subst d;obtain rfl:=(show D4 x A e from af)
  go_wp2;exact⟨Z,Z,f.c _ _ (f.fr _ _ _ _ _ H2) ao⟩
 obtain⟨bh,i⟩:=up;simp only[h1]at d af;have bc:=Lq _ _ _ _ h1;obtain⟨rfl,au⟩:=(show e=Ak _/\Ck w3 b _ from af)
 have v:=T<|f.aq _ _ _ _ _ _ _ _ H2 au ao E;have ba:D<|i<=K s.e:=au.a;have m:=Cc (f.h _ _ _ _ _ v) 0;have a8:(Rm {s with a:=i,c:=s.c+1}/\ad=.error (8,i))\/(∃c,JC {s with a:=i,c:=s.c+1} c/\c.toNat=last/\ad=.ok (acc,i+1))\/((Ar As 280 #[A8 b,C Am last] w3 λe u=>e=Ak (Ah AQ)/\Ck u b {s with a:=i,c:=s.c+1}/\Ci b w3 u)/\FU s.e s.d itF last (K s.e+1-i) i acc=ad):=by
  have j:=(f.e _ _ _ _ _ v)
  rcases h2:s.e[i]? with _|c
  .rw[h2]at d;refine AG<|AG ⟨WD last j ?_,d⟩;have t:i<=K s.e:=j.a;have N:=List.getElem?_eq_none_iff.1 h2;show i=K s.e;omega
  rw[h2]at d;simp only[]at d;have N:=Dk h2;by_cases k:(i:J)=s.d
  .rw[Cp k]at d;exact AF ⟨⟨N,k⟩,d.symm⟩
  rw[Cl k]at d;by_cases l:c.toNat=last
  .rw[Cp l]at d;exact AG<|AF ⟨c,⟨h2,k⟩,l,d.symm⟩
  rw[Cl l]at d;refine AG<|AG ⟨?_,d⟩;have:=Tl last j ⟨h2,k⟩;rwa[show((c.toNat:J)==last)=AQ by simp;omega]at this
 go_wp2_with fail
 rcases a8 with⟨a4,rfl⟩|⟨c,ar,hc,rfl⟩|⟨cF,d⟩
 .apply (bM (f.e _ _ _ _ _ v) a4).mono;rintro e w4 ⟨rfl,R⟩;go_wp2;exact⟨Z,Z,f.c _ _ (f.fr _ _ _ _ _ v)<|Ci.of_below R⟩
 .have cF:=Tl last (f.e _ _ _ _ _ v) ar;rw[show((c.toNat:J)==last)=AP by rw[hc];simp]at cF;apply cF.mono;rintro e w4 ⟨rfl,ak,R⟩;have n:=T<|f.aq _ _ _ _ _ _ _ _ v ak R E;have m:=Cc (f.h _ _ _ _ _ n) 0
  go_wp2_with fail
  apply (J4 (f.e _ _ _ _ _ n) ar).mono;rintro e w5 ⟨rfl,ag,aa⟩;have B:=T<|f.aq _ _ _ _ _ _ _ _ n (show Ck w5 b {s with a:=i+1,c:=s.c+1}from ag) aa E;have m:=Cc (f.h _ _ _ _ _ B) 0
  go_wp2_with fail
  apply (o w5 _<|f.e _ _ _ _ _ B).mono;rintro e w6 ⟨rfl,ah,a2⟩;have w:=T<|f.aq _ _ _ _ _ _ _ _ B ah a2 E;go_wp2;apply MG;go_end0;exact⟨Z,w⟩
 have S:=T d;apply cF.mono;rintro e w4 ⟨rfl,ak,R⟩;have n:=T<|f.aq _ _ _ _ _ _ _ _ v ak R E;go_wp2;go_step3;go_wp2
 go_loopg[21] (K s.e+1-i) (λg _ wr=>∃(p:I) (a:α),D (K s.e+1<=p+g)/\D (p<=K s.e)/\D (St (O<|U W) (s.c+1) p a wr)/\D (FU s.e s.d itF last g p a=ad))
 grind [D];obtain⟨p,a,hg,hp,n,S⟩:=hrel;obtain⟨g,rfl⟩:∃g,gk=g+1:=⟨gk-1,by grind [D]⟩
 have m:=Cc (f.h _ _ _ _ _ n) 0;have d:=AE S;rw[FU]at d
 go_wp2_with fail
 apply (Ro<|f.e _ _ _ _ _ n).mono;rintro e w5 ⟨aa,ab⟩;rcases h1:DW s.e s.d (K s.e+1-p) p with y|up
 .obtain⟨x,A⟩:=y;simp only[h1]at d ab;subst d;obtain rfl:=(show D4 x A e from ab)
  go_wp2;exact⟨Z,Z,f.c _ _ (f.fr _ _ _ _ _ n) aa⟩
 obtain⟨u1,q1⟩:=up;simp only[h1]at d ab;have bd:=Lq _ _ _ _ h1;clear h1;obtain⟨rfl,ag⟩:=(show e=Ak _/\Ck w5 b _ from ab)
 have B:=T<|f.aq _ _ _ _ _ _ _ _ n ag aa E;clear n ag aa ab
 go_wp2_with fail
 go_simp;rw[AE az];go_simp;apply (ay _ _ _ _ B).mono;clear ay;rintro e w6 z;rcases h2:itF a q1 with y|aq
 .obtain⟨x,A⟩:=y;rw[h2]at d z;simp only[]at d;subst d;clear h2 o;obtain⟨z,a3⟩:=(show D4 x A e/\Fr w6 from z)
  obtain rfl:=z;go_wp2;exact⟨Z,Z,a3⟩
 obtain⟨a',q2⟩:=aq;rw[h2]at d z;simp only[]at d;have be:=a0.out _ _ _ _ h2;clear h2;obtain⟨rfl,ah⟩:=(show e=Ak _/\St _ _ q2 a' w6 from z)
 have w:=T ah;clear B z ah;have m:=Cc (f.h _ _ _ _ _ w) 0
 go_wp2_with fail
 apply (Ro<|f.e _ _ _ _ _ w).mono;clear m;rintro e w7 ⟨aj,ac⟩;rcases k:DW s.e s.d (K s.e+1-q2) q2 with y|up
 .obtain⟨x,A⟩:=y;simp only[k]at d ac;subst d;clear k o;obtain rfl:=(show D4 x A e from ac)
  go_wp2;exact⟨Z,Z,f.c _ _ (f.fr _ _ _ _ _ w) aj⟩
 obtain⟨u3,r⟩:=up;simp only[k]at d ac;have bf:=Lq _ _ _ _ k;clear k;obtain⟨rfl,av⟩:=(show e=Ak _/\Ck w7 b _ from ac)
 have F:=T<|f.aq _ _ _ _ _ _ _ _ w av aj E;clear w av aj ac;have m:=Cc (f.h _ _ _ _ _ F) 0
 go_wp2_with fail
 have j:=(f.e _ _ _ _ _ F)
 rcases l:s.e[r]? with _|c
 .simp only[l]at d;subst d;apply (KB j (by show r=K s.e;have t:r<=K s.e:=j.a;grind)).mono;clear l o j;rintro e w8 ⟨rfl,Q⟩;go_wp2;exact⟨Z,Z,f.c _ _ (f.fr _ _ _ _ _ F)<|Ci.of_below Q⟩
 rw[l]at d;simp only[]at d;have N:=Dk l;by_cases t:(r:J)=s.d
 .rw[Cp t]at d;subst d;apply (KC j ⟨N,t⟩).mono;clear l t N o j;rintro e w8 ⟨rfl,Q⟩;go_wp2;exact⟨Z,Z,f.c _ _ (f.fr _ _ _ _ _ F)<|Ci.of_below Q⟩
 rw[Cl t]at d;apply (J4 j ⟨l,t⟩).mono;clear l t m j;rintro e w8 ⟨rfl,al,Q⟩;have L:=T<|f.aq _ _ _ _ _ _ _ _ F (show Ck w8 b {s with a:=r+1,c:=s.c+1}from al) Q E;have bb:D<|r+1<=K s.e:=al.a;clear F al Q;have m:=Cc (f.h _ _ _ _ _ L) 0;by_cases P:c.toNat=last
 .rw[Cp P]at d;subst d;have e1:((c.toNat:J)==last)=AP:=by rw[P];simp
  clear P
  go_wp2_with fail
  apply (o w8 _<|f.e _ _ _ _ _ L).mono;clear o m;rintro e w9 ⟨rfl,aw,ap⟩;have H9:=T<|f.aq _ _ _ _ _ _ _ _ L aw ap E;clear L aw ap;go_wp2
  first|(refine MG ?_;go_end0)|go_end0
  exact⟨Z,H9⟩
 rw[Cl P]at d;have e1:=(show((c.toNat:J)==last)=AQ by simp;omega)
 by_cases q:c.toNat=44
 .rw[Cp q]at d;have HN:=T d;have e2:((c.toNat:J)==44)=AP:=by rw[q];rfl
  have a9:D<|K s.e+1<=(r+1)+g:=by grind [D]
  clear P q d o;go_wp2;go_roundg g
  case measure=>omega
  grind
 rw[Cl q]at d;subst d;have e2:=Df (c:=c) 44 E;have cR:=G5 9<|f.e _ _ _ _ _ L;rw[show((({s with a:=r+1,c:=s.c+1}:Cw).a:J)-1)=r by grind]at cR;clear P q o
 go_wp2_with fail
 apply cR.mono;rintro e w9 ⟨rfl,rfl⟩;go_wp2;exact⟨Z,Z,f.fr _ _ _ _ _ L⟩
def dF{β:Type}(L:Array AK)(b:I)(c:β->AJ (I×Aq))(T:β->Prop)(d:β->X)(e:(∀x,T x->wpAny P md ops Q b L ((c x).foldl (λa p=>a.put (H p.1) p.2) a) (d x))->wpAny P md ops Q fuel listed a w)(f:∀x,T x->wpAny P md ops Q b L ((c x).foldl (λa p=>a.put (H p.1) p.2) a) (d x)):wpAny P md ops Q fuel listed a w:=e f
def RG{K:Act->X->Prop}{s x:Operand}(V:o.op=.call {callee:=.builtin .append,args:=#[s,x],argTypes:=#[t,t]}){i:TypeInfo}(A:P.underlying t=H (.slice e))(hi:P.info? e=H i)(B:i.zero=H z)(y:i.size=size)(k:i.bytes=bytes)(ab:z.cells.size=size)(aa:0<size)(W:a.eval s=v)(q:w.ownsRow base e size v n xs){ad:Addr}(m c:I)(hx:a.eval x=G (H ad) m c)(hl:At news=m*size)(p:∀j u,news[j]?=H u->AC w (ad.add j)=H u)(f:∀u∈news,u.oneCell'=AP)(S:0<m)(g:n+m<=maxLen)(l:(n+m)*bytes<=140737488355328)(R:base<=O (U w))(h:∀b d,d.ownsRow base e size b (n+m) (xs++news)->w.grownBy d (Ax v)->(Ax b=Ax v\/Ax b=H (O<|U w))->K (a.put o.dst b) d):o.wp P a w K Q:=by obtain⟨b,d,r,F,L,_⟩:=Re w base t o.type e i z size bytes A hi B y k ab aa v n xs q ad m c news hl p f g l R;have N:=WQ A hi B y k q hl p f S g l r;unfold Oper.wp execOp;simp only[V,resolve,invoke,builtin,GU,Gf,G0,OF,I8,Mw,W,hx,r];exact h b d F L N
structure Lr(k:AH)(W:Ap)(b:AH)(s:Cw)(N wi p:AH)(ds:AJ (AM Unit))(V:Ap):Prop where
 e:Ck V b {s with a:=p,c:=wi}
 ai:Ci b W V
 f:V.heap[Au (Av W)]?=An (Aj #[Ad (An ⟨b,0,Ao⟩)] 215)
 h:V.heap[N]?=An (Aj #[Ad (An ⟨b,0,Ao⟩)] 215)
 g:Au (Av W)+2<=N
 a0:∃a l c xs,V.heap[Au (Av W)+1]?=An (Aj #[Ac a l c] 221)/\V.ownsRow (Au (Av W)+2) 89 1 (Ac a l c) (At ds) xs/\An N≠Ax (AX a l c)/\∀(i:AH) (x:Aq) (d:A2),xs[i]?=An x->ds[i]?=An d->CA k V (λj=>Au (Av W)+2<=j/\j<Au (Av V)/\An j≠Ax (AX a l c)) x d
 size:Au (Av W)+2<=Au (Av V)
 len:At ds<=p
def Lr.aq(h:Lr k W b s N wi p ds V)(hb:b<O (U W))(u:Ck V' b {s with a:=q,c:=wi' })(e:Ci b V V')(t:K ds<=q):Lr k W b s N wi' q ds V':=by obtain⟨a,l,c,w,g,m,n,o⟩:=h.a0;have z:=h.size;have y:=h.g;exact⟨u,h.ai.trans e,Ca (e.block _ (Cd h.f) E) h.f,Ca (e.block _ (Cd h.h) E) h.h,h.g,⟨a,l,c,w,Ca (e.block _ (Cd g) E) g,TE m e E,n,λi x d v r=>(o i x d v r).same (λj f=>⟨f.1,CQ f.2.1 e.size,f.2.2⟩) λj f=>e.block j f.2.1 E⟩,CE h.size e.size,t⟩
def Lr.push{a:A4}{l c:I}(h:Lr k W b s N wi p ds V)(h0:Ck W b s)(hb:b<O (U W))(m:Ci b V V3)(hS:Ck V3 b {s with a:=q,c:=wi})(hd:CA k V3 (λj=>O (U V)<=j/\j<O (U V3)) x d)(Q:V.heap[O (U W)+1]?=H (M #[G a l c] 221))(F:V.ownsRow (O (U W)+2) 89 1 (G a l c) (K ds) xs)(R:H N≠Ax (AX a l c))(ai:∀(i:I) (x:Aq) (d:A2),xs[i]?=H x->ds[i]?=H d->CA k V (λj=>O (U W)+2<=j/\j<O (U V)/\H j≠Ax (AX a l c)) x d)(L:w5.ownsRow (O (U W)+2) 89 1 v' (K ds+1)<|xs++[x])(n:(Az V3<|M #[x] 89).grownBy w5<|Ax<|AX a l c)(t:Ax v'=Ax (AX a l c)\/Ax v'=H (O<|U<|Az V3<|M #[x] 89))(af:K ds+1<=q):Lr k W b s N wi q (ds++[d])<|AB w5 ⟨O (U W)+1,0,Ao⟩ v':=by
 have an:=h.size;have hN:=h.g;have ac:=Cd h.h;have al:=m.size;have am:O (U V3)+1<=O (U w5):=BZ;have key:∀g,Ax (AX a l c)=H g->O (U W)+2<=g:=λg n=>DK F n;have aj:=Qe F;have v:∀j,j<O (U V3)->H j≠Ax (AX a l c)->j≠O (U W)+1->(AB w5 ⟨_,0,Ao⟩ v').heap[j]?=V3.heap[j]?:=λj f r hl=>Ca (CY w5 _ _ _ keL)<|Ca (n.block j B7 r)<|CB _ _ _ f;have A:∀j,j<O (U W)+1->(AB w5 _ v').heap[j]?=V3.heap[j]?:=λj f=>v j E (λe=>AY<|key j e.symm) E;have ab:=Ca (n.block _ B7 λe=>AY<|key _ e.symm)<|Ca (CB _ _ _ E)<|Ca (m.block _ (Cd Q) E) Q;have w:O (U<|AB w5 ⟨O (U W)+1,0,Ao⟩ v')=O (U w5):=Bd;obtain⟨P,z,rfl⟩:=ownsRow_succ L;have ag:(AB w5 ⟨O (U W)+1,0,Ao⟩<|G (H ⟨P,0,Ao⟩) (K ds+1) z).ownsRow (O (U W)+2) 89 1 (G (H ⟨P,0,Ao⟩) (K ds+1) z) (K ds+1)<|xs++[x]:=by
  refine⟨L.1,?_⟩;rcases L.2 with h2|⟨g,y,aa,e,ad,ae,h5⟩
  .exact AF h2
  exact AG ⟨g,y,aa,e,ad,Ca (CY w5 _ _ _ B7) ae,h5⟩
 have B:∀j,j<O (U V3)->H j≠Ax (AX a l c)->H j≠Ax (AX _ _ z):=λj f r=>by
  rcases t with t|t
  .rw[t];exact r
  rw[t];intro e;injection e with e;simp at e;omega
 refine⟨h0.same Z Z hS λj f=>A j E,⟨Ca n.os<|Ca m.os h.ai.os,Ca n.tape<|Ca m.tape h.ai.tape,Ca n.output<|Ca m.output h.ai.output,by rw[w];have:=h.ai.size;omega,λj f r=>Ca (A j E)<|Ca (m.block j E r)<|h.ai.block j f r⟩,Ca (A _ E)<|Ca (m.block _ E E) h.f,Ca (v N E R E)<|Ca (m.block N ac E) h.h,h.g,⟨_,_,_,_,?_,by rw[Dj];exact ag,?_,λi ak dd u o=>?_⟩,by rw[w];omega,by rw[Dj];exact af⟩
 .rw[DX _ _ _ _ _ _ ab];rfl
 .exact B N E R
 have ah:K xs=K ds:=AY F.1;by_cases hi:i<K ds
 .rw[Hh E]at u o;exact(ai i ak dd u o).same (λj f=>⟨f.1,by rw[w];have:=f.2.1;omega,B j E f.2.2⟩) λj f=>Ca (v j E f.2.2 E)<|m.block j f.2.1 E
 have e:i=K ds:=by have:=Dk o;rw[Dj]at this;simp at this;omega
 subst e;rw[Jd E]at o;rw[Jd E,ah]at u;simp at u o;subst u;subst o;have S:∀j,O (U V)<=j->H j≠Ax (AX a l c):=λj f e=>AY<|aj j e.symm;exact hd.same (λj f=>⟨E,by rw[w];omega,B j f.2<|S j f.1⟩) λj f=>v j f.2 (S j f.1) E
def rt(h0:Ck W b s)(ai:Qg k b {s with c:=wi} W rd)(ag:∀p d q,rd p=.ok (d,q)->p<q)(ar:K s.e<=200000000)(h:Lr k W b s N wi p ds V):Ar As 286 #[A8<|O (U W)+1,A8<|O<|U W] V<|TG (Lr k W b s N wi) (λV=>Ci b W V)<|G7 rd ds p:=by
 obtain⟨i0,hi,am,an,ao⟩:=DL Tryz.infoThing;have af:=Cd h0.ad;obtain⟨w,B,z,xs,n,u,ah,al⟩:=h.a0;have S:O (U W)+1<O (U<|World.drew V):=Cd n;have aq:K ds<=200000000:=by have h1:=h.len;have h2:p<=K s.e:=h.e.a;omega
 have A:=h.e.ac (Cu _ _).drew;have l:=h.ai.trans<|Ci.of_below (Cu _ _).drew;have k0:(World.drew V).cell? _=H (G w B z):=Cc n 0;have k1:(World.drew V).cell? _=H (.pointer _):=Cc h.f 0;have aj:=h.size;have m:∀v,Ck v b {s with a:=p,c:=wi}->Ci b W v->Ar _ _ _ v (NP k v b {s with a:=p,c:=wi} _):=λv h1 h2=>ai v p h1 h2;rcases hq:rd p with er|dq
 .obtain⟨L,R⟩:=er;have j:G7 rd ds p=.error (L,R):=by unfold G7;rw[hq]
  rw[j];rw[hq]at m;go_enter func286,ntmps286
  go_wp2_with fail
  apply SX B6;change wpAny _ _ _ _ _ _ _ (World.drew V);refine Le 0 1 Z Z B6 (λf a=>?_) λf a=>?_
  .go_simp;refine a _ _ <| ER 1 Z B6 λf a=>?_;go_simp;refine a _ _ <| ER 2 Z B6 λf a=>?_;go_simp;apply (m _ A l).mono;rintro e c ⟨g,i⟩;obtain rfl:=(show D4 L R e from i)
   exact⟨Z,Z,l.trans g⟩
  go_simp;refine a _ _ <| Le 0 2 Z Z B6 (λf a=>?_) λf a=>?_
  .go_simp;refine a _ _ <| ER 2 Z B6 λf a=>?_;go_simp;apply (m _ A l).mono;rintro e c ⟨g,i⟩;obtain rfl:=(show D4 L R e from i)
   exact⟨Z,Z,l.trans g⟩
  go_simp;apply (m _ A l).mono;rintro e c ⟨g,i⟩;obtain rfl:=(show D4 L R e from i)
  exact⟨Z,Z,l.trans g⟩
 obtain⟨d,q⟩:=dq;have j:G7 rd ds p=.ok (ds++[d],q):=by unfold G7;rw[hq]
 rw[j];have au:=ag p d q hq;rw[hq]at m;go_enter func286,ntmps286
 go_wp2_with fail
 apply SX B6;change wpAny _ _ _ _ _ _ _ (World.drew V);refine dF (β:=AN×Aq×X) #[AP,AP,AP,AP,AQ,AQ] 2 (λx=>[(2,G w B z),(3,Ag #[A8 b]),(4,Ai x.1 x.2.1),(5,G (Aa<|O<|U x.2.2) 1 1)]) (λx=>Ci b (World.drew V) x.2.2/\Ck x.2.2 b {s with a:=q,c:=wi}/\CA k x.2.2 (λad=>O (U<|World.drew V)<=ad/\ad<O (U x.2.2)) (Ai x.1 x.2.1) d) (λx=>x.2.2.alloc<|M #[Ai x.1 x.2.1] 89) (λQ=>?reg) ?tail
 case reg =>
  refine Le 0 1 Z Z B6 (λf a=>?_) λf a=>?_
  .go_simp;refine a _ _ <| ER 1 Z B6 λf a=>?_;go_simp;refine a _ _ <| ER 2 Z B6 λf a=>?_;go_simp;apply (m _ A l).mono;rintro e c ⟨g,i⟩;obtain⟨⟨t,y,rfl,r⟩,o⟩:=(show(∃t y,e=Ak _/\CA k c _ _ d)/\Ck c b {s with a:=q,c:=wi}from i)
   simp only[];have F:AC c _=H (G w B z):=Cc (Ca (g.block _ S E) n) 0;have hrel:Ci b _ c/\Ck c b _/\CA k c _ _ d:=⟨g,o,r⟩
   refine a _ _ <| ER 3 Z B6 λf a=>?_;go_simp;exact a _ _ <| Q ⟨t,y,c⟩ hrel
  go_simp;refine a _ _ <| Le 0 2 Z Z B6 (λf a=>?_) λf a=>?_
  .go_simp;refine a _ _ <| ER 2 Z B6 λf a=>?_;go_simp;apply (m _ A l).mono;rintro e c ⟨g,i⟩;obtain⟨⟨t,y,rfl,r⟩,o⟩:=(show(∃t y,e=Ak _/\CA k c _ _ d)/\Ck c b {s with a:=q,c:=wi}from i)
   simp only[];have F:AC c _=H (G w B z):=Cc (Ca (g.block _ S E) n) 0;have hrel:Ci b _ c/\Ck c b _/\CA k c _ _ d:=⟨g,o,r⟩
   refine a _ _ <| ER 3 Z B6 λf a=>?_;go_simp;exact a _ _ <| Q ⟨t,y,c⟩ hrel
  go_simp;apply (m _ A l).mono;rintro e c ⟨g,i⟩;obtain⟨⟨t,y,rfl,r⟩,o⟩:=(show(∃t y,e=Ak _/\CA k c _ _ d)/\Ck c b {s with a:=q,c:=wi}from i)
  simp only[];have F:AC c _=H (G w B z):=Cc (Ca (g.block _ S E) n) 0;have hrel:Ci b _ c/\Ck c b _/\CA k c _ _ d:=⟨g,o,r⟩
  refine a _ _ <| Le 0 3 Z Z B6 (λf a=>?_) λf a=>?_
  .go_simp;refine a _ _ <| ER 3 Z B6 λf a=>?_;go_simp;exact a _ _ <| Q ⟨t,y,c⟩ hrel
  go_simp;refine a _ _ <| ER 0 Z B6 λf a=>?_;have c4:(Az c<|M #[Ai t y] 89).cell? _=H _:=Ca (Iy c _ _<|by rw[F];rfl) F;go_simp;exact a _ _ <| Q ⟨t,y,c⟩ hrel
 case tail =>
  rintro⟨t,y,c⟩ ⟨g,o,r⟩;simp only[]at g o r ⊢;have P:=(Ci.of_below (Cu _ _).drew).trans g;have ae:=TE u P E;have av:=CE aj P.size;simp only[List.foldl];refine ER 4 Z B6 λf a=>?_;rw[Cp keJ];apply RG Z underlying221 hi am an ao Z B8 Z (ae.alloc _) 1 1 Z Z (EU) (λaw hu=>by simp at hu;subst hu;rfl) B8 Bc E B7;intro v' w5 ac ab ak;have hJ:=h.push h0 af P o r n u ah al ac ab ak<|AY h.len;have aa:=Ca (ab.block _ B7 λe=>AY<|DK u e.symm)<|Ca (CB _ _ _ E)<|Ca (P.block _ (Cd n) E) n;have c5:AC w5 _=H (G w B z):=Cc aa 0;have f5:=Dy w5 _ 0 _ _ aa;obtain⟨g5,ap,rfl⟩:=ownsRow_succ ac;refine a _ _ <| ER 5 Z B6 λf a=>?_;go_simp;refine a _ _ <| Wm B6 ?_ _;go_end0;exact⟨Z,hJ⟩
theorem Qh:∀(g p b:I) (a l:A1) (r:I),DA bs lim g p a b=.ok (l,r)->p<r/\K l+4*p<=K a+4*r
 |0,p,b,a,l,r,h=>by rw[DA]at h;cases h
 |g+1,p,b,a,l,r,h=>by
  rw[DA]at h;split at h
  .cases h
  split at h
  .cases h
  split at h
  .grind
  split at h
  .split at h
   .cases h
   next rr q hq =>
   have c:=Qh g q _ _ l r h;have d:=(WP hq).2;grind [Rr]
  split at h
  .cases h
  split at h
  .cases h
  have c:=Qh g _ _ _ l r h;grind
theorem OZ(bs:A1)(lim:J):∀(l:A1) (p:I) (u:Unit) (q:I),Dt bs lim l p=.ok (u,q)->q=p+K l
 |[],p,u,q,h=>kfG
 |x::xs,p,u,q,h=>by
  rw[Dt]at h;split at h
  .cases h
  split at h
  .cases h
  split at h
  .have:=OZ bs lim xs _ u q h;simp;omega
  cases h
def dG{l:A1}(h:Jk bs lim ks p=.ok (l,q)):p<q:=by
 unfold Jk at h;split at h
 .cases h
 next u q1 h1 =>
 split at h
 .cases h
 next l' r h2 =>
 split at h
 .cases h
 injection h with h;injection h with h3 h4;have:=OZ _ _ _ _ _ _ h1;have:=Qh _ _ _ _ _ _ h2;omega
def dH(W:Ap)(b m:AH)(s:Cw)(ks:AJ A1)(r:A5 A1)(e:Ending)(W':Ap):Prop :=
 Ig b m W W'/\match r with
 |.ok (l,p)=>e=Ak (Ae ⟨Aw l⟩)/\Ck W' b {s with a:=p}/\F5 W' m (l::ks)
 |.error (en,pl)=>D4 en pl e
def ru(h:Ck W b s)(hk:F5 W m ks)(ac:m≠b)(ah:∀ab off,s.e≠[]->s.f=H ⟨ab,off,Ao⟩->ab≠m)(ai:K ks<1000000000)(aj:K s.e<=200000000)(hU:∀V,Ci b W V->U8 V)(h7:7<b):Ar As 288 #[Ag #[A8 b],.map<|H m] W<|dH W b m s ks<|Jk s.e s.d ks s.a:=by
 have n:=T<|Li h;have o:=Q7 [34] Ba n.e;have cX:∀(V:X) (p:I),Ck V b _->Ci b W V->Ar _ _ _ V (Hp V b {s with a:=p} _<|DA s.e s.d (K s.e+1-p) p [] 0):=λV p k g=>cr k (hU V g) h7 aj;have ae:∀(V:X) (p:I),Ck V b {s with a:=p}->Ar _ _ _ V λe W'=>D4 12 (p-1) e/\W'=V:=λV p k=>G5 12 k;have aa:D (∀V,Ci b W V->F5 V m ks):=λV k=>hk.ai ac k;have ad:D (∀V S p,Ck V b _->Ci m V S->Ck S b {s with a:=p}):=λV S p k g=>k.a2 ac ah g;obtain⟨al,HR⟩:=CC<|Jk s.e s.d ks s.a;rw[AE HR];have a:=AE HR;unfold Jk at a;have t:=Cc n.h 0;rcases ha:Dt s.e s.d [34] s.a with R|uq
 .rw[ha]at a o;simp only[]at a;subst a;obtain⟨u,pl⟩:=R;go_enter func288,ntmps288
  go_wp2_with(first
   |(go_at_call 274;apply o.mono;rintro e f ⟨i,j⟩;obtain rfl:=(show D4 u pl e from j)))
  exact⟨Z,.of1<|n.ai.trans i,Z⟩
 obtain⟨am,q⟩:=uq;rw[ha]at a o;simp only[]at a;have w:=λV9 hs hb=>cX V9 q hs hb;rcases hz:DA s.e s.d (K s.e+1-q) q [] 0 with R|lr
 .rw[hz]at a w;simp only[]at a;subst a;obtain⟨u,pl⟩:=R;go_enter func288,ntmps288
  go_wp2_with(first
   |(go_at_call 274;apply o.mono;rintro e f ⟨i,j⟩;obtain⟨rfl,B⟩:=(show e=Ak (.tuple _)/\Ck f b _ from j);have c:=T<|n.aq B i;have t:=Cc c.h 0;have x:=w f c.e c.ai)
   |(go_at_call 275;apply x.mono;rintro e v ⟨y,A⟩;obtain rfl:=(show D4 u pl e from A)))
  exact⟨Z,.of1<|c.ai.trans y,Z⟩
 obtain⟨l,r⟩:=lr;rw[hz]at a w;simp only[]at a;have ak:=Qh _ _ _ _ _ _ hz;simp only[J2,Gg]at ak;by_cases L:l∈ks
 .rw[Cp L]at a;subst a;have N:=T L;go_enter func288,ntmps288
  go_wp2_with(first
   |(go_at_call 274;apply o.mono;rintro e f ⟨i,j⟩;obtain⟨rfl,B⟩:=(show e=Ak (.tuple _)/\Ck f b _ from j);have c:=T<|n.aq B i;have t:=Cc c.h 0;have x:=w f c.e c.ai)
   |(go_at_call 275;apply x.mono;rintro e v ⟨y,A⟩;obtain⟨rfl,F⟩:=(show e=Ak (.string _)/\Ck v b {s with a:=r}from A);have d:=T<|c.aq F y;have P:D<|K l<=1000000000:=(show _<=_ from by have h1:r<=K s.e:=F.a;omega);have t:=Cc d.h 0)
   |(go_at_call 294;apply (di (aa v d.ai) N P).mono;rintro e w7 ⟨rfl,z⟩;have Q:=T<|d.aq (d.e.ac z)<|Ci.of_below z;have t:=Cc Q.h 0;have af:=ae w7 r Q.e)
   |(go_at_call 271;apply af.mono;rintro e w8 ⟨hF,rfl⟩;obtain rfl:=hF))
  exact⟨Z,.of1 Q.ai,Z⟩
 rw[Cl L]at a;subst a;have N:=T L;go_enter func288,ntmps288
 go_wp2_with(first
  |(go_at_call 274;apply o.mono;rintro e f ⟨i,j⟩;obtain⟨rfl,B⟩:=(show e=Ak (.tuple _)/\Ck f b _ from j);have c:=T<|n.aq B i;have t:=Cc c.h 0;have x:=w f c.e c.ai)
  |(go_at_call 275;apply x.mono;rintro e v ⟨y,A⟩;obtain⟨rfl,F⟩:=(show e=Ak (.string _)/\Ck v b {s with a:=r}from A);have d:=T<|c.aq F y;have P:D<|K l<=1000000000:=(show _<=_ from by have h1:r<=K s.e:=F.a;omega);have t:=Cc d.h 0)
  |(go_at_call 294;apply (dj (aa v d.ai) N ai P).mono;rintro e w7 ⟨rfl,ag,z⟩))
 go_ret;exact⟨(Ig.of1 d.ai).trans<|Ig.of2 z,Z,ad _ _ _ d.e z,ag⟩
structure Ih(k:AH)(W:Ap)(b:AH)(s:Cw)(N wi p:AH)(a:AJ A1×AJ (Lit×AM Unit))(V:Ap):Prop where
 e:Ck V b {s with a:=p,c:=wi}
 ai:Ci b W V
 f:V.heap[Au (Av W)]?=An (Aj #[Ad (An ⟨b,0,Ao⟩)] 215)
 d:V.heap[Au (Av W)+3]?=An (Aj #[.map (An (Au (Av W)+2))] 399)
 q:F5 V (Au (Av W)+2) a.1
 h:V.heap[N]?=An (Aj #[Ad (An ⟨b,0,Ao⟩)] 215)
 g:Au (Av W)+4<=N
 a0:∃ad l c xs,V.heap[Au (Av W)+1]?=An (Aj #[Ac ad l c] 223)/\V.ownsRow (Au (Av W)+4) 225 2 (Ac ad l c) (At a.2) xs/\An N≠Ax (AX ad l c)/\JJ k V (λj=>Au (Av W)+4<=j/\j<Au (Av V)/\An j≠Ax (AX ad l c)) xs a.2
 size:Au (Av W)+4<=Au (Av V)
 len:At a.2<=p/\At a.1<=p
def Ih.aq{a:AJ A1×AJ (Lit×AM Unit)}(h:Ih k W b s N wi p a V)(hb:b<O (U W))(t:Ck V' b {s with a:=q,c:=wi' })(d:Ig b (O (U W)+2) V V')(o:F5 V' (O (U W)+2) ks)(r:K a.2<=q/\K ks<=q):Ih k W b s N wi' q (ks,a.2) V':=by obtain⟨g,l,c,u,f,i,m,n⟩:=h.a0;have v:=h.g;exact⟨t,h.ai.ac d,Ca (d.block _ (Cd h.f) E E) h.f,Ca (d.block _ (Cd h.d) E E) h.d,o,Ca (d.block _ (Cd h.h) E E) h.h,h.g,⟨g,l,c,u,Ca (d.block _ (Cd f) E E) f,dz i d E E,m,n.same (λj e=>⟨e.1,CQ e.2.1 d.size,e.2.2⟩) λj e=>d.block j e.2.1 E E⟩,CE h.size d.size,r⟩
def Ih.go'{a:AJ A1×AJ (Lit×AM Unit)}(h:Ih k W b s N wi p a V)(hb:b<O (U W))(e:Ck V' b {s with a:=q,c:=wi' })(c:Ci b V V')(d:K a.2<=q/\K a.1<=q):Ih k W b s N wi' q a V' :=
 h.aq (ks:=a.1) hb e (.of1 c) (h.q.ai E c) d
def Ih.go{a:AJ A1×AJ (Lit×AM Unit)}(h:Ih k W b s N wi p a V)(hb:b<O (U W))(d:Ck V' b {s with a:=q,c:=wi' })(c:Ci b V V')(e:p<=q):Ih k W b s N wi' q a V' :=
 h.go' hb d c ⟨AY h.len.1,AY h.len.2⟩
theorem Ih.push{key:A1}{a:A4}{l c:I}(h:Ih k W b s N wi p (ks,es) V)(h0:Ck W b s)(hb:b<O (U W))(m:Ci b V V3)(hS:Ck V3 b {s with a:=q,c:=wi})(hd:CA k V3 (λj=>O (U V)<=j/\j<O (U V3)) x d)(P:V.heap[O (U W)+1]?=H (M #[G a l c] 223))(B:V.ownsRow (O (U W)+4) 225 2 (G a l c) (K es) xs)(ah:H N≠Ax (AX a l c))(aj:JJ k V (λj=>O (U W)+4<=j/\j<O (U V)/\H j≠Ax (AX a l c)) xs es)(F:w5.ownsRow (O (U W)+4) 225 2 v' (K es+1)<|xs++[Ae ⟨Aw key⟩,x])(n:(Az V3<|M #[Ae ⟨Aw key⟩,x] 225).grownBy w5<|Ax<|AX a l c)(t:Ax v'=Ax (AX a l c)\/Ax v'=H (O<|U<|Az V3<|M #[Ae ⟨Aw key⟩,x] 225))(ao:K es+1<=q)(ag:K ks<=q):Ih k W b s N wi q (ks,es++[(.string key,d)])<|AB w5 ⟨O (U W)+1,0,Ao⟩ v':=by
 have ap:=h.size;have hN:=h.g;have ac:=Cd h.h;have al:=m.size;have am:O (U V3)+1<=O (U w5):=BZ;have an:∀g,Ax (AX a l c)=H g->O (U W)+4<=g:=λg n=>DK B n;have ar:=Qe B;have u:∀j,j<O (U V3)->H j≠Ax (AX a l c)->j≠O (U W)+1->(AB w5 ⟨_,0,Ao⟩ v').heap[j]?=V3.heap[j]?:=λj f o A=>Ca (CY w5 _ _ _ keH)<|Ca (n.block j B7 o)<|CB _ _ _ f;have v:∀j,j<O (U W)+4->j≠O (U W)+1->(AB w5 _ v').heap[j]?=V3.heap[j]?:=λj f A=>u j E (λe=>B9) A;have ab:=Ca (n.block _ B7 λe=>B9)<|Ca (CB _ _ _ E)<|Ca (m.block _ (Cd P) E) P;have S:O (U<|AB w5 ⟨O (U W)+1,0,Ao⟩ v')=O (U w5):=Bd;have af:F5 (AB w5 ⟨O (U W)+1,0,Ao⟩ v') (O (U W)+2) ks:=by have h1:F5 V3 _ ks:=h.q.ai E m;have z:F5 (Az V3<|M #[Ae ⟨Aw key⟩,x] 225) _ ks:=h1.ai (b:=O (U W)+1) E<|Ci.of_below Cm;have h3:=z.kept n λe=>B9;exact h3.ai (b:=O (U W)+1) E ⟨Z,Z,Z,Bd,λj _ f=>CY w5 _ _ _ keR⟩
 obtain⟨L,w,rfl⟩:=ownsRow_succ F;have ai:(AB w5 ⟨O (U W)+1,0,Ao⟩<|G (H ⟨L,0,Ao⟩) (K es+1) w).ownsRow (O (U W)+4) 225 2 (G (H ⟨L,0,Ao⟩) (K es+1) w) (K es+1)<|xs++[Ae ⟨Aw key⟩,x]:=by
  refine⟨F.1,?_⟩;rcases F.2 with z|⟨g,y,aa,e,ad,ae,h5⟩
  .exact AF z
  exact AG ⟨g,y,aa,e,ad,Ca (CY w5 _ _ _ B7) ae,h5⟩
 have Q:∀j,j<O (U V3)->H j≠Ax (AX a l c)->H j≠Ax (AX _ _ w):=λj f o=>by
  rcases t with t|t
  .rw[t];exact o
  rw[t];intro e;injection e with e;simp at e;omega
 refine⟨h0.same Z Z hS λj f=>v j E E,⟨Ca n.os<|Ca m.os h.ai.os,Ca n.tape<|Ca m.tape h.ai.tape,Ca n.output<|Ca m.output h.ai.output,E,λj f o=>Ca (v j E E)<|Ca (m.block j E o)<|h.ai.block j f o⟩,Ca (v _ E E)<|Ca (m.block _ E E) h.f,Ca (v _ E E)<|Ca (m.block _ E E) h.d,af,Ca (u N E ah E)<|Ca (m.block N ac E) h.h,h.g,⟨_,_,_,_,?_,by rw[Dj];exact ai,?_,λi ak dd r=>?_⟩,by rw[S];omega,⟨B9,ag⟩⟩
 .rw[DX _ _ _ _ _ _ ab];rfl
 .grind
 have aq:=B.1;by_cases hi:i<K es
 .rw[Hh hi]at r;obtain⟨l',x',e1,e2,e3,e4⟩:=aj i ak dd r;refine⟨l',x',e1,B9,B9,?_⟩;exact e4.same (λj f=>⟨f.1,E,Q j E f.2.2⟩) λj f=>Ca (u j E f.2.2 E)<|m.block j f.2.1 E
 have e:i=K es:=B9;subst e;rw[Jd E]at r;simp at r;obtain⟨rfl,rfl⟩:=r;have R:∀j,O (U V)<=j->H j≠Ax (AX a l c):=λj f e=>B9;refine⟨key,x,Z,?_,?_,hd.same (λj f=>⟨E,by rw[S];omega,Q j f.2<|R j f.1⟩) λj f=>u j f.2 (R j f.1) E⟩<;>grind
theorem rz(h0:Ck W b s)(a1:Qg k b {s with c:=wi} W rd)(a4:∀p d q,rd p=.ok (d,q)->p<q)(a5:K s.e<=200000000)(hU:∀V,Ci b W V->U8 V)(h7:7<b){a:AJ A1×AJ (Lit×AM Unit)}(h:Ih k W b s N wi p a V):Ar As 287 #[A8<|O<|U W,A8<|O (U W)+3,A8<|O (U W)+1] V<|TG (Ih k W b s N wi) (λV=>Ci b W V)<|FF s.e s.d rd a p:=by
 obtain⟨i0,hi,bb,bc,bd⟩:=DL Tryz.infoEntry;have af:=Cd h0.ad;have ax:∀aj off,s.e≠[]->s.f=H ⟨aj,off,Ao⟩->aj≠O (U W)+2:=λaj off ay e=>by have hl:0<K s.e:=B9;obtain⟨g',bk,e1,_,e3⟩:=h0.c 0 hl;rw[e]at e1;injection e1 with e1;injection e1 with e1;have:g'<O (U W):=Fk e3;omega
 have ab:=T h;have cK:Ar _ _ _ V<|dH V b _ _ _<|Jk s.e s.d _ p:=ru h.e h.q E ax (by have r:=h.len.2;have A:p<=K s.e:=h.e.a;omega) a5 (λw h9=>hU w<|h.ai.trans h9) h7;have cS:∀(V:X) (p:I),Ck V b _->Ar _ _ _ V (Hp V b {s with a:=p,c:=wi} _<|DW s.e s.d (K s.e+1-p) p):=λV p hV=>Ro hV;have cR:∀(V:X) (p:I),Ck V b _->Ar _ _ _ V (Hp V b {s with a:=p,c:=wi} _<|Dt s.e s.d _ p):=λV p hV=>Q7 [58] Ba hV;have ai:∀(w:X) (q:I),Ck w b {s with a:=q,c:=wi}->Ci b W w->Ar _ _ _ w (NP k w b {s with a:=q,c:=wi} _):=λw q r A=>a1 w q r A;have g:=Cc h.f 0;have k2:=Cc h.d 0;clear h a1 hU ax;obtain⟨be,HR⟩:=CC<|FF s.e s.d rd a p;rw[AE HR];have o:=AE HR;unfold FF at o;clear HR;go_enter func287,ntmps287
 go_wp2_with fail
 apply cK.mono;clear cK;rintro e w1 ⟨ak,ac⟩;rcases r:Jk s.e s.d a.1 p with Q|lq
 .obtain⟨z,F⟩:=Q;simp only[r]at o ac;subst o;clear r cS cR ai;obtain rfl:=(show D4 z F e from ac)
  go_wp2;exact⟨Z,Z,ab.out.ai.ac ak⟩
 obtain⟨key,q1⟩:=lq;have bh:=dG r;simp only[r]at o ac;clear r;obtain⟨rfl,ar,ap⟩:=(show e=Ak _/\Ck w1 b _/\F5 w1 _ _ from ac)
 have H1:=T (ab.out.aq af ar ak ap ⟨AY ab.out.len.1,by have:=ab.out.len.2;grind⟩);clear ab ar ak ap ac g k2;have g:=Cc H1.f 0
 go_wp2_with fail
 apply (cS w1 q1 H1.e).mono;rintro e w2 ⟨al,ad⟩;rcases A:DW s.e s.d (K s.e+1-q1) q1 with Q|uq
 .obtain⟨z,F⟩:=Q;simp only[A]at o ad;subst o;clear A;obtain rfl:=(show D4 z F e from ad)
  go_wp2;exact⟨Z,Z,H1.ai.trans al⟩
 obtain⟨u2,q2⟩:=uq;have a6:=Lq _ _ _ _ A;simp only[A]at o ad;clear A;obtain⟨rfl,au⟩:=(show e=Ak _/\Ck w2 b _ from ad)
 have H2:=T<|H1.go af au al a6;clear H1 au al ad g;have g:=Cc H2.f 0
 go_wp2_with fail
 apply (cR w2 q2 H2.e).mono;rintro e f ⟨m,n⟩;rcases h3:Dt s.e s.d [58] q2 with Q|uq
 .obtain⟨z,F⟩:=Q;simp only[h3]at o n;subst o;clear h3;obtain rfl:=(show D4 z F e from n)
  go_wp2;exact⟨Z,Z,H2.ai.trans m⟩
 obtain⟨u3,q3⟩:=uq;have a7:q2<=q3:=AY<|OZ _ _ _ _ _ _ h3;simp only[h3]at o n;clear h3;obtain⟨rfl,B⟩:=(show e=Ak _/\Ck f b _ from n)
 have H3:=T<|H2.go af B m a7;clear H2 B m n g;have g:=Cc H3.f 0
 go_wp2_with fail
 apply (cS f q3 H3.e).mono;rintro e P ⟨am,ae⟩;rcases h4:DW s.e s.d (K s.e+1-q3) q3 with Q|uq
 .obtain⟨z,F⟩:=Q;simp only[h4]at o ae;subst o;clear h4;obtain rfl:=(show D4 z F e from ae)
  go_wp2;exact⟨Z,Z,H3.ai.trans am⟩
 obtain⟨u4,q4⟩:=uq;have a8:=Lq _ _ _ _ h4;simp only[h4]at o ae;clear h4;obtain⟨rfl,av⟩:=(show e=Ak _/\Ck P b _ from ae)
 have L:=T<|H3.go af av am a8;clear H3 av am ae g
 go_wp2_with fail
 have u:=λw r A=>ai w q4 r A;clear ai;obtain⟨a0,l0,c0,xs,R,ho,ay,ao⟩:=L.a0;have ho:P.ownsRow _ _ 2 _ (K a.2) xs:=ho;have ao:JJ k P _ xs a.2:=ao;have an:O (U W)+1<O (U<|World.drew P):=Cd R;have aa:=L.e.ac (Cu _ _).drew;have S:=L.ai.trans<|Ci.of_below (Cu _ _).drew;have k0:(World.drew P).cell? _=H (G a0 l0 c0):=Cc R 0;have g:(World.drew P).cell? _=H (.pointer _):=Cc L.f 0;have a9:=L.size;apply SX B6;change wpAny _ _ _ _ _ _ _ (World.drew P);apply wpAny_take (i:=1) (v:=.string _) Z B6 B6 B6 (λ_ _ _ h=>h)<|AF ⟨Z,λw=>rfl⟩;rcases h5:rd q4 with Q|dq
 .obtain⟨z,F⟩:=Q;simp only[h5]at o;subst o;rw[h5]at u;clear h5;refine Le 0 2 Z Z B6 (λl c=>?_) λl c=>?_
  .go_simp;apply c _ _;clear c;refine ER 2 Z B6 λl c=>?_;go_simp;apply c _ _;clear c;refine ER 3 Z B6 λl c=>?_;go_simp;apply (u _ aa S).mono;rintro e f ⟨m,n⟩;obtain rfl:=(show D4 z F e from n)
   exact⟨Z,Z,S.trans m⟩
  go_simp;apply c _ _;clear c;refine Le 0 3 Z Z B6 (λl c=>?_) λl c=>?_
  .go_simp;apply c _ _;clear c;refine ER 3 Z B6 λl c=>?_;go_simp;apply (u _ aa S).mono;rintro e f ⟨m,n⟩;obtain rfl:=(show D4 z F e from n)
   exact⟨Z,Z,S.trans m⟩
  go_simp;apply (u _ aa S).mono;rintro e f ⟨m,n⟩;obtain rfl:=(show D4 z F e from n)
  exact⟨Z,Z,S.trans m⟩
 obtain⟨d,q5⟩:=dq;have bi:=a4 q4 d q5 h5;simp only[h5]at o;subst o;rw[h5]at u;clear h5;have bg:K a.2<=200000000:=by have r:K a.2<=q4:=L.len.1;have A:q4<=K s.e:=L.e.a;omega
 refine dF (β:=AN×Aq×X) #[AP,AP,AP,AP,AP,AP,AQ,AQ] 2 (λx=>[(13,G a0 l0 c0),(15,Ag #[A8 b]),(16,Ai x.1 x.2.1),(17,Ag #[Ae ⟨Aw key⟩,Ai x.1 x.2.1]),(18,G (Aa<|O<|U x.2.2) 1 1)]) (λx=>Ci b (World.drew P) x.2.2/\Ck x.2.2 b {s with a:=q5,c:=wi}/\CA k x.2.2 (λa2=>O (U<|World.drew P)<=a2/\a2<O (U x.2.2)) (Ai x.1 x.2.1) d) (λx=>x.2.2.alloc<|M #[Ae ⟨Aw key⟩,Ai x.1 x.2.1] 225) (λag=>?reg) ?tail
 case reg =>
  refine Le 0 2 Z Z B6 (λl c=>?_) λl c=>?_
  .go_simp;apply c _ _;clear c;refine ER 2 Z B6 λl c=>?_;go_simp;apply c _ _;clear c;refine ER 3 Z B6 λl c=>?_;go_simp;apply (u _ aa S).mono;rintro e f ⟨m,n⟩;obtain⟨⟨t,y,rfl,j⟩,B⟩:=(show(∃t y,e=Ak _/\CA k f _ _ d)/\Ck f b {s with a:=q5,c:=wi}from n)
   simp only[];have c3:AC f _=H (G a0 l0 c0):=Cc (Ca (m.block _ an E) R) 0;have hrel:Ci b _ f/\Ck f b _/\CA k f _ _ d:=⟨m,B,j⟩
   apply c _ _;clear c;refine ER 4 Z B6 λl c=>?_;go_simp;apply c _ _;clear c;refine ER 5 Z B6 λl c=>?_;go_simp;apply c _ _;clear c;exact ag ⟨t,y,f⟩ hrel
  go_simp;apply c _ _;clear c;refine Le 0 3 Z Z B6 (λl c=>?_) λl c=>?_
  .go_simp;apply c _ _;clear c;refine ER 3 Z B6 λl c=>?_;go_simp;apply (u _ aa S).mono;rintro e f ⟨m,n⟩;obtain⟨⟨t,y,rfl,j⟩,B⟩:=(show(∃t y,e=Ak _/\CA k f _ _ d)/\Ck f b {s with a:=q5,c:=wi}from n)
   simp only[];have c3:AC f _=H (G a0 l0 c0):=Cc (Ca (m.block _ an E) R) 0;have hrel:Ci b _ f/\Ck f b _/\CA k f _ _ d:=⟨m,B,j⟩
   apply c _ _;clear c;refine ER 4 Z B6 λl c=>?_;go_simp;apply c _ _;clear c;refine ER 5 Z B6 λl c=>?_;go_simp;apply c _ _;clear c;exact ag ⟨t,y,f⟩ hrel
  go_simp;apply (u _ aa S).mono;rintro e f ⟨m,n⟩;obtain⟨⟨t,y,rfl,j⟩,B⟩:=(show(∃t y,e=Ak _/\CA k f _ _ d)/\Ck f b {s with a:=q5,c:=wi}from n)
  simp only[];have c3:AC f _=H (G a0 l0 c0):=Cc (Ca (m.block _ an E) R) 0;have hrel:Ci b _ f/\Ck f b _/\CA k f _ _ d:=⟨m,B,j⟩
  apply c _ _;clear c;refine Le 0 4 Z Z B6 (λl c=>?_) λl c=>?_
  .go_simp;apply c _ _;clear c;refine ER 4 Z B6 λl c=>?_;go_simp;apply c _ _;clear c;refine ER 5 Z B6 λl c=>?_;go_simp;apply c _ _;clear c;exact ag ⟨t,y,f⟩ hrel
  go_simp;apply c _ _;clear c;refine Le 0 5 Z Z B6 (λl c=>?_) λl c=>?_
  .go_simp;apply c _ _;clear c;refine ER 5 Z B6 λl c=>?_;go_simp;apply c _ _;clear c;exact ag ⟨t,y,f⟩ hrel
  go_simp;apply c _ _;clear c;refine ER 0 Z B6 λl c=>?_;have c4:(Az f<|M #[Ae ⟨Aw key⟩,Ai t y] 225).cell? _=H _:=Ca (Iy f _ _<|by rw[c3];rfl) c3;go_simp;apply c _ _;clear c;exact ag ⟨t,y,f⟩ hrel
 case tail =>
  rintro⟨t,y,f⟩ ⟨m,B,j⟩;simp only[]at m B j ⊢;have ah:=(Ci.of_below (Cu _ _).drew).trans m;have a3:=TE ho ah E;have bj:=CE a9 ah.size;simp only[List.foldl];refine ER 6 Z B6 λl c=>?_;rw[Cp keJ];refine RG Z underlying223 hi bb bc bd Z B8 Z (a3.alloc _) 1 1 Z Z (EU) (λbl hu=>BJ) B8 Bc E B7 ?_;intro v' w5 az aw ba;have hJ:Ih k W b s N wi q5 (key::a.1,a.2++[(.string key,d)])<|AB w5 ⟨O (U W)+1,0,Ao⟩ v':=L.push h0 af ah B j R ho ay ao az aw ba (by have r:K a.2<=q4:=L.len.1;omega) (by have r:K (key::a.1)<=q4:=L.len.2;omega);have aq:A7 w5 (O (U W)+1) #[G a0 l0 c0] 223:=Ca (aw.block _ B7 λe=>AY<|DK ho e.symm)<|Ca (CB _ _ _ E)<|Ca (ah.block _ (Cd R) E) R;have c5:AC w5 _=H (G a0 l0 c0):=Cc aq 0;have f5:=Dy w5 _ 0 _ _ aq;obtain⟨g5,bf,rfl⟩:=ownsRow_succ az;apply c _ _;clear c;refine ER 7 Z B6 λl c=>?_;go_simp;apply c _ _;clear c;refine Wm B6 ?_ _;go_end0;exact⟨Z,hJ⟩
def TH{α:Type}(W:Ap)(b:AH)(s:Cw)(val:Ap->Aq->α->Prop)(r:A5 α)(e:Ending)(W':Ap):Prop :=
 Ci b W W'/\match r with
 |.ok (x,p)=>(∃v,e=Ak v/\val W' v x)/\Ck W' b {s with a:=p}
 |.error (en,pl)=>D4 en pl e
def rA(hb:b<O (U W)):WZ b s (Lr k W b s) (λV=>Ci b W V) :=
 ⟨λ_ _ _ _ _ h=>h.e,λ_ _ _ _ _ _ _ _ h c a d=>h.aq hb c a<|AY h.len,λ_ _ _ _ _ h=>h.h,λ_ _ _ _ _ h=>h.ai,λ_ _ h a=>h.trans a⟩
def rB(hb:b<O (U W)):WZ b s (Ih k W b s) (λV=>Ci b W V) :=
 ⟨λ_ _ _ _ _ h=>h.e,λ_ _ _ _ _ _ _ _ h d a c=>h.go hb d a c,λ_ _ _ _ _ h=>h.h,λ_ _ _ _ _ h=>h.ai,λ_ _ h a=>h.trans a⟩
theorem dI(c:∀p d q,rd p=.ok (d,q)->p<q):∀a p b q,G7 rd a p=.ok (b,q)->p<q:=λa p b q h=>by grind [G7]
theorem X2(c:∀p d q,rd p=.ok (d,q)->p<q):∀a p b q,FF bs lim rd a p=.ok (b,q)->p<q:=λa p b q h=>by
 unfold FF at h;split at h
 .cases h
 next l p1 h1 =>
 split at h
 .cases h
 next u2 p2 h2 =>
 split at h
 .cases h
 next u3 p3 h3 =>
 split at h
 .cases h
 next u4 p4 h4 =>
 split at h
 .cases h
 next d p5 h5 =>
 injection h with h;injection h with h6 h7;have:=dG h1;have:=Lq _ _ _ _ h2;have:=OZ _ _ _ _ _ _ h3;have:=Lq _ _ _ _ h4;grind
theorem rC(k:I)(h:Ck W b s):Lr k W b s (O (U W)+2) s.c s.a []<|Az (Az (Az W<|M #[A8 b] 215)<|M #[G Ao 0 0] 221)<|M #[A8 b] 215:=by have a:Below _ W<|Az (Az (Az W<|M #[A8 b] 215)<|M #[G Ao 0 0] 221)<|M #[A8 b] 215:=((Cm).alloc Ba _).alloc B7 _;refine⟨h.ac a,Ci.of_below a,?_,?_,Cr _,⟨Ao,0,0,[],?_,Fi _ _ _ _,by simp[Value.ownBlock],λi x d c=>kf2⟩,Ba,Ex _⟩<;>grind [Below.heap_alloc,Cj,World.size_alloc]
theorem rD(k:I)(h:Ck W b s):Ih k W b s (O (U W)+4) s.c s.a ([],[])<|Az (Az (Az (Az (Az W<|M #[A8 b] 215)<|M #[G Ao 0 0] 223)<|.map #[] 0)<|M #[.map<|H<|O (U W)+2] 399)<|M #[A8 b] 215:=by
 have a:Below _ W<|Az (Az (Az (Az (Az W<|M #[A8 b] 215)<|M #[G Ao 0 0] 223)<|.map #[] 0)<|M #[.map<|H<|O (U W)+2] 399)<|M #[A8 b] 215:=((((Cm).alloc Ba _).alloc B7 _).alloc B7 _).alloc B7 _;generalize hA:Az W (M #[A8 b] 215)=A at *;have c:O (U A)=O (U W)+1:=by rw[<-hA];simp
 have g:A7 A (O<|U W) #[A8 b] 215:=by grind [Cj]
 generalize hC:A.alloc (M #[G Ao 0 0] 223)=C at *;have n:O (U C)=O (U W)+2:=by rw[<-hC];simp[c]
 have j:A7 C (O<|U W) #[A8 b] 215:=by grind [Below.heap_alloc]
 have m:A7 C (O (U W)+1) #[G Ao 0 0] 223:=by grind [Cj]
 have e:F5 (C.alloc<|.map #[] 0) (O (U W)+2) []:=⟨.map [],by grind [World.ownsMap_made],λl=>kfC⟩
 refine⟨h.ac a,Ci.of_below a,?_,?_,?_,?_,Cr _,⟨Ao,0,0,[],?_,Fi _ _ _ _,by simp[Value.ownBlock],λi x d f=>by simp at f⟩,B7,⟨Ex _,Ex _⟩⟩
 .grind [Below.heap_alloc]
 .grind [Below.heap_alloc,Cj,World.size_alloc]
 .exact(e.ai (b:=O<|U W) E<|Ci.of_below Cm).ai (b:=O<|U W) E<|Ci.of_below Cm
 .grind [Cj,World.size_alloc]
 grind [Below.heap_alloc]
theorem rE(k:I)(h:Ck W b s)(aa:Qg k b {s with c:=s.c+1} W rd)(y:∀p d q,rd p=.ok (d,q)->p<q)(x:K s.e<=200000000)(r:¬(s.c:J)=s.b)(ab:s.c<=100000):Ar As 276 #[Ag #[A8 b]] W<|TH W b s (λV v m=>(∃a ae c,v=G a ae c)/\CA (k+1) V (λj=>O (U W)<=j/\j<O (U V)) (Ai 221 v) (.agg m))<|Gp s.e s.d (G7 rd) 93 s.a []:=by
 have n:=Cd h.ad;have N:Below _ W<|Az (Az W<|M #[A8 b] 215)<|M #[G Ao 0 0] 221:=(Cm).alloc Ba _;have f:=dE 93 _ _ (λ_ _=>B6) [] (rA n) (h.ac N) r ab (by grind [World.size_alloc,rC]) (λag p m V hV=>rt h aa y x hV)<|dI y;have kr:(Az (Az W<|M #[.pointer _] 215)<|M #[G Ao 0 0] 221).cell? _=H (A8 b):=Cc (Ca (CB _ _ _ Ba)<|Cj W) 0;rcases hr:Gp s.e s.d (G7 rd) 93 s.a []with R|P
 .obtain⟨Q,pl⟩:=R;rw[hr]at f;go_enter func276,ntmps276
  go_wp2_with(first
   |(go_at_call 285;apply f.mono;rintro e t hF;obtain⟨hF,i⟩:=(show D4 Q pl e/\Ci b W t from hF);obtain rfl:=hF))
  exact⟨Z,i,Z⟩
 obtain⟨m,q⟩:=P;rw[hr]at f;go_enter func276,ntmps276
 go_wp2_with(first
  |(go_at_call 285;apply f.mono;rintro e t hF;obtain⟨rfl,o⟩:=(show e=Ak _/\Lr k W b s _ _ q m t from hF);obtain⟨a,ai,c,xs,hL,ho,ah,ac⟩:=o.a0;have kl:=Cc hL 0;have u:=T ho;have B:=T ac;have z:=T o.ai;have A:=T o.e))
 go_ret;refine⟨z,⟨_,Z,⟨_,_,_,Z⟩,?_⟩,A⟩;unfold CA;refine⟨_,xs,Z,⟨u.1,?_⟩,λad af d hx r=>(B ad af d hx r).same (λj hj=>⟨E,hj.2.1⟩) λ_ _=>rfl⟩;rcases u.2 with S|⟨g,F,L,e,hb,w,l⟩
 .exact AF S
 exact AG ⟨g,F,L,e,⟨E,(Cd w)⟩,w,l⟩
theorem rG(k:I)(h:Ck W b s)(ab:Qg k b {s with c:=s.c+1} W rd)(u:∀p d q,rd p=.ok (d,q)->p<q)(aa:K s.e<=200000000)(hU:∀V,Ci b W V->U8 V)(R:7<b)(hd:¬(s.c:J)=s.b)(ac:s.c<=100000):Ar As 277 #[Ag #[A8 b]] W<|TH W b s (λV v i=>(∃a ae c,v=G a ae c)/\CA (k+1) V (λj=>O (U W)<=j/\j<O (U V)) (Ai 223 v) (.map i.2))<|Gp s.e s.d (FF s.e s.d rd) 125 s.a ([],[]):=by
 have n:=Cd h.ad;have ag:∀V:X,(Instr.makeMap 399 Ao).run As V=.ok (.map<|H<|O<|U V) (Az V<|.map #[] 0):=λV=>B6;have S:Below _ W<|Az (Az (Az (Az W<|M #[A8 b] 215)<|M #[G Ao 0 0] 223)<|.map #[] 0)<|M #[.map<|H<|O (U W)+2] 399:=(((Cm).alloc Ba _).alloc B7 _).alloc B7 _;have f:=dE 125 _ _ (λ_ _=>B6) ([],[]) (rB n) (h.ac S) hd ac (by grind [World.size_alloc,rD]) (λaf p i V hV=>rz h ab u aa hU R hV)<|X2 u;have kr:(Az (Az (Az (Az W<|M #[.pointer _] 215)<|M #[G Ao 0 0] 223)<|.map #[] 0)<|M #[.map<|H<|O (U W)+2] 399).cell? _=H (A8 b):=Cc (Ca (CB _ _ _ B7)<|Ca (CB _ _ _ B7)<|Ca (CB _ _ _ Ba)<|Cj W) 0;rcases hr:Gp s.e s.d (FF s.e s.d rd) 125 s.a ([],[])with L|B
 .obtain⟨F,pl⟩:=L;rw[hr]at f;go_enter func277,ntmps277
  go_wp2_with(first
   |(go_at_call 285;apply f.mono;rintro e o hF;obtain⟨hF,l⟩:=(show D4 F pl e/\Ci b W o from hF);obtain rfl:=hF))
  exact⟨Z,l,Z⟩
 obtain⟨i,q⟩:=B;rw[hr]at f;go_enter func277,ntmps277
 go_wp2_with(first
  |(go_at_call 285;apply f.mono;rintro e o hF;obtain⟨rfl,m⟩:=(show e=Ak _/\Ih k W b s _ _ q i o from hF);obtain⟨a,ai,c,xs,N,ho,ah,ad⟩:=m.a0;have kl:=Cc N 0;have r:=T ho;have y:=T ad;have w:=T m.ai;have x:=T m.e))
 go_ret;refine⟨w,⟨_,Z,⟨_,_,_,Z⟩,?_⟩,x⟩;unfold CA;refine⟨_,xs,Z,⟨r.1,?_⟩,y.same (λj hj=>⟨E,hj.2.1⟩) λ_ _=>rfl⟩;rcases r.2 with P|⟨g,z,A,e,hb,t,Q⟩
 .exact AF P
 exact AG ⟨g,z,A,e,⟨E,(Cd t)⟩,t,Q⟩
def dJ(last:J)(f:Fn)(g cs:A3)(h:Ck W b s)(j:(s.c:J)=s.b):Ar As 285 #[Ag #[A8 b],C Am last,.func f g cs] W λe c=>D4 11 ((s.a:J)-1) e/\Ci b W c:=by
 have a:=T<|Li h;have d:=dl a.e j;have k:=Cc a.h 0;go_enter func285,ntmps285;go_wp2;go_step3
 go_wp2_with(first
  |(go_at_call 265;apply d.mono;rintro e l ⟨hF,i,_⟩;obtain rfl:=hF))
 exact⟨Z,Z,a.ai.trans i⟩
def rH(h:Ck W b s)(k:(s.c:J)=s.b):Ar As 276 #[Ag #[A8 b]] W λe d=>D4 11 ((s.a:J)-1) e/\Ci b W d:=by
 have a:Below _ W<|Az (Az W<|M #[A8 b] 215)<|M #[G Ao 0 0] 221:=(Cm).alloc Ba _;have c:D<|Ci b W _:=Ci.of_below a;have f:=λlast g i cs=>dJ last g i cs (h.ac a) k;have l:(Az (Az W<|M #[.pointer _] 215)<|M #[G Ao 0 0] 221).cell? _=H (A8 b):=Cc (Ca (CB _ _ _ Ba)<|Cj W) 0;go_enter func276,ntmps276
 go_wp2_with(first
  |(go_at_call 285;apply (f _ _ _ _).mono;rintro e m ⟨hF,j⟩;obtain rfl:=hF))
 exact⟨Z,Z,c.trans j⟩
def rI(h:Ck W b s)(k:(s.c:J)=s.b):Ar As 277 #[Ag #[A8 b]] W λe d=>D4 11 ((s.a:J)-1) e/\Ci b W d:=by
 have a:Below _ W<|Az (Az (Az (Az W<|M #[A8 b] 215)<|M #[G Ao 0 0] 223)<|.map #[] 0)<|M #[.map<|H<|O (U W)+2] 399:=(((Cm).alloc Ba _).alloc B7 _).alloc B7 _;have c:D<|Ci b W _:=Ci.of_below a;have l:∀V:X,(Instr.makeMap 399 Ao).run As V=.ok (.map<|H<|O<|U V) (Az V<|.map #[] 0):=λV=>B6;have f:=λlast g i cs=>dJ last g i cs (h.ac a) k;have m:(Az (Az (Az (Az W<|M #[.pointer _] 215)<|M #[G Ao 0 0] 223)<|.map #[] 0)<|M #[.map<|H<|O (U W)+2] 399).cell? _=H (A8 b):=Cc (Ca (CB _ _ _ B7)<|Ca (CB _ _ _ B7)<|Ca (CB _ _ _ Ba)<|Cj W) 0;go_enter func277,ntmps277
 go_wp2_with(first
  |(go_at_call 285;apply (f _ _ _ _).mono;rintro e n ⟨hF,j⟩;obtain rfl:=hF))
 exact⟨Z,Z,c.trans j⟩
theorem X3{most:I}{z:AK}:∀{g p num:I} {x q:I},Ee bs lim most z g p num=.ok (x,q)->p<=q
 |0,p,num,x,q,h=>by grind [Ee]
 |g+1,p,num,x,q,h=>by
  unfold Ee at h;split at h
  .grind
  split at h
  .cases h
  split at h
  .split at h
   .cases h
   split at h
   .cases h
   have:=X3 h;omega
  grind
theorem X4{z:J}(d:c.toNat=45\/Ey c=AP)(h:GW s c=.ok (z,q)):(-9223372036854775808<=z/\z<=9223372036854775807)/\s.a<=q:=by
 unfold GW at h;split at h
 .split at h
  .cases h
  split at h
  .cases h
  split at h
  .next c' _ _ a =>
   have b:=Dr a;split at h
   .next x p hx =>
    injection h with h;injection h with h1 h2;have:=Rn E B8 hx;have:=X3 hx;omega
   cases h
  cases h
 next hn =>
 have a:Ey c=AP:=B9;have b:=Dr a;split at h
 .next x p hx =>
  injection h with h;injection h with h1 h2;have:=Rn E B8 hx;have:=X3 hx;omega
 cases h
def Ii(s:Cw)(c:AU)(p:AH):A5 AI:=GW {s with a:=p} c
def P2(k:J){p:AK}(h:AR ((c.toNat:J)=k)=p:=by(first|exact Fm (by omega)|exact FO<|by omega)):((c.toNat:J)==k)=p:=E
def rJ{p:AK}(h:AR (48<=(c.toNat:J)/\(c.toNat:J)<=57)=p:=by(first|exact Fm (by omega)|exact FO<|by omega)):AR (48<=(c.toNat:J)/\(c.toNat:J)<=57)=p:=h
def Ls(W:Ap)(b:AH)(s:Cw)(f:FuncId)(args:A3)(R:AS (AI×AI)<|AM Unit×AH)(val:Ap->Ap->Aq->A2->Prop):Prop :=
 ∀V,Ck V b s.next->Ci b W V->Ar As f args V λe W'=>Ci b V W'/\match R with
 |.ok (d,q)=>(∃v,e=Ak v/\val V W' v d)/\Ck W' b {s with a:=q}
 |.error (en,pl)=>D4 en pl e
def P3{α:Type}{f:FuncId}{R:AS (J×J)<|AM Unit×I}{val:X->X->Aq->A2->Prop}{vl:X->X->Aq->α->Prop}(r:A5 α)(k:α->A2)(c:∀V,Ck V b s.next->Ci b W V->Ar As f args V (TH V b s.next (vl V) r))(m:∀V a v x q,r=.ok (x,q)->vl V a v x->val V a v (k x))(g:(∀e,r=.error e->R=.error e)/\∀x q,r=.ok (x,q)->R=.ok (k x,q):=by exact⟨λe d=>by rw[d]at hr;exact hr.symm,λx q d=>by rw[d]at hr;exact hr.symm⟩):Ls W b s f args R val:=λV j l=>Ce (c V j l) λe a h=>by
 rcases r with n|⟨x,q⟩
 .obtain rfl:=g.1 _ rfl;exact h
 obtain rfl:=g.2 _ _ rfl;exact⟨h.1,h.2.1.imp λv i=>⟨i.1,m V a v x q Z i.2⟩,h.2.2⟩
def RH{α:Type}{val:α->Aq}{r:A5 α}{f:FuncId}(h:Ar As f args V<|Hp V b s val r):Ar As f args V<|TH V b s (λ_ v x=>v=val x) r:=Ce h λe a h=>by
 rcases r with c|⟨x,q⟩
 .exact h
 exact⟨h.1,⟨_,h.2.1,Z⟩,h.2.2⟩
theorem rK(g:I)(W:Ap)(b:I)(s:Cw)(c:AU)(h:Ck W b s)(h1:JC s c)(rd:I->AS (J×J) (AM Unit×I))(hlen:K s.e<=200000000)(hU:∀V,Ci b W V->U8 V)(h7:7<b)(hdp:s.b<=100000)(hwd:(s.c:J)<=s.b)(ih:¬(s.c:J)=s.b->Qg g b {s with c:=s.c+1} W rd)(hgo:∀p d q,rd p=.ok (d,q)->p<q):Ar As 272 #[Ag #[A8 b]] W<|NP (g+1) W b s<|Kg s.e s.d s.b s.c rd (Ii s) c<|s.a+1:=by
 obtain⟨R,hr⟩:=DF<|Kg s.e s.d s.b s.c rd (Ii s) c<|s.a+1;rw[hr];have HX0:=T<|Li h;have kb:=HX0.cell;have cT:=J4 HX0.e h1;have hpp:(((s.a+1:I)):J)-1=s.a:=E;have hw:(c.toNat=110/\D (Ls W b s 274 #[Ag #[A8 b],Ae ⟨#[117,108,108]⟩] R λ_ _ v d=>v=Af #[]/\d=.nil))\/(c.toNat=116/\D (Ls W b s 274 #[Ag #[A8 b],Ae ⟨#[114,117,101]⟩] R λ_ _ v d=>v=Af #[]/\d=.lit (.bool AP)))\/(c.toNat=102/\D (Ls W b s 274 #[Ag #[A8 b],Ae ⟨#[97,108,115,101]⟩] R λ_ _ v d=>v=Af #[]/\d=.lit (.bool AQ)))
   \/ (c.toNat=34/\D (Ls W b s 275 #[Ag #[A8 b]] R λ_ _ v d=>∃l:A1,v=Ae ⟨Aw l⟩/\d=.lit (.string l)))\/(c.toNat=91/\D (Ls W b s 276 #[Ag #[A8 b]] R λV W' v d=>∃a n c,v=G a n c/\CA (g+1) W' (λj=>O (Av V)<=j/\j<O (Av W')) (Ai 221 v) d))\/(c.toNat=123/\D (Ls W b s 277 #[Ag #[A8 b]] R λV W' v d=>∃a n c,v=G a n c/\CA (g+1) W' (λj=>O (Av V)<=j/\j<O (Av W')) (Ai 223 v) d))
   \/ (c.toNat=45/\D (Ls W b s 279 #[Ag #[A8 b],C Am c.toNat] R λ_ _ v d=>∃z,v=C Y z/\d=.lit (.int Y z) /\ -9223372036854775808<=z/\z<=9223372036854775807))\/((48<=(c.toNat:J)/\(c.toNat:J)<=57)/\D (Ls W b s 279 #[Ag #[A8 b],C Am c.toNat] R λ_ _ v d=>∃z,v=C Y z/\d=.lit (.int Y z) /\ -9223372036854775808<=z/\z<=9223372036854775807))
   \/ (¬(c.toNat=110\/c.toNat=116\/c.toNat=102\/c.toNat=34\/c.toNat=91\/c.toNat=123\/c.toNat=45\/(48<=c.toNat/\c.toNat<=57))/\R=.error (9,s.a)):=by
  unfold Kg at hr;have deep:∀f val,(∀V,Ck V b _->Ar _ f _ V λe W'=>D4 11 (s.next.a-1) e/\Ci b V W')->D (Ls W b s f #[Ag #[A8 b]] (.error (11,(s.a+1:I)-1)) val):=λf val cd V hV _=>Ce (cd V hV) λe W' hh=>⟨hh.2,hh.1⟩
  have num:∀R',(c.toNat=45\/Ey c=AP)->(match Ii s c (s.a+1)with|.error e=>.error e|.ok (z,q)=>.ok (.lit<|.int Y z,q))=R'->D (Ls W b s _ _ R' λ_ _ v d=>∃z,v=.int _ z/\d=.lit (.int _ z) /\ -9223372036854775808<=z/\z<=9223372036854775807):=λR' hc hr=>P3 (Ii s c _) _ (λV hV _=>RH<|pH hV hc) λ_ _ _ z q hz e=>⟨z,e,rfl,(X4 hc hz).1⟩
  by_cases c1:c.toNat=110
  .rw[Cp c1]at hr;exact AF ⟨c1,P3 (Dt s.e s.d _<|s.a+1) _ (λV hV _=>RH<|Q7 _ Ba hV) λ_ _ _ _ _ _ e=>⟨e,Z⟩⟩
  rw[Cl c1]at hr;by_cases c2:c.toNat=116
  .rw[Cp c2]at hr;exact AG<|AF ⟨c2,P3 (Dt s.e s.d _<|s.a+1) _ (λV hV _=>RH<|Q7 _ Ba hV) λ_ _ _ _ _ _ e=>⟨e,Z⟩⟩
  rw[Cl c2]at hr;by_cases c3:c.toNat=102
  .rw[Cp c3]at hr;exact AG<|AG<|AF ⟨c3,P3 (Dt s.e s.d _<|s.a+1) _ (λV hV _=>RH<|Q7 _ Ba hV) λ_ _ _ _ _ _ e=>⟨e,Z⟩⟩
  rw[Cl c3]at hr;by_cases c4:c.toNat=34
  .rw[Cp c4]at hr;exact AG<|AG<|AG<|AF ⟨c4,P3 (DA s.e s.d (K s.e+1-(s.a+1)) (s.a+1) [] 0) _ (λV hV hB=>RH<|cr hV (hU V hB) h7 hlen) λ_ _ _ l _ _ e=>⟨l,e,Z⟩⟩
  rw[Cl c4]at hr;by_cases c5:c.toNat=91
  .rw[Cp c5]at hr;refine AG<|AG<|AG<|AG<|AF ⟨c5,?_⟩;by_cases hd:(s.c:J)=s.b
   .rw[Cp hd]at hr;subst hr;exact deep _ _ λV hV=>rH hV hd
   rw[Cl hd]at hr;exact P3 (Gp s.e s.d _ 93 (s.a+1) []) _ (λV hV hB=>rE g hV (λU p h1 h2=>ih hd U p h1<|hB.trans h2) hgo hlen hd keI) λ_ _ _ _ _ _ ⟨⟨a,n,c,e⟩,hT⟩=>⟨a,n,c,e,hT⟩
  rw[Cl c5]at hr;by_cases c6:c.toNat=123
  .rw[Cp c6]at hr;refine AG<|AG<|AG<|AG<|AG<|AF ⟨c6,?_⟩;by_cases hd:(s.c:J)=s.b
   .rw[Cp hd]at hr;subst hr;exact deep _ _ λV hV=>rI hV hd
   rw[Cl hd]at hr;exact P3 (Gp s.e s.d (FF s.e s.d rd) _ (s.a+1) _) _ (λV hV hB=>rG g hV (λU p h1 h2=>ih hd U p h1<|hB.trans h2) hgo hlen (λX hX=>hU X<|hB.trans hX) h7 hd keI) λ_ _ _ _ _ _ ⟨⟨a,n,c,e⟩,hT⟩=>⟨a,n,c,e,hT⟩
  grind [Ey]
 clear hr ih hgo h1 hU hlen h;rcases hw with⟨hc,HC⟩|⟨hc,HC⟩|⟨hc,HC⟩|⟨hc,HC⟩|⟨hc,HC⟩|⟨hc,HC⟩|⟨hc,HC⟩|⟨hc,HC⟩|⟨hc,rfl⟩
 all_goals
  have e1:=P2 (c:=c) 110;have e2:=P2 (c:=c) 116;have e3:=P2 (c:=c) 102;have e4:=P2 (c:=c) 34;have e5:=P2 (c:=c) 91;have e6:=P2 (c:=c) 123;have e7:=P2 (c:=c) 45;have hdc:=rJ (c:=c);clear hc;go_enter func272,ntmps272
  go_wp2_with(first
   |(go_at_call 270;refine Ce cT ?_;rintro e w2 ⟨rfl,hS2,hB2⟩;have HX:=T<|HX0.aq hS2 hB2;have kb:=HX.cell)
   |(go_at_call 278;apply (Q3).mono;rintro e w3 ⟨rfl,rfl⟩;rw[hdc]))
 rotate_right
 .apply (G5 9 HX.e).mono;rintro e w7 ⟨hF,rfl⟩;obtain rfl:=hF;exact⟨rfl,HX.ai,by rw[show((s.next.a:J)-1)=s.a from hpp];rfl⟩
 all_goals
  refine Ce (HC _ HX.e HX.ai) ?_;rintro e w4 ⟨hB4,hF4⟩;rcases R with⟨en,pl⟩|⟨d,q⟩
  .obtain rfl:=hF4;exact⟨Z,HX.ai.trans hB4,Z⟩
  obtain⟨⟨v,rfl,hv⟩,hS4⟩:=hF4
  first|(obtain⟨rfl,rfl⟩:=hv)|(obtain⟨l,rfl,rfl⟩:=hv)|(obtain⟨z,rfl,rfl,hz⟩:=hv)|(obtain⟨a4,n4,c4,rfl,hD⟩:=hv)
  go_wp2;go_ret
  first|exact⟨HX.ai.trans hB4,⟨_,_,rfl,rfl⟩,hS4⟩|exact⟨HX.ai.trans hB4,⟨_,_,rfl,rfl,hz⟩,hS4⟩|exact⟨HX.ai.trans hB4,⟨_,_,rfl,hD.same (λj hj=>⟨CE HX.ai.size hj.1,hj.2⟩) λ_ _=>rfl⟩,hS4⟩
def dK(d:J)(h:Ck W b s)(g:∀V,Ck V b s->Ar As 270 #[A8 b] V λe c=>D4 d s.a e/\A0 V c):Ar As 272 #[Ag #[A8 b]] W λe c=>Ci b W c/\D4 d s.a e:=by
 have a:=T<|Li h;have j:=a.cell;have f:=g _ a.e;go_enter func272,ntmps272
 go_wp2_with(first
  |(go_at_call 270;apply f.mono;rintro e k ⟨hF,i⟩;obtain rfl:=hF))
 exact⟨Z,a.ai.trans<|Ci.of_below i,Z⟩
end
end Go.Proofs.YtaehkdnabiccnaaGreatDoor


