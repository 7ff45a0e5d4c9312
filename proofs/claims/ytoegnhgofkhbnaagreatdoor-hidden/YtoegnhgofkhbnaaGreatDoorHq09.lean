import Derived.Test.YtoegnhgofkhbnaaGreatDoorHq07
import Derived.Test.YtoegnhgofkhbnaaGreatDoorHq08
set_option maxRecDepth 100000
set_option maxHeartbeats 8000000
set_option linter.all false
namespace Go.Proofs.YtoegnhgofkhbnaaGreatDoor
open Go.Proofs.Tryz
open Go.Value renaming int->A7,slice->A8,pointer->A9,string->Aa,tuple->Ab,bool->Ad,iface->Ae
open Go.Obj renaming cells->Af
open Go.IntKind renaming i64->Ah
open Option renaming some->Aj,none->Ak
open Go renaming World->Al,Value->Am,Calls->An
variable{V V' W W' W0 w w5:Al}{A base lo lo' m mn n size:Nat}{F G:Nat->Prop}{sv v v':Am}{cs xs ys:List Am}{o:Oper}{a:Act}{K:Act->Al->Prop}{Q:Exit->Act->Al->Prop}{q:Bi}{sts:List ((Nat->Nat)×Int×Int)}{f mf nf:Lit->Option Nat}{l:A2}{pa:A5}{es:List (List Am×Nat×Int×Int)}{pre:List Ca}{x:Ca}
section
open Go.RowKit
def C7(V:Al)(t:TypeId)(size:Nat)(F:Nat->Prop)(v:Am)(n:Nat)(xs:List Am):Prop :=
 xs.length=n*size/\((v=A8 Ak 0 0/\n=0)\/∃g cap cur,v=A8 (Aj ⟨g,0,Ak⟩) n cap/\F g/\V.heap[g]?=Aj (Af cur t (0,0))/\n<=cap/\cap<=maxLen/\cur.size=cap*size/\cur.toList.take (n*size)=xs)
def AJ:Nat->Al->(Nat->Prop)->Am->A3->Prop
 |0,_,_,_,_=>False
 |k+1,V,F,v,d=>match d with
  |.nil=>v=Ae 176 (.agg #[])
  |.lit (.bool b)=>v=Ae 252 (Ad b)
  |.lit (.int Ah z)=>v=Ae 254 (A7 Ah z) /\ -9223372036854775808<=z/\z<=9223372036854775807
  |.lit (.string l)=>v=Ae 214 (Aa ⟨l.toArray⟩)
  |.ptr (.lit (.string l))=>∃u,v=Ae 216 u/\C7 V 5 1 F u l.length (l.map B0)
  |.agg ds=>∃u xs,v=Ae 218 u/\C7 V 89 1 F u ds.length xs/\∀(i:Nat) (x:Am) (d:A3),xs[i]?=Aj x->ds[i]?=Aj d->AJ k V F x d
  |.map es=>∃u xs,v=Ae 220 u/\C7 V 222 2 F u es.length xs/\∀(i:Nat) (key:Lit) (d:A3),es[i]?=Aj (key,d)->∃l x,key=.string l/\xs[2*i]?=Aj (Aa ⟨l.toArray⟩)/\xs[2*i+1]?=Aj x/\AJ k V F x d
  |_=>False
theorem C7.same{t:TypeId}(h:C7 V t size F v n xs)(j:∀k,F k->G k)(m:∀k,F k->V'.heap[k]?=V.heap[k]?):C7 V' t size G v n xs:=by
 obtain⟨f,a⟩:=h;refine⟨f,?_⟩;rcases a with a|⟨g,c,d,e,b,l,i⟩
 ·exact .inl a
 exact .inr ⟨g,c,d,e,j g b,(m g b).trans l,i⟩
theorem AJ.same(a:∀k,F k->G k)(b:∀k,F k->V'.heap[k]?=V.heap[k]?):∀{k:Nat} {v:Am} {d:A3},AJ k V F v d->AJ k V' G v d
 |0,_,_,h=>h
 |k+1,v,d,h=>by
  unfold AJ at h ⊢;split at h
  ·exact h
  ·exact h
  ·exact h
  ·exact h
  ·obtain⟨u,e,c⟩:=h;exact⟨u,e,c.same a b⟩
  ·obtain⟨u,j,e,c,g⟩:=h;exact⟨u,j,e,c.same a b,λi x d f q=>AJ.same a b (g i x d f q)⟩
  ·obtain⟨u,j,e,c,g⟩:=h;refine⟨u,j,e,c.same a b,λi key d f=>?_⟩;obtain⟨l,x,m,n,o,p⟩:=g i key d f;exact⟨l,x,m,n,o,AJ.same a b p⟩
  exact h
theorem AJ.more:∀{k m:Nat} {v:Am} {d:A3},k<=m->AJ k V F v d->AJ m V F v d
 |0,_,_,_,_,h=>h.elim
 |k+1,0,_,_,hm,_=>absurd hm (by omega)
 |k+1,m+1,v,d,hm,h=>by
  unfold AJ at h ⊢;split at h
  ·exact h
  ·exact h
  ·exact h
  ·exact h
  ·exact h
  ·obtain⟨u,f,e,c,b⟩:=h;exact⟨u,f,e,c,λi x d a p=>AJ.more (by omega) (b i x d a p)⟩
  ·obtain⟨u,f,e,c,b⟩:=h;refine⟨u,f,e,c,λi key d a=>?_⟩;obtain⟨l,x,g,j,n,o⟩:=b i key d a;exact⟨l,x,g,j,n,AJ.more (by omega) o⟩
  exact h
def CB(Y:Nat->Nat)(x:Int×Int):A4:=AG Y++#[A7 Ah x.1,A7 Ah x.2]
theorem IU{c:Prop}[Decidable c]{A B:Prop}(h:c)(a:A):if c then A else B:=by rw[As h];exact a
theorem js(Y:Nat->Nat)(x:Int×Int)(V:Al):(Instr.buildSlice 121 1 #[(0,.agg (CB Y x))]).run prog V=.ok (A8 (Aj ⟨V.heap.size,0,Ak⟩) 1 1) (V.alloc (Af (CB Y x) 164)):=by kernel_rfl
theorem WZ(x:Operand)(b:o.op=.buildSlice 121 1 #[(0,x)])(Y:Nat->Nat)(z:Int×Int)(c:a.eval x=.agg (CB Y z))(h:K (a.put o.dst (A8 (Aj ⟨w.heap.size,0,Ak⟩) 1 1)) (w.alloc (Af (CB Y z) 164))):o.wp prog a w K Q:=by
 have e:(#[(0,x)].map λ(i,y)=>(i,a.eval y))=#[((0:Nat),Value.agg (CB Y z))]:=by simp[c]
 unfold Oper.wp execOp;simp only[b,D8,e,js,Dl];exact h
theorem X0{P:Program}(s x:Operand)(t:TypeId)(G:o.op=.call {callee:=.builtin .append,args:=#[s,x],argTypes:=#[t,t]})(g:Nat)(e:TypeId)(i:TypeInfo)(z:Am)(size l:Nat)(N:P.underlying t=Aj (.slice e))(hi:P.info? e=Aj i)(R:i.zero=Aj z)(L:i.size=size)(C:i.bytes=l)(S:z.cells.size=size)(M:0<size)(v:Am)(n:Nat)(xs:List Am)(J:a.eval s=v)(H:w.ownsRow g e size v n xs)(k:Addr)(m c:Nat)(d:List Am)(O:a.eval x=A8 (Aj k) m c)(E:d.length=m*size)(F:∀j u,d[j]?=Aj u->w.cell? (k.add j)=Aj u)(p:∀u∈d,u.oneCell'=true)(A:n+m<=maxLen)(D:(n+m)*l<=140737488355328)(B:g<=w.heap.size)(h:∀b f,f.ownsRow g e size b (n+m) (xs++d)->w.grownBy f v.ownBlock->(b.ownBlock=v.ownBlock\/b.ownBlock=Aj w.heap.size)->K (a.put o.dst b) f):o.wp P a w K Q:=by
 obtain⟨b,f,I,q,r,_,y⟩:=run_append_own_at (P:=P) w g t o.type e i z size l N hi R L C S M v n xs H k m c d E F p A D B;unfold Oper.wp execOp;simp only[G,resolve,invoke,builtin,D8,E4,Dl,LC,CT,GJ,J,O,I];exact h b f q r y
theorem NK{e:TypeId}(d:W.ownsRow base e size v n xs){g:Nat}(h:v.ownBlock=Aj g):g<W.heap.size:=by
 rcases d.2 with⟨a,_⟩|⟨b,f,i,a,_,c,_⟩
 ·subst a;cases h
 subst a;have e:b=g:=by simpa[Value.ownBlock]using h
 subst e;exact At c
theorem Tryz.infoSt:(prog.info? 164).map (λi=>(i.zero,i.size,i.bytes))=Aj (Aj (.agg (CB C1 (0,0))),18,48):=by kernel_rfl
theorem X1(Y:Nat->Nat)(x:Int×Int):∀u∈(CB Y x).toList,u.oneCell'=true:=by
 intro u a;simp[CB,AG]at a;rcases a with⟨i,_,rfl⟩|rfl|rfl<;>rfl
theorem BQ.next(h:BQ W0 A q sts sv nf mn mf W)(a:A1 W W'):BQ W0 A q sts sv nf mn mf W':=by
 have b:W.grownBy W' Ak:=⟨a.os,a.tape,a.output,a.size,λi c _=>a.block i c⟩
 obtain⟨e,d,f⟩:=h.takes;exact{h with
  row:=(a.block _ (At h.row)).trans h.row
  below:=h.below.trans (a.mono h.below.size)
  letters:=h.letters.kept b (by simp)
  takes:=⟨e,(a.block _ (At d)).trans d,f⟩
  states:=Sk h.states (λi c=>a.block i c)
  numbers:=h.numbers.kept b (by simp)
  moves:=h.moves.kept b (by simp)}
theorem jt(a:List ((Nat->Nat)×Int×Int))(Y:Nat->Nat)(J:Int×Int):(a++[(Y,J)]).flatMap Jz=a.flatMap Jz++(CB Y J).toList:=by
 simp[Jz,CB]
theorem ju(q:Bi)(b a:Am):(NI q b).setIfInBounds 20 a=NI q a:=rfl
theorem Cn.cell{kt:TypeId}(h:Cn W kt m n f)(A j:Nat)(v:Am)(c:m≠A):Cn (W.setCell ⟨A,j,Ak⟩ v) kt m n f:=by
 obtain⟨D,a,b⟩:=h;exact⟨D,a.setCell (by simpa using c) v,b⟩
theorem Cn.drew{kt:TypeId}(h:Cn W kt m n f):Cn W.drew kt m n f:=h
theorem NL{e:TypeId}(h:W.ownsRow base e size v n xs)(k:∀g,v.ownBlock=Aj g->W'.heap[g]?=W.heap[g]?):W'.ownsRow base e size v n xs:=by
 refine⟨h.1,?_⟩;rcases h.2 with a|⟨b,c,d,a,f,j,i⟩
 ·exact .inl a
 exact .inr ⟨b,c,d,a,f,(k b (by rw[a];rfl)).trans j,i⟩
structure Gw(A:Nat)(q:Bi)(sv:Value)(W W':World):Prop where
 size:W.heap.size<=W'.heap.size
 block:∀i,i<W.heap.size->some i≠sv.ownBlock->i≠A->i≠q.nb->i≠q.mb->W'.heap[i]?=W.heap[i]?
theorem jv{X:Al}(h:BQ W0 A q sts sv nf mn mf X){Y:Nat->Nat}(P:∀r,Y r<512){l:Lit}(v:keyOf prog 119 (.agg (AG Y))=Aj l)(hi:nf l=Ak)(ab:sts.length<100000){w4:Al}(B:w4.ownsRow W0.heap.size 164 18 v' (sts.length+1) (sts.flatMap Jz++(CB Y (Cw q.dflt q.rs Y 0)).toList))(d:X.grownBy w4 sv.ownBlock)(S:v'.ownBlock=sv.ownBlock\/v'.ownBlock=Aj X.heap.size):∃f,(Instr.mapUpdate 115 (.map (Aj q.nb)) (.agg (AG Y)) (A7 Ah sts.length)).run prog (w4.setCell ⟨A,20,Ak⟩ v').drew=.ok () f/\(w4.setCell ⟨A,20,Ak⟩ v').drew.grownBy f (Aj q.nb)/\(∀i,i<X.heap.size->Aj i≠sv.ownBlock->i≠A->i≠q.nb->f.heap[i]?=X.heap[i]?)/\X.heap.size<=f.heap.size/\∃m,BQ W0 A q (sts++[(Y,Cw q.dflt q.rs Y 0)]) v' m mn mf f:=by
 obtain⟨F,H,y,I,a5,J,a7,K,a9,G⟩:=h.apart;obtain⟨u1,u2,u3,u4,u5⟩:=h.high;have U:Aj A≠sv.ownBlock:=λe=>(h.own A e.symm).1 rfl;have V:Aj q.lm≠sv.ownBlock:=λe=>(h.own _ e.symm).2.1 rfl;have nt:Aj q.tb≠sv.ownBlock:=λe=>(h.own _ e.symm).2.2.1 rfl;have Z:Aj q.nb≠sv.ownBlock:=λe=>(h.own _ e.symm).2.2.2.1 rfl;have W:Aj q.mb≠sv.ownBlock:=λe=>(h.own _ e.symm).2.2.2.2 rfl;obtain⟨L,E,t2⟩:=h.takes;have T:=At h.row;have lt:=At E;have ll:=h.letters.lt;have ln:=h.numbers.lt;have lm:=h.moves.lt;have O:=((h.numbers.kept d Z).cell A 20 v' y.symm).drew;obtain⟨f,R,Q,c⟩:=WQ O Sb underlying115 (by omega) v sts.length (by omega);have w:∀g,v'.ownBlock=Aj g->g≠A/\g≠q.lm/\g≠q.tb/\g≠q.nb/\g≠q.mb:=by
  intro g e;rcases S with j|j
  ·exact h.own g (j.symm.trans e)
  rw[j]at e;have e:X.heap.size=g:=by simpa using e
  omega
 have t:∀i,i<X.heap.size->Aj i≠sv.ownBlock->i≠A->i≠q.nb->f.heap[i]?=X.heap[i]?:=by
  intro i h1 p M N;have s4:=Br h1 d.size;have s:(w4.setCell ⟨A,20,Ak⟩ v').drew.heap.size=w4.heap.size:=by simp[World.setCell,World.drew,A1]
  exact(c.block i (by rw[s];exact s4) (by simpa using N)).trans ((Ef w4 _ _ _ (by simpa using M)).trans (d.block i h1 p))
 obtain⟨m,e1,j⟩:∃m:Lit->Option Nat,m l=Aj sts.length/\∀b,b≠l->m b=nf b:=by
  have:=Classical.propDecidable;exact⟨λb=>if b=l then Aj sts.length else nf b,As rfl,λb n=>Aq n⟩
 have D:X.heap.size<=f.heap.size:=by
  have:=d.size;have p:=c.size;have s:(w4.setCell ⟨A,20,Ak⟩ v').drew.heap.size=w4.heap.size:=by simp[World.setCell,World.drew,A1]
  omega
 refine⟨f,R,c,t,D,m,?_⟩;exact{
  row:=by
   have r4:=(d.block A T U).trans h.row;have C:(w4.setCell ⟨A,20,Ak⟩ v').drew.heap[A]?=Aj (Af (NI q v') 123):=by
    have:=DJ w4 A 20 _ _ v' r4;rw[ju]at this;exact this
   exact(c.block A (At C) (by simpa using y)).trans C
  rules:=h.rules
  few:=h.few
  below:=⟨by rw[c.os];exact d.os.trans h.below.os,by rw[c.tape];exact d.tape.trans h.below.tape,by rw[c.output];exact d.output.trans h.below.output,AW h.below.size D,λi hi=>(t i (Br hi h.below.size) (λe=>by have:=IT h.states e.symm;omega) (by omega) (by omega)).trans (h.below.block i hi)⟩
  letters:=(((h.letters.kept d V).cell A 20 v' F.symm).drew).kept c (by simpa using J)
  takes:=⟨L,(t _ lt nt H.symm K).trans E,t2⟩
  states:=by
   rw[jt,AC];refine NL B λg e=>?_;have s:(w4.setCell ⟨A,20,Ak⟩ v').drew.heap.size=w4.heap.size:=by simp[World.setCell,World.drew,A1]
   exact(c.block g (by rw[s];exact NK B e) (by have:=(w g e).2.2.2.1;simpa using this)).trans (Ef w4 _ _ _ (by have:=(w g e).1;simpa using this))
  numbers:=by
   rw[AC];exact Q m e1 j
  moves:=(((h.moves.kept d W).cell A 20 v' I.symm).drew).kept c (by simpa using G.symm)
  high:=h.high
  apart:=h.apart
  own:=w
  bits:=h.bits
  here:=λi x a=>by
   by_cases u:i<sts.length
   ·rw[E3 u]at a;exact h.here i x a
   rw[E2 (by omega)]at a;obtain⟨_,rfl⟩:i-sts.length=0/\(Y,Cw q.dflt q.rs Y 0)=x:=by
    cases o:i-sts.length with
    |zero=>rw[o]at a;exact⟨rfl,by simpa using a⟩
    |succ k=>rw[o]at a;simp at a
   exact⟨rfl,P⟩
  num:=λi x a b z=>by
   by_cases u:i<sts.length
   ·rw[E3 u]at a;have:=h.num i x a b z;rw[j b (λe=>by rw[e,hi]at this;cases this)];exact this
   rw[E2 (by omega)]at a;obtain⟨aa,rfl⟩:i-sts.length=0/\(Y,Cw q.dflt q.rs Y 0)=x:=by
    cases o:i-sts.length with
    |zero=>rw[o]at a;exact⟨rfl,by simpa using a⟩
    |succ k=>rw[o]at a;simp at a
   have e:=CX (z.symm.trans v);rw[e,e1,show i=sts.length by omega]
  num':=λb i n=>by
   by_cases e:b=l
   ·subst e;rw[e1]at n;have e:=CX n;subst e;exact⟨(Y,Cw q.dflt q.rs Y 0),by simp,v⟩
   rw[j b e]at n;obtain⟨x,h1,p⟩:=h.num' b i n;exact⟨x,by rw[E3 (B9 h1)];exact h1,p⟩}
def L8(sv sv':Am)(W:Al):Prop:=sv'.ownBlock=sv.ownBlock\/∃g,sv'.ownBlock=Aj g/\W.heap.size<=g
theorem L8.mono{sv':Am}(h:L8 sv sv' V)(a:W.heap.size<=V.heap.size):L8 sv sv' W:=h.imp id (λ⟨g,e,h⟩=>⟨g,e,AW a h⟩)
theorem jw(v:Al)(A:Nat)(q:Bi)(a:List ((Nat->Nat)×Int×Int))(f:A5)(i:Nat)(x:Lit->Option Nat)(D:Nat)(C:Lit->Option Nat)(W:Al)(h:BQ v A q a (A8 f a.length i) x D C W)(Y:Nat->Nat)(T:∀r,Y r<512)(l:Lit)(X:keyOf prog 119 (.agg (AG Y))=Aj l)(hi:x l=Ak)(az:a.length<100000):An prog 47 #[A9 (Aj ⟨A,0,Ak⟩),.agg (AG Y)] W λe R=>e=.returned (A7 Ah a.length)/\Gw A q (A8 f a.length i) W R/\∃ab ac N,L8 (A8 f a.length i) (A8 ab (a.length+1) ac) W/\BQ v A q (a++[(Y,Cw q.dflt q.rs Y 0)]) (A8 ab (a.length+1) ac) N D C R:=by
 have P:Hid ((W.alloc (Af (AG Y) 119)).heap[W.heap.size]?=Aj (Af (AG Y) 119)):=Ay _ _;have E:Hid (BQ v A q a (A8 f a.length i) x D C (W.alloc (Af (AG Y) 119))):=h.next AH
 have a3:A≠W.heap.size:=by have:=At h.row;omega
 have af:=Ap h.numbers.lt;have ag:Hid (∀g,(Value.slice f a.length i).ownBlock=Aj g->g<W.heap.size):=λg e=>NK h.states e;go_enter func47,ntmps47;go_wp2;have HW:Hid (A1 W (W.alloc (Af (AG Y) 119))):=AH;generalize W.alloc (Af (AG Y) 119)=V at *;refine Cp (S:=λZ=>Z.cell? ⟨A,21,Ak⟩=Aj (.map (Aj q.nb))/\Z.heap[W.heap.size]?=Aj (Af (AG Y) 119)/\Cn Z 119 q.nb a.length x) (⟨Ar E.row 21,P,E.numbers⟩) (by kernel_rfl) ?_;intro b;refine Au 0 10 (A9 (Aj ⟨A,0,Ak⟩)) b ?_;refine Au 1 11 (A9 (Aj ⟨A,0,Ak⟩)) b ?_;refine Au 2 12 (A9 (Aj ⟨A,21,Ak⟩)) b ?_;refine AD 3 13 (.map (Aj q.nb)) rfl (λZ d=>?y3) b ?_
 case y3=>(have z1:=d.1;go_simp)
 refine AD 4 14 (.agg (AG Y)) rfl (λZ d=>?y4) b ?_
 case y4=>exact JA 119 (.tmp 3) rfl W.heap.size rfl _ _ _ _ d.2.1 underlying119 rfl (DU Y)
 refine AD 5 15 (Ab #[A7 Ah 0,Ad false]) rfl (λZ d=>?y5) b ?_
 case y5=>(have z2:=Pn d.2.2 Sb underlying115 X;rw[hi]at z2;go_simp)
 refine Au 6 9 (Ab #[A7 Ah 0,Ad false]) b ?_;refine Au 7 16 (A7 Ah 0) b ?_;refine Au 8 17 (Ad false) b ?_;refine Au 9 5 (A7 Ah 0) b ?_;refine Au 10 6 (Ad false) b ?_;refine Bw ?_;go_simp;have m:=Ap (E.next (AT _ _).drew);have G:Hid ((World.drew V).heap[W.heap.size]?=Aj (Af (AG Y) 119)):=P.out;have Q:=Ap (HW.drew);generalize World.drew V=V1 at *;have al:V1.cell? ⟨A,20,Ak⟩=Aj (A8 f a.length i):=Ar m.row 20;have cJ:=hH V1 A q.ra q.rc q.dflt q.rs Y (λr=>by have:=T r;omega) m.few.1 m.few.2 (At m.row) (Ar m.row 0) (Ar m.row 1) (m.rules.below m.below)
 go_wp2_with(first
  |(go_at_call 78;refine cJ.mono ?_;rintro e k ⟨rfl,M⟩;have F:=Ap (m.next M);have H:=Ap ((M.block _ (At G)).trans G);have y:=Ap (Q.trans (M.mono Q.size));have al:k.cell? ⟨A,20,Ak⟩=Aj (A8 f a.length i):=Ar F.row 20)
  |(refine B3 rfl 119 (.tmp 3) rfl W.heap.size rfl _ _ _ _ G underlying119 rfl (DU Y) ?_))
 obtain⟨si,ay,au,av,aw⟩:=BH Tryz.infoSt;have a2:=At F.row;have s:Hid (BQ v A q a (A8 f a.length i) x D C (k.drew.alloc (Af (CB Y (Cw q.dflt q.rs Y 0)) 164))):=(F.next (AT _ _).drew).next AH
 have w:(λZ:Al=>Z.heap[W.heap.size]?=Aj (Af (AG Y) 119)) (k.drew.alloc (Af (CB Y (Cw q.dflt q.rs Y 0)) 164)):=(AL k.drew _ _ (At H)).trans H;have ah:Hid (∀(j:Nat) (ad:Am),(CB Y (Cw q.dflt q.rs Y 0)).toList[j]?=Aj ad->(k.drew.alloc (Af (CB Y (Cw q.dflt q.rs Y 0)) 164)).cell? ((⟨k.heap.size,0,Ak⟩:Addr).add j)=Aj ad):=Sj k.drew _ _;refine Cp (S:=λZ=>Z.heap[W.heap.size]?=Aj (Af (AG Y) 119)) (H) (by kernel_rfl) ?_;intro b;refine Au 0 31 (A9 (Aj ⟨A,0,Ak⟩)) b ?_;refine Au 1 32 (A9 (Aj ⟨A,0,Ak⟩)) b ?_;refine Au 2 33 (A9 (Aj ⟨A,0,Ak⟩)) b ?_;refine Au 3 34 (A9 (Aj ⟨A,20,Ak⟩)) b ?_;refine AD 5 36 (.agg (AG Y)) rfl (λZ d=>?y5) b ?_
 case y5=>exact JA 119 (.tmp 3) rfl W.heap.size rfl _ _ _ _ d underlying119 rfl (DU Y)
 refine Au 6 37 (A7 Ah (Cw q.dflt q.rs Y 0).1) b ?_;refine Au 7 38 (A7 Ah (Cw q.dflt q.rs Y 0).2) b ?_;refine AD 8 39 (.agg (CB Y (Cw q.dflt q.rs Y 0))) rfl (λZ d=>?y8) b ?_
 case y8=>kernel_rfl
 refine Gm 4 9 (λK c=>?_) (λK c=>?_)
 focus
  go_simp;refine c.out _ _ b (λ_=>?_);refine Bc 9 (λK c=>?_);refine IU (by kernel_rfl) ?_;refine WZ (.tmp 39) rfl Y (Cw q.dflt q.rs Y 0) (by kernel_rfl) ?_;refine c.out _ _ w (λ_=>?_)
 rotate_left
 focus
  refine IU (by kernel_rfl) ?_;refine WZ (.tmp 39) rfl Y (Cw q.dflt q.rs Y 0) (by kernel_rfl) ?_;refine c.out _ _ w (λ_=>?_);refine Bc 4 (λK c=>?_);go_simp;refine c.out _ _ w (λ_=>?_)
 all_goals
  refine Bc 10 (λK c=>?_);refine IU (by kernel_rfl) ?_;refine X0 (.tmp 35) (.tmp 40) 121 rfl v.heap.size 164 si _ 18 48 underlying121 ay au av aw rfl (by decide) (A8 f a.length i) _ _ (by kernel_rfl) s.states ⟨k.heap.size,0,Ak⟩ 1 1 (CB Y (Cw q.dflt q.rs Y 0)).toList (by kernel_rfl) ?hln ah (X1 _ _) (by unfold maxLen;omega) (by omega) s.below.size ?_
  case hln=>simp[CB,AG]
  intro v' n u ar aa;obtain⟨p,o,rfl⟩:=ownsRow_succ u;have aj:=Ap u;have I:=Ap ar;have ak:=Ap aa;have ai:Hid (L8 (A8 f a.length i) (A8 (Aj ⟨p,0,Ak⟩) (a.length+1) o) W):=aa.imp id (λe=>⟨_,e,by have L:=y.size;simp;omega⟩);have an:=At s.row;have J:=Ap ((I.block A an (λe=>(s.own A e.symm).1 rfl)).trans s.row);have z:(λZ:Al=>Z.heap[W.heap.size]?=Aj (Af (AG Y) 119)) n:=(I.block W.heap.size (At w) (λe=>by have:=ag.out _ e.symm;omega)).trans w;have a0:n.cell? ⟨A,20,Ak⟩=Aj (A8 f a.length i):=Ar J 20;have a1:=Cx n A 20 _ _ J;have B:(λZ:Al=>Z.heap[W.heap.size]?=Aj (Af (AG Y) 119)) (n.setCell ⟨A,20,Ak⟩ (A8 (Aj ⟨p,0,Ak⟩) (a.length+1) o)):=(Ef n _ _ _ (by simp;omega)).trans z;refine c.out _ _ z (λ_=>?_);refine Au 11 42 (A9 (Aj ⟨A,0,Ak⟩)) z ?_;refine Au 12 43 (A9 (Aj ⟨A,20,Ak⟩)) z ?_;refine Bc 13 (λK c=>?_);go_simp;refine c.out _ _ B (λ_=>?_);refine Bw ?_;go_simp;obtain⟨w6,a4,aq,ap,ax,N,am⟩:=jv s T X hi az aj I ak;have O:=Ap am;have ae:Hid (Gw A q (A8 f a.length i) W w6):=by
   have s3:k.heap.size<=(k.drew.alloc (Af (CB Y (Cw q.dflt q.rs Y 0)) 164)).heap.size:=by rw[AM];exact LN _
   refine⟨AW y.size (AW s3 ax),λj L h2 h3 h4 _=>?_⟩;have U:=Br L y.size;exact(ap j (Br U s3) h2 h3 h4).trans ((AL k.drew _ _ U).trans (y.block j L))
  have t:(λZ:Al=>Z.cell? ⟨A,21,Ak⟩=Aj (.map (Aj q.nb))/\Z.heap[W.heap.size]?=Aj (Af (AG Y) 119)) { (n.setCell ⟨A,20,Ak⟩ (A8 (Aj ⟨p,0,Ak⟩) (a.length+1) o))with drawn:=(n.setCell ⟨A,20,Ak⟩ (A8 (Aj ⟨p,0,Ak⟩) (a.length+1) o)).drawn+1}:=⟨by have h:=DJ n A 20 _ _ (A8 (Aj ⟨p,0,Ak⟩) (a.length+1) o) J;exact Ar h 21,B⟩
  have ao:(λZ:Al=>Z.cell? ⟨A,21,Ak⟩=Aj (.map (Aj q.nb))/\Z.heap[W.heap.size]?=Aj (Af (AG Y) 119)) w6:=⟨Ar O.row 21,(aq.block W.heap.size (At B) (by have:=af.out;simp;omega)).trans B⟩
  generalize n.setCell ⟨A,20,Ak⟩ (A8 (Aj ⟨p,0,Ak⟩) (a.length+1) o)=V5 at *;go_wp2;refine Dr (S:=λZ=>Z.cell? ⟨A,21,Ak⟩=Aj (.map (Aj q.nb))/\Z.heap[W.heap.size]?=Aj (Af (AG Y) 119)) (by kernel_rfl) ?_;refine Au 0 44 (A9 (Aj ⟨A,0,Ak⟩)) t ?_;refine Au 1 45 (A9 (Aj ⟨A,0,Ak⟩)) t ?_;refine Au 2 46 (A9 (Aj ⟨A,21,Ak⟩)) t ?_;refine AD 3 47 (.map (Aj q.nb)) rfl (λZ d=>?y3) t ?_
  case y3=>(have z1:=d.1;go_simp)
  refine AD 4 48 (.agg (AG Y)) rfl (λZ d=>?y4) t ?_
  case y4=>exact JA 119 (.tmp 3) rfl W.heap.size rfl _ _ _ _ d.2 underlying119 rfl (DU Y)
  refine Au 5 49 (A7 Ah a.length) t ?_;refine Bc 6 (λK c=>?_);go_simp;refine c.out _ _ ao (λ_=>?_);refine Bw ?_;go_simp;go_wp2;go_ret;exact⟨rfl,ae,Aj ⟨p,0,Ak⟩,o,N,ai,O⟩
def jx(W0:Al)(A:Nat)(q:Bi)(sts:List ((Nat->Nat)×Int×Int))(sv:Am)(mn:Nat)(mf:Lit->Option Nat)(Y:Nat->Nat)(W:Al)(e:Ending)(W':Al):Prop :=
 ∃(i:Nat) (sts':List ((Nat->Nat)×Int×Int)) (sa':A5) (sc':Nat) (nf':Lit->Option Nat),e=.returned (A7 Ah i)/\Gw A q sv W W'/\L8 sv (A8 sa' sts'.length sc') W/\BQ W0 A q sts' (A8 sa' sts'.length sc') nf' mn mf W'/\(∀(j:Nat) (x:(Nat->Nat)×Int×Int),sts[j]?=Aj x->sts'[j]?=Aj x)/\sts'.length<=sts.length+1/\∃x,sts'[i]?=Aj x/\∀r,r<16->x.1 r=Y r
theorem X4(c:Al)(A:Nat)(q:Bi)(a:List ((Nat->Nat)×Int×Int))(k:A5)(m:Nat)(b:Lit->Option Nat)(g:Nat)(f:Lit->Option Nat)(W:Al)(h:BQ c A q a (A8 k a.length m) b g f W)(Y:Nat->Nat)(s:∀r,Y r<512)(z:a.length<100000):An prog 47 #[A9 (Aj ⟨A,0,Ak⟩),.agg (AG Y)] W (jx c A q a (A8 k a.length m) g f Y W):=by
 obtain⟨l,p⟩:=S8 Y (λr=>by have:=s r;omega)
 cases o:b l with
 |some i =>
  refine(iV c A q a _ b g f W h Y l p i o).mono ?_;rintro e t ⟨rfl,n⟩;obtain⟨x,B,y⟩:=h.num' l i o;exact⟨i,a,k,m,b,rfl,⟨n.size,λj d _ _ _ _=>n.block j d⟩,.inl rfl,h.next n,λ_ _ w=>w,LN _,x,B,WI (Value.agg.inj (S7.inj y p))⟩
 |none =>
  refine(jw c A q a k m b g f W h Y s l p o z).mono ?_;rintro e t ⟨rfl,hF,D,E,C,v,u⟩;refine⟨a.length,a++[(Y,Cw q.dflt q.rs Y 0)],D,E,C,rfl,hF,?_,?_,λj x d=>?_,?_,(Y,Cw q.dflt q.rs Y 0),by simp,λ_ _=>rfl⟩
  ·rw[AC];exact v
  ·rw[AC];exact u
  ·rw[E3 (B9 d)];exact d
  rw[AC];exact AB _
theorem JE:Maps.Keyed prog 9:=MT underlying9
theorem Sn(l:A2)(a:l.length<=maxLen):keyOf prog 9 (Aa ⟨l.toArray⟩)=Aj (.string l):=by
 have b:(⟨l.toArray⟩:ByteArray).size<=maxLen:=by
  show l.toArray.size<=maxLen;rw[FY];exact a
 simp[keyOf,mapKey,underlying9,b]
theorem Pw(l:A2)(a:l.length<=1000000000):keyOf prog 9 (Aa ⟨l.toArray⟩)=Aj (.string l):=Sn l (by unfold maxLen;omega)
def Gx(lf:Lit->Option Nat)(key:A2)(ix:Bool):Nat:=if ix=true then 1 else(lf (.string key)).getD 0
theorem X8(l:Al)(A:Nat)(q:Bi)(s:List ((Nat->Nat)×Int×Int))(t:Am)(r:Lit->Option Nat)(o:Nat)(n:Lit->Option Nat)(W:Al)(h:BQ l A q s t r o n W)(key:A2)(c:Bool)(f:key.length<=maxLen):An prog 176 #[A9 (Aj ⟨A,0,Ak⟩),.agg #[Aa ⟨key.toArray⟩,Ad c]] W λe k=>e=.returned (A7 Ah (Gx q.lf key c))/\A1 W k:=by
 have m:=At h.row;have c2:W.cell? ⟨A,2,Ak⟩=Aj (.map (Aj q.lm)):=Ar h.row 2;have d:Hid (Cn (W.alloc (Af #[Aa ⟨key.toArray⟩,Ad c] 277)) 9 q.lm q.ln q.lf):=h.letters.kept (Hh W _ Ak) (by simp);have v:=NH d JE underlying114 (Sn key f)
 cases c with
 |true =>
  go_enter func176,ntmps176;go_wp2;go_ret;exact⟨rfl,AH⟩
 |false =>
  obtain⟨x,g⟩:∃x,x=(q.lf (.string key)).getD 0:=⟨_,rfl⟩
  have j:Hid (Gx q.lf key false=x):=by rw[g];rfl
  have i:=Ap g.symm;rw[j.out];go_enter func176,ntmps176;go_wp2;have a:(λZ:Al=>Z.cell? ⟨A,2,Ak⟩=Aj (.map (Aj q.lm))/\Z.cell? ⟨W.heap.size,0,Ak⟩=Aj (Aa ⟨key.toArray⟩)/\Cn Z 9 q.lm q.ln q.lf) { (W.alloc (Af #[Aa ⟨key.toArray⟩,Ad false] 277))with drawn:=(W.alloc (Af #[Aa ⟨key.toArray⟩,Ad false] 277)).drawn+1}:=⟨((((AT W.heap.size W).alloc (AB _) (Af #[Aa ⟨key.toArray⟩,Ad false] 277)).cell (p:=⟨A,2,Ak⟩) m).trans c2 :),Ar (Ay W _) 0,d⟩
  refine Dr (S:=λZ=>Z.cell? ⟨A,2,Ak⟩=Aj (.map (Aj q.lm))/\Z.cell? ⟨W.heap.size,0,Ak⟩=Aj (Aa ⟨key.toArray⟩)/\Cn Z 9 q.lm q.ln q.lf) (by kernel_rfl) ?_;refine Au 0 7 (A9 (Aj ⟨A,0,Ak⟩)) a ?_;refine Au 1 8 (A9 (Aj ⟨A,0,Ak⟩)) a ?_;refine Au 2 9 (A9 (Aj ⟨A,2,Ak⟩)) a ?_;refine AD 3 10 (.map (Aj q.lm)) rfl (λZ b=>?y3) a ?_
  case y3=>(have w:=b.1;go_simp)
  refine Au 4 11 (A9 (Aj ⟨W.heap.size,0,Ak⟩)) a ?_;refine AD 5 12 (Aa ⟨key.toArray⟩) rfl (λZ b=>?y5) a ?_
  case y5=>(have y:=b.2.1;go_simp)
  refine AD 6 13 (A7 Ah x) rfl (λZ b=>?y6) a ?_
  case y6=>(have u:=NH b.2.2 JE underlying114 (Sn key f);rw[i.out]at u;go_simp)
  refine Au 7 4 (A7 Ah x) a ?_;refine Bw ?_;go_simp;go_wp2;go_ret;exact⟨rfl,(AH).drew⟩
end
section
open Go.RowKit Go.Shelf
theorem jI{B:Nat}{a:Al}(h:Below B a w)(n:Nat):Below B a (w.drewN n):=h.trans ⟨rfl,rfl,rfl,AB _,λ_ _=>rfl⟩
theorem NO:(prog.info? 153).map (·.size)=Aj 3:=by kernel_rfl
theorem Xi(s:ByteArray)(k:s.size<=2000):∃(p r:ByteArray) (b:Bool),p.data.toList=(Lib.cut s.data.toList [32]).1/\r.data.toList=(Lib.cut s.data.toList [32]).2.1/\p.size<=2000/\r.size<=2000 /\
  ∀w,Gq w->An prog 100 #[.string s,Aa ⟨#[32]⟩] w λe d=>e=.returned (Ab #[.string p,.string r,Ad b])/\A1 w d:=by
 have j:s.data.toList.length=s.size:=DB;have c:(Lib.cut s.data.toList [32]).1.length<=2000/\(Lib.cut s.data.toList [32]).2.1.length<=2000:=by
  rcases JD 32 s.data.toList with⟨h,_⟩|⟨a,r,h,f,_⟩
  ·rw[h];simp;omega
  have:=congrArg List.length f;rw[AC,Bq]at this;rw[h];simp;omega
 refine⟨⟨(Lib.cut s.data.toList [32]).1.toArray⟩,⟨(Lib.cut s.data.toList [32]).2.1.toArray⟩,(Lib.cut s.data.toList [32]).2.2,by simp,by simp,c.1,c.2,λw g=>?_⟩;obtain⟨m,i⟩:=g.mlen;refine(Tryz.strings_Cut s ⟨#[32]⟩ m w (by omega) i).mono ?_;rintro e d ⟨rfl,n,rfl⟩;exact⟨rfl,jI Bb n⟩
structure Pz(w:World)(W:World):Prop where
 below:A1 w W
 res:W.heap[w.heap.size]?=some (.cells C2 153)
theorem Pz.step(h:Pz w W)(a:A1 W W'):Pz w W' :=
 ⟨h.below.trans (a.mono h.below.size),(a.block _ (At h.res)).trans h.res⟩
theorem jJ(w:Al):Pz w (w.alloc (Af C2 153)):=⟨AH,Ay _ _⟩
end
section
open Go.RowKit
def Dj(l:A2):Nat×A2:=if l==[42]then(0,[])else if l==[42,42]then(1,[])else if l==[91,93]then(2,[])else(3,l)
def En(s:Nat×A2):List Am:=[A7 Ah s.1,Aa ⟨s.2.toArray⟩]
def Fk(l:A2):List A2:=if l==[46]then[]else B8 47 l
def Cf(l:A2):List A2×Int×Int:=match B8 32 l with
 |[p,b,c]=>(Fk p,IJ b,CZ ⟨c.toArray⟩)
 |_=>([],0,0)
def BR(l:A2):List (List A2×Int×Int):=if l.length=0 then[]else(B8 10 l).map Cf
def BZ(r:List A2×Int×Int):List (Nat×A2)×Int×Int:=(r.1.map Dj,r.2)
theorem kO(l:A2):(Dj l).1<=3:=by
 unfold Dj;split
 ·exact Cy _
 split
 ·show(1:Nat)<=3;omega
 split
 ·show(2:Nat)<=3;omega
 exact AB _
theorem kP(l:A2):(Dj l).2.length<=l.length:=by
 unfold Dj;split
 ·simp
 split
 ·simp
 split
 ·simp
 exact AB _
theorem XA(h:BA n l=true):B8 32 l=[(Lib.cut l [32]).1,(Lib.cut (Lib.cut l [32]).2.1 [32]).1,(Lib.cut (Lib.cut l [32]).2.1 [32]).2.1]:=by
 rw[<-X7]at h;unfold Pv at h;rcases JD 32 l with⟨f,j⟩|⟨a,r,f,_,j⟩
 ·rw[f]at h;rcases JD 32 []with⟨c,g⟩|⟨a,r,_,c,_⟩
  ·simp[c,EO]at h
  simp at c
 rw[f]at h ⊢;rw[j];rcases JD 32 r with⟨c,g⟩|⟨b,q,c,_,g⟩
 ·rw[c]at h;have:CZ ⟨([]:A2).toArray⟩=0:=by rw[Sm];rfl
  simp[this]at h
 rw[c]at h ⊢;rw[g];rcases JD 32 q with⟨k,i⟩|⟨d,e,k,i,m⟩
 ·rw[i]
 rw[i]at h;simp[X6]at h
theorem XB{p b c:A2}(h:B8 32 l=[p,b,c]):Cf l=(Fk p,IJ b,CZ ⟨c.toArray⟩):=by
 unfold Cf;rw[h]
def AA(W:Al)(lo:Nat)(t:TypeId)(pa:A5)(cs:List Am):Prop :=
 cs=[]\/∃b off cur fr,pa=Aj ⟨b,off,Ak⟩/\lo<=b/\W.heap[b]?=Aj (Af cur t fr)/\∀j (h:j<cs.length),cur[off+j]?=Aj cs[j]
theorem AA.kept{t:TypeId}(h:AA W lo t pa cs)(i:∀b a c,lo<=b->W.heap[b]?=Aj (Af a t c)->lo'<=b/\W'.heap[b]?=Aj (Af a t c)):AA W' lo' t pa cs:=by
 rcases h with h|⟨b,off,a,c,d,e,f,g⟩
 ·exact .inl h
 obtain⟨j,k⟩:=i b a c e f;exact .inr ⟨b,off,a,c,d,j,k,g⟩
theorem AA.below{t:TypeId}(h:AA W lo t pa cs)(d:A1 W W'):AA W' lo t pa cs :=
 h.kept λb _ _ c a=>⟨c,(d.block b (At a)).trans a⟩
theorem kQ{e:TypeId}(h:W.ownsRow base e size v n xs)(p:lo<=base):∃f c,v=A8 f n c/\AA W lo e f xs:=by
 obtain⟨o,⟨b,d⟩|⟨g,c,i,b,d,k,_,_,_,l⟩⟩:=h
 ·subst d;exact⟨Ak,0,b,.inl (JU (by omega))⟩
 refine⟨_,_,b,.inr ⟨g,0,i,_,rfl,by omega,k,λj m=>?_⟩⟩;have a:=congrArg (·[j]?) l;simp only[MS]at a;rw[As (by omega),AY m]at a;rw[Df];simpa using a
def Fl(W:Al)(lo:Nat)(t:TypeId)(xs:List Am)(es:List (List Am×Nat×Int×Int)):Prop :=
 xs.length=es.length*3/\∀i (h:i<es.length),∃pa pc,xs[i*3]?=Aj (A8 pa es[i].2.1 pc)/\xs[i*3+1]?=Aj (A7 Ah es[i].2.2.1)/\xs[i*3+2]?=Aj (A7 Ah es[i].2.2.2)/\AA W lo t pa es[i].1
theorem XC(W:Al)(lo:Nat)(t:TypeId):Fl W lo t [] []:=⟨rfl,λi h=>by simp at h⟩
theorem Fl.kept{t:TypeId}(h:Fl W lo t xs es)(k:∀b a c,lo<=b->W.heap[b]?=Aj (Af a t c)->lo'<=b/\W'.heap[b]?=Aj (Af a t c)):Fl W' lo' t xs es:=by
 refine⟨h.1,λi j=>?_⟩;obtain⟨l,m,d,e,f,g⟩:=h.2 i j;exact⟨l,m,d,e,f,g.kept k⟩
theorem Fl.below{t:TypeId}(h:Fl W lo t xs es)(d:A1 W W'):Fl W' lo t xs es :=
 h.kept λb _ _ c a=>⟨c,(d.block b (At a)).trans a⟩
theorem Fl.push{t:TypeId}(h:Fl W lo t xs es){e:List Am×Nat×Int×Int}{pc:Nat}(j:AA W lo t pa e.1):Fl W lo t (xs++[A8 pa e.2.1 pc,A7 Ah e.2.2.1,A7 Ah e.2.2.2]) (es++[e]):=by
 have a:=h.1;refine⟨by simp[a];omega,λi k=>?_⟩;by_cases b:i<es.length
 ·obtain⟨m,n,c,d,f,g⟩:=h.2 i b;rw[List.getElem_append_left b];refine⟨m,n,?_,?_,?_,g⟩
  ·rw[E3 (by omega)];exact c
  ·rw[E3 (by omega)];exact d
  rw[E3 (by omega)];exact f
 have l:i=es.length:=by simp at k;omega
 subst l;rw[List.getElem_append_right (AB _)];simp only[Nc,List.getElem_cons_zero];refine⟨pa,pc,?_,?_,?_,j⟩
 ·rw[E2 (by omega),a,Nc];rfl
 ·rw[E2 (by omega),a,show es.length*3+1-es.length*3=1 by omega];rfl
 rw[E2 (by omega),a,show es.length*3+2-es.length*3=2 by omega];rfl
theorem XD:∀(ss:List (Nat×A2)) (j:Nat) (h:j<ss.length),(ss.flatMap En)[j*2]?=Aj (A7 Ah ss[j].1)/\(ss.flatMap En)[j*2+1]?=Aj (Aa ⟨ss[j].2.toArray⟩)
 |x::ss,0,_=>⟨rfl,rfl⟩
 |x::ss,j+1,h=>by
  have a:=XD ss j (by simpa using h);rw[LA,show(j+1)*2=j*2+2 by omega];exact a
theorem kR(a:List (Nat×A2)):(a.flatMap En).length=a.length*2:=by
 induction a with
 |nil=>rfl
 |cons x a b =>
  rw[LA,AC,b,Bq];show 2+_=_;omega
def Gb(r:List (Nat×A2)×Int×Int):List Am×Nat×Int×Int:=(r.1.flatMap En,r.1.length,r.2.1,r.2.2)
theorem kS{t:TypeId}{ss:List (Nat×A2)}(h:AA W lo t pa (ss.flatMap En)):L1 W pa ss:=by
 refine⟨λi n=>?_⟩;have j:=kR ss;rcases h with h|⟨b,off,e,f,m,o,a,g⟩
 ·rw[h]at j;simp at j;omega
 obtain⟨k,l⟩:=XD ss i n;have c:=g (i*2) (by omega);have d:=g (i*2+1) (by omega);rw[<-AY]at c d;refine⟨b,off,m,(At a),?_,?_⟩
 ·rw[DL W b _ e _ f a,c,k]
 rw[Nat.add_assoc,DL W b _ e _ f a,d,l]
theorem kT{t:TypeId}{rs:List (List (Nat×A2)×Int×Int)}(h:W.ownsRow base 153 3 v rs.length xs)(w:Fl W lo t xs (rs.map Gb)):∃a e,v=A8 a rs.length e/\G5 W a rs:=by
 obtain⟨z,⟨c,f⟩|⟨g,e,q,c,f,k,_,_,_,s⟩⟩:=h
 ·exact⟨Ak,0,by rw[c,f],⟨λi d=>by omega⟩⟩
 refine⟨_,_,c,⟨λi d=>?_⟩⟩;obtain⟨x,y,m,n,o,p⟩:=w.2 i (by simpa using d);have key:∀j u,xs[j]?=Aj u->W.cell? ⟨g,0+j,Ak⟩=Aj u:=by
  intro j u l;have A:=B9 l;have b:=congrArg (·[j]?) s;simp only[MS]at b;rw[As (by omega),l]at b;rw[Df,DL W g j q _ _ k];simpa using b
 have r:(rs.map Gb)[i]'(by simpa using d)=Gb rs[i]:=by simp
 rw[r]at m n o p;exact⟨g,0,x,y,rfl,(At k),key _ _ m,by have:=key _ _ n;rwa[Df]at this ⊢,by have:=key _ _ o;rwa[Df]at this ⊢,kS p⟩
end
section
open Go.RowKit Go.Shelf
section
attribute[local go_sem] Oper.semAt_some
structure ET(w:World)(pre:List Ca)(W:World):Prop where
 below:A1 w W
 r0:Boxed W w.heap.size 151 (.slice none 0 0)
 r1:Boxed W (w.heap.size+1) 4 (.bool false)
 pat:∃ao cap xs,Boxed W (w.heap.size+2) 151 (.slice ao pre.length cap)/\W.ownsRow (w.heap.size+6) 158 2 (.slice ao pre.length cap) pre.length xs/\Hid (xs=pre.flatMap λx=>En (Dj (AV x)))
 le:pre.length<=8
 all:pre.all (λx=>DV (AV x))=true
 size:w.heap.size+6<=W.heap.size
theorem ET.own{row:Nat}(h:ET w pre W)(a:W.grownBy W' (Aj row))(c:row=w.heap.size+3\/(w.heap.size+6<=row/\∃o,W.heap[row]?=Aj o/\o.isCells=false)):ET w pre W':=by
 obtain⟨g,j,q,n,d,p⟩:=h.pat;refine⟨h.below.trans ⟨a.os,a.tape,a.output,a.size,λi v=>a.block i (by have:=h.size;omega) (by intro e;cases e;omega)⟩,h.r0.kept a (by intro e;cases e;omega),h.r1.kept a (by intro e;cases e;omega),⟨g,j,q,n.kept a (by intro e;cases e;omega),d.kept a ?_,p⟩,h.le,h.all,AW h.size a.size⟩;rcases d.2 with⟨b,_⟩|⟨k,r,s,b,u,m,_⟩
 ·left;rw[b];rfl
 right;rw[b];intro e;cases e;rcases c with c|⟨_,o,f,l⟩
 ·have t:k=w.heap.size+3:=c;omega
 rw[m]at f;cases f;cases l
theorem ET.out{post:List Ca}(h:ET w pre W)(a:8<post.length\/post.all (λx=>DV (AV x))=false):NJ w post .ret ((W.setCell ⟨w.heap.size,0,Ak⟩ (A8 Ak 0 0)).setCell ⟨w.heap.size+1,0,Ak⟩ (Ad false)):=by
 have b:=Tr.set w.heap.size (w.heap.size+3) W w.heap.size (A8 Ak 0 0) (AB _) (by omega);have c:=Tr.set w.heap.size (w.heap.size+3) (W.setCell ⟨w.heap.size,0,Ak⟩ (A8 Ak 0 0)) (w.heap.size+1) (Ad false) (by omega) (by omega);refine⟨rfl,h.below.trans (b.trans c).below,?_,?_,a,?_⟩
 ·exact(h.r0.set _).kept (grownBy_setCell' _ _ _) (by intro e;injection e with e;omega)
 ·exact Boxed.set _ (h.r1.kept (grownBy_setCell' _ _ _) (by intro e;injection e with e;omega))
 simp[World.setCell];exact h.size
theorem ET.alloc(h:ET w pre W)(o:Obj):ET w pre (W.alloc o):=h.own (Hh W o (Aj (w.heap.size+3))) (.inl rfl)
theorem ET.belowS(h:ET w pre W)(a:A1 W W'):ET w pre W' :=
 h.own (row:=w.heap.size+3) ⟨a.os,a.tape,a.output,a.size,λi b _=>a.block i b⟩ (.inl rfl)
theorem kU(w:Al)(s:ByteArray)(a:Al)(b:((((((w.alloc (Af #[A8 Ak 0 0] 151)).alloc (Af #[Ad false] 4)).alloc (Af #[A8 Ak 0 0] 151)).alloc (Af #[.string s] 9)).alloc (Af #[Aa ⟨#[47]⟩] 9)).alloc (Af #[A7 Ah 0] 3))=a):ET w [] a:=by
 subst b;refine⟨?_,?_,?_,⟨Ak,0,[],?_,FK _ _ _ _,rfl⟩,Cy _,rfl,by simp⟩
 ·exact(((((AH).alloc (by simp) _).alloc (by simp;omega) _).alloc (by simp;omega) _).alloc (by simp;omega) _).alloc (by simp;omega) _
 ·exact(((((Boxed.new w _ _).alloc _).alloc _).alloc _).alloc _).alloc _
 ·have:=Boxed.new (w.alloc (Af #[A8 Ak 0 0] 151)) 4 (Ad false);rw[AM]at this;exact(((this.alloc _).alloc _).alloc _).alloc _
 have:=Boxed.new ((w.alloc (Af #[A8 Ak 0 0] 151)).alloc (Af #[Ad false] 4)) 151 (A8 Ak 0 0);rw[AM,AM]at this;exact((this.alloc _).alloc _).alloc _
theorem SC{i:Nat}(hi:i<3)(h:(x.1.toList==G7 i)=true):En (Dj (AV x))=[A7 Ah (i:Nat),Aa ⟨#[]⟩]:=by
 have e:AV x=G7 i:=by unfold AV;rw[<-EJ];exact KM h
 rw[e]
 match i,hi with
 |0,_=>rfl
 |1,_=>rfl
 |2,_=>rfl
theorem kV(h:∀i,i<3->(x.1.toList==G7 i)=false):En (Dj (AV x))=[A7 Ah 3,.string x.1]:=by
 have e:AV x=x.1.toList:=by unfold AV;rw[<-EJ]
 have a:=h 0 (by omega);have b:=h 1 (by omega);have c:=h 2 (by omega);simp only[G7]at a b c;have d:Dj (AV x)=(3,AV x):=by
  unfold Dj;rw[e,a,b,c];simp
 rw[d];unfold En AV;rw[Pr];rfl
def kX(s:ByteArray)(w:Al)(e:Ending)(w':Al):Prop :=
 ∃a n cap,e=.returned (Ab #[A8 a n cap,Ad (Dh s.data.toList)])/\A1 w w'/\(Dh s.data.toList=true->n=(Fk s.data.toList).length/\AA w' w.heap.size 158 a (((Fk s.data.toList).map Dj).flatMap En))
theorem kY{s:ByteArray}{hs:s.size<=2000}{xs:List Ca}{ao:A5}{cap D:Nat}(m:(s.toList==[46])=false)(h:xs.map AV=B8 47 (AV ⟨s,hs⟩))(p:W.ownsRow (w.heap.size+6) 158 2 (A8 ao xs.length cap) xs.length ys)(r:ys=xs.flatMap λx=>En (Dj (AV x)))(i:W.heap[D]?=Aj (.deferred (Aj [])))(k:∀j,w.heap.size+6<=j->V.heap[j]?=W.heap[j]?):xs.length=(Fk s.data.toList).length/\AA (V.putObj D (.deferred Ak)) w.heap.size 158 ao (((Fk s.data.toList).map Dj).flatMap En):=by
 have q:Fk s.data.toList=xs.map AV:=by
  unfold Fk;rw[<-EJ,m,EJ];exact h.symm
 obtain⟨y,t,n,l⟩:=kQ (lo:=w.heap.size+6) p (AB _);injection n with he1 _ he3;subst he1;rw[q,De];refine⟨rfl,?_⟩;rw[Na,List.flatMap_map];have e:ys=xs.flatMap λa=>En ((Dj∘AV) a):=r;rw[<-e];refine l.kept λb u v f c=>⟨by omega,?_⟩
 have o:b≠D:=by
  rintro rfl;rw[i]at c;cases c
 have:=grownBy_putObj' V D (.deferred Ak);have d:=k b f;rw[this.block b (by have g:=(d.trans c);exact At g) (by simpa using o),d];exact c
theorem ET.push(x:Ca)(h:ET w pre W)(k:Boxed W (w.heap.size+2) 151 v)(i:W.ownsRow (w.heap.size+6) 158 2 v pre.length xs)(c:w5.ownsRow (w.heap.size+6) 158 2 v' (pre.length+1) ys)(a:W.grownBy w5 v.ownBlock)(p:pre.length<8)(m:DV (AV x)=true)(n:Hid (xs=pre.flatMap λx=>En (Dj (AV x))))(o:ys=xs++En (Dj (AV x))):ET w (pre++[x]) (w5.setCell ⟨w.heap.size+1+1,0,Ak⟩ v')/\Tr w.heap.size (w.heap.size+3) W (w5.setCell ⟨w.heap.size+1+1,0,Ak⟩ v'):=by
 have key:=λg h=>IT i (g:=g) h;have d:Tr w.heap.size (w.heap.size+3) W w5:=Tr.grown i a h.size (by omega) (by omega);have f:=Tr.set w.heap.size (w.heap.size+3) w5 (w.heap.size+2) v' (by omega) (by omega);have b:=grownBy_setCell' w5 (w.heap.size+2) v';have l:=k.kept a (λe=>by have:=key _ e.symm;omega);obtain⟨g,j,rfl⟩:=ownsRow_succ c;refine⟨⟨h.below.trans (d.trans f).below,?_,?_,⟨Aj ⟨g,0,Ak⟩,j,ys,?_,?_,?hy⟩,?_,?_,?_⟩,d.trans f⟩
 case hy =>
  show ys=_;rw[o,n.out,JW];simp
 ·exact(h.r0.kept a (λe=>by have:=key _ e.symm;omega)).kept b (by intro e;injection e with e;omega)
 ·exact(h.r1.kept a (λe=>by have:=key _ e.symm;omega)).kept b (by intro e;injection e with e;omega)
 ·rw[AC];exact l.set _
 ·rw[AC];refine c.kept b (.inr (λe=>?_));have:=IT c e;omega
 ·rw[AC];simp;omega
 ·rw[LE,h.all];simp[m]
 exact AW h.size (d.trans f).below.size
theorem PG(h:ET w pre V)(b:Tr w.heap.size (w.heap.size+3) W V)(g:Boxed V (w.heap.size+2) 151 v)(e:V.ownsRow (w.heap.size+6) 158 2 v pre.length xs)(f:w5.ownsRow (w.heap.size+6) 158 2 v' (pre.length+1) ys)(d:V.grownBy w5 v.ownBlock)(l:¬(pre.length:Int)=8)(i:DV (AV x)=true)(j:Hid (xs=pre.flatMap λx=>En (Dj (AV x))))(k:ys=xs++En (Dj (AV x))):KeepsOthers W (w5.setCell ⟨w.heap.size+1+1,0,Ak⟩ v')/\Em (w.heap.size+3) (w.heap.size+3+3) W (w5.setCell ⟨w.heap.size+1+1,0,Ak⟩ v')/\ET w (pre++[x]) (w5.setCell ⟨w.heap.size+1+1,0,Ak⟩ v'):=by
 obtain⟨c,a⟩:=h.push x g e f d (by have:=h.le;omega) i j k;exact⟨(b.trans a).keep,(b.trans a).mid,c⟩
theorem kZ(s:ByteArray)(w:World)(hs:s.size<=2000)(bd:Gq w):Calls prog 101 #[.string s] w λe w'=>kX s w e w':=by
 obtain⟨i0,hi,af,ag,ah⟩:=BH Tryz.infoSeg;cases hd:(s.toList==[46])
 ·have HG:=Ap bd;have HD:=Ap hd;refine(Hm (n:=10)).1 ?_;refine callsIn_of_wp_marks func101 rfl trivial ?_ rfl;simp only[ntmps101,FY,Bq,CF,Nat.reduceAdd,Nat.reduceSub,Lv,Lw,LB,Lx,Jd,I8]
  gi_wp2
  refine OM.2 (Uy ((OM (n:=10)).1 ?_))
  gi_wp2_with fail
  refine wpIn_label ?_
  gi_wp2_with fail
  refine⟨trivial,(Hm.2 (WV s ⟨#[47]⟩ _)).mono ?_⟩;rintro e w' ⟨rfl,rfl⟩;simp only[AM,A1]
  gi_wp2
  obtain⟨Q,ae⟩:∃Q,((((((w.alloc (.cells #[.slice none 0 0] 151)).alloc (.cells #[.bool false] 4)).alloc (.cells #[.slice none 0 0] 151)).alloc (.cells #[.string s] 9)).alloc (.cells #[.string ⟨#[47]⟩] 9)).alloc (.cells #[.int .i64 0] 3))=Q:=⟨_,rfl⟩
  have bo:Q.heap.size=w.heap.size+6:=by rw[<-ae];simp
  have bc:=kU w s Q ae;have ba:=ji w s Q ae;rw[ae];refine WU rfl (by omega) (gf:=126) (lb:=#[.pointer (some ⟨w.heap.size+1+1+1+1,0,none⟩),.pointer (some ⟨w.heap.size+1+1+1,0,none⟩),.pointer (some ⟨w.heap.size+1+1+1+1+1,0,none⟩)]) rfl trivial (enters_of func126 (by kernel_rfl) rfl)
   (st:=w.heap.size+3) (by omega) (lo:=w.heap.size+3) (hi:=w.heap.size+3+3) (by omega) (WX 9 (w.heap.size+3) 47 ⟨s,hs⟩ Q ba) Bb (λx=>rfl)
   (λpre W=>ET w pre W) (λab pre W=>NJ w pre ab W)
   (λpre A a1 h M=>h.own M (.inl rfl)) (λab pre A a1 h M=>h.own M (by omega))
   (λpre A ar o o' h hB hk hc=>h.own (grownBy_putObj' A ar o') (.inr ⟨by omega,o,hk,hc⟩)) (λab pre A ar o o' h hB hk hc=>h.own (grownBy_putObj' A ar o') (by omega))
   bc
   (λx=>{tmps:=#[.string s,undef,.pointer (some ⟨w.heap.size,0,none⟩),.pointer (some ⟨w.heap.size+1,0,none⟩),.pointer (some ⟨w.heap.size+1+1,0,none⟩),.string x.1,undef,undef,.string s,.bool false,.string s,.func (.func 126) #[] #[.pointer (some ⟨w.heap.size+1+1+1+1,0,none⟩),.pointer (some ⟨w.heap.size+1+1+1,0,none⟩),.pointer (some ⟨w.heap.size+1+1+1+1+1,0,none⟩)],.string x.1,undef,undef,undef,undef,undef,undef,undef,undef,undef,undef,undef,undef,undef,undef,undef,undef,undef,undef,undef,undef,undef,undef,undef,undef,undef,undef,undef,undef],defers:=[]}) ?assign ?body ?done ?stop
  case assign =>
   intro aa x W K a
   gi_wp2
   exact a
  case body =>
   intro aa pre x W f bm;have d:=Ap f;obtain⟨m,q,G,S,ho,a7⟩:=f.pat;have bl:=f.le;have R:W.cell? ⟨w.heap.size+1+1,0,none⟩=some (.slice m pre.length q):=S.cell;have c2:=f.r0.cell;have f2:=f.r0.frozen;have c3:=f.r1.cell;have f3:=f.r1.frozen;by_cases c:(pre.length:Int)=8
   ·clear f S ho a7
    gi_wp2
    exact⟨(WY w W).keep,d.out.out (.inl (by rw[AC];simp;omega))⟩
   have bk:=Dq.2 c;obtain⟨bw,fr,T⟩:=(HG.out.below f.below).signs;have s0:=Ar T 0;have s1:=Ar T 1;have s2:=Ar T 2;have s3:=Ar T 3;have s4:=Ar T 4;have s5:=Ar T 5
   gi_wp2
   gi_loopg[17] 4 (λg ai wr=>∃j:Nat,Hid (j+g=4)/\((j=0/\ai=.int .i64 0)\/(j=1/\ai=.int .i64 1)\/(j=2/\ai=.int .i64 2)\/(j=3/\ai=.int .i64 3))/\Hid (ET w pre wr)/\Hid (Tr w.heap.size (w.heap.size+3) W wr)/\Hid (∀i,i<j->(x.1.toList==G7 i)=false))
   case atStart=>exact⟨0,rfl,.inl ⟨rfl,rfl⟩,d,Tr.refl _ _ _,λi hi=>by omega⟩
   case round =>
    obtain⟨j,hj,be,d,N,Z⟩:=hrel;have bs:=λV=>jn V;have bt:=λV=>jo V;have bu:=λV=>jp V;obtain⟨r,t,bx,az,bf,al⟩:=d.out.pat;have P:=Ap az;have u:=Ap bf;have R:wr.cell? ⟨w.heap.size+1+1,0,none⟩=some (.slice r pre.length t):=az.cell;have bp:=d.out.size;have bj:∀o,(wr.alloc o).cell? ⟨w.heap.size+1+1,0,none⟩=some (.slice r pre.length t):=λo=>(Ck wr _ o (by rw[R];rfl)).trans R;rcases be with⟨rfl,rfl⟩|⟨rfl,rfl⟩|⟨rfl,rfl⟩|⟨rfl,rfl⟩
    ·cases b:(x.1.toList==[42])
     ·have Y:Hid (∀i,i<1->(x.1.toList==G7 i)=false):=λi hi=>by
       rcases Qx.1 hi with h|rfl
       ·exact Z.out i h
       exact b
      gi_wp2
      gi_roundg 3
      case measure=>have:=hj.out;omega
      case rel=>exact⟨1,rfl,.inr (.inl ⟨rfl,by go_num⟩),d.out.alloc _,N.out.trans (Tr.alloc _ _ _ _ (by omega) (by omega)),Y⟩
     gi_wp2_with(first
      |(gi_at_builtin;refine wpListIn_append_own _ rfl _ _ 151 rfl (w.heap.size+6) 158 i0 (.agg #[.int .i64 0,.string ByteArray.empty]) 2 24 underlying151 hi af ag ah rfl (by decide) _ _ _ rfl ((u.out.alloc _).alloc _) ⟨wr.heap.size+1,0,none⟩ 1 1 [.int .i64 0,.string ⟨#[]⟩] rfl rfl (Pu _ _ _ _) (λx b=>by simp at b;rcases b with rfl|rfl<;>rfl) (by unfold maxLen;omega) (by omega) (by simp;omega) ?_;intro v' F z v ay;obtain⟨g5,an,rfl⟩:=ownsRow_succ z;have C:=((P.out.alloc _).alloc _).kept v (λe=>by have:=IT u.out e.symm;omega);have c5:F.cell? ⟨w.heap.size+1+1,0,none⟩=some (.slice r pre.length t):=C.cell;have f5:F.frozen? ⟨w.heap.size+1+1,0,none⟩=false:=C.frozen))
     exact PG ((d.out.alloc _).alloc _) ((N.out.trans (Tr.alloc _ _ _ _ (by omega) (by omega))).trans (Tr.alloc _ _ _ _ (by simp;omega) (by simp;omega))) ((P.out.alloc _).alloc _) ((u.out.alloc _).alloc _) z v c (Sl (i:=0) b) al (by rw[SC (i:=0) (by omega) b];rfl)
    ·cases b:(x.1.toList==[42,42])
     ·have Y:Hid (∀i,i<2->(x.1.toList==G7 i)=false):=λi hi=>by
       rcases Qx.1 hi with h|rfl
       ·exact Z.out i h
       exact b
      gi_wp2
      gi_roundg 2
      case measure=>have:=hj.out;omega
      case rel=>exact⟨2,rfl,.inr (.inr (.inl ⟨rfl,by go_num⟩)),d.out.alloc _,N.out.trans (Tr.alloc _ _ _ _ (by omega) (by omega)),Y⟩
     gi_wp2_with(first
      |(gi_at_builtin;refine wpListIn_append_own _ rfl _ _ 151 rfl (w.heap.size+6) 158 i0 (.agg #[.int .i64 0,.string ByteArray.empty]) 2 24 underlying151 hi af ag ah rfl (by decide) _ _ _ rfl ((u.out.alloc _).alloc _) ⟨wr.heap.size+1,0,none⟩ 1 1 [.int .i64 1,.string ⟨#[]⟩] rfl rfl (Pu _ _ _ _) (λx b=>by simp at b;rcases b with rfl|rfl<;>rfl) (by unfold maxLen;omega) (by omega) (by simp;omega) ?_;intro v' F z v ay;obtain⟨g5,an,rfl⟩:=ownsRow_succ z;have C:=((P.out.alloc _).alloc _).kept v (λe=>by have:=IT u.out e.symm;omega);have c5:F.cell? ⟨w.heap.size+1+1,0,none⟩=some (.slice r pre.length t):=C.cell;have f5:F.frozen? ⟨w.heap.size+1+1,0,none⟩=false:=C.frozen))
     exact PG ((d.out.alloc _).alloc _) ((N.out.trans (Tr.alloc _ _ _ _ (by omega) (by omega))).trans (Tr.alloc _ _ _ _ (by simp;omega) (by simp;omega))) ((P.out.alloc _).alloc _) ((u.out.alloc _).alloc _) z v c (Sl (i:=1) b) al (by rw[SC (i:=1) (by omega) b];rfl)
    ·cases b:(x.1.toList==[91,93])
     ·have Y:Hid (∀i,i<3->(x.1.toList==G7 i)=false):=λi hi=>by
       rcases Qx.1 hi with h|rfl
       ·exact Z.out i h
       exact b
      gi_wp2
      gi_roundg 1
      case measure=>have:=hj.out;omega
      case rel=>exact⟨3,rfl,.inr (.inr (.inr ⟨rfl,by go_num⟩)),d.out.alloc _,N.out.trans (Tr.alloc _ _ _ _ (by omega) (by omega)),Y⟩
     gi_wp2_with(first
      |(gi_at_builtin;refine wpListIn_append_own _ rfl _ _ 151 rfl (w.heap.size+6) 158 i0 (.agg #[.int .i64 0,.string ByteArray.empty]) 2 24 underlying151 hi af ag ah rfl (by decide) _ _ _ rfl ((u.out.alloc _).alloc _) ⟨wr.heap.size+1,0,none⟩ 1 1 [.int .i64 2,.string ⟨#[]⟩] rfl rfl (Pu _ _ _ _) (λx b=>by simp at b;rcases b with rfl|rfl<;>rfl) (by unfold maxLen;omega) (by omega) (by simp;omega) ?_;intro v' F z v ay;obtain⟨g5,an,rfl⟩:=ownsRow_succ z;have C:=((P.out.alloc _).alloc _).kept v (λe=>by have:=IT u.out e.symm;omega);have c5:F.cell? ⟨w.heap.size+1+1,0,none⟩=some (.slice r pre.length t):=C.cell;have f5:F.frozen? ⟨w.heap.size+1+1,0,none⟩=false:=C.frozen))
     exact PG ((d.out.alloc _).alloc _) ((N.out.trans (Tr.alloc _ _ _ _ (by omega) (by omega))).trans (Tr.alloc _ _ _ _ (by simp;omega) (by simp;omega))) ((P.out.alloc _).alloc _) ((u.out.alloc _).alloc _) z v c (Sl (i:=2) b) al (by rw[SC (i:=2) (by omega) b];rfl)
    have cL:=fk x.1 wr x.2 (HG.out.below d.out.below)
    gi_wp2_with fail
    refine⟨trivial,((Hm.2 cL).inRound aa).mono ?_⟩;rintro e E ⟨rfl,hB⟩;simp only[];have I:=Ap (d.out.belowS hB);have aw:=Ap (N.out.trans (Tr.below' hB (by omega) (by omega)));have bq:=I.out.size;obtain⟨J,L,bh,a0,bg,a6⟩:=I.out.pat;have a3:=Ap a0;have aj:=Ap bg;have R:E.cell? ⟨w.heap.size+1+1,0,none⟩=some (.slice J pre.length L):=a0.cell;have c2:=I.out.r0.cell;have f2:=I.out.r0.frozen;have c3:=I.out.r1.cell;have f3:=I.out.r1.frozen;have aq:=jj Z.out;have a2:=Ap (kV Z.out);cases ax:DR x.1.data.toList
    ·have HX:Hid ((pre++[x]).all (λx=>DV (AV x))=false):=by show _=_;rw[LE];simp[aq,ax]
     gi_wp2
     exact⟨(aw.out.trans (WY w E)).keep,I.out.out (.inr HX.out)⟩
    rw[ax]at aq;have a4:=Ap aq
    gi_wp2_with fail
    refine wpIn_region_any (by kernel_rfl) ?_;have X:Hid (∀V,Calls prog 131 #[.string x.1] V λe V'=>e=.returned (.string x.1)/\Below V.heap.size V V'):=λV=>jc x.1 V (by have:=x.2;omega);have ap:w.heap.size+1+1<E.heap.size:=by omega
    have am:(World.drew E).cell? ⟨w.heap.size+1+1,0,none⟩=some (.slice J pre.length L):=R;change wpAnyIn _ _ _ _ _ _ _ _ _ (World.drew E);refine jq #[true,true,true,true,true,false,false] 2 (λV=>[(34,.slice J pre.length L),(35,.string x.1),(36,.string x.1),(37,.agg #[.int .i64 3,.string x.1]),(38,.slice (some ⟨V.heap.size,0,none⟩) 1 1)]) (λV=>Below (World.drew E).heap.size (World.drew E) V) (λV=>V.alloc (.cells #[.int .i64 3,.string x.1] 158)) (λl=>?reg) ?tail
    case tail =>
     intro V bb;have ad:Below E.heap.size E V:=(((AT _ E).drew).trans bb)
     have au:=Ap (I.out.belowS ad);have a5:=Ap (aw.out.trans (Tr.below' ad (by omega) (by omega)));have br:=au.out.size;have bn:∀g,(Value.slice J pre.length L).ownBlock=some g->g<E.heap.size:=λg M=>by
      rcases aj.out.2 with⟨O,_⟩|⟨g',_,_,O,_,hh,_⟩
      ·rw[O]at M;cases M
      rw[O]at M;cases M;exact At hh
     have av:Hid (Boxed V (w.heap.size+2) 151 (.slice J pre.length L)):=(ad.block _ (by omega)).trans a3.out;have ak:Hid (V.ownsRow (w.heap.size+6) 158 2 (.slice J pre.length L) pre.length bh):=by
      refine⟨aj.out.1,?_⟩;rcases aj.out.2 with O|⟨g',cp,a9,O,h1,hh,h2⟩
      ·exact .inl O
      exact .inr ⟨g',cp,a9,O,h1,(ad.block g' (At hh)).trans hh,h2⟩
     simp only[List.foldl];refine wpAnyIn_ready (rs:=[5]) (by kernel_rfl) (by simp) ?_;refine AllReadyIn.cons rfl (λK a=>?_) AllReadyIn.nil;rw[As (by rfl)];refine jr _ _ 151 rfl (w.heap.size+6) 158 i0 (.agg #[.int .i64 0,.string ByteArray.empty]) 2 24 underlying151 hi af ag ah rfl (by decide) _ _ _ rfl (ak.out.alloc _) ⟨V.heap.size,0,none⟩ 1 1 [.int .i64 3,.string x.1] rfl rfl (jk _ _ _) (λx b=>by simp at b;rcases b with rfl|rfl<;>rfl) (by unfold maxLen;omega) (by omega) (by simp;omega) ?_;intro v' F z v;obtain⟨g5,an,rfl⟩:=ownsRow_succ z;have C:=(av.out.alloc _).kept v (λe=>by have:=IT ak.out e.symm;omega);have c5:F.cell? ⟨w.heap.size+1+1,0,none⟩=some (.slice J pre.length L):=C.cell;have f5:F.frozen? ⟨w.heap.size+1+1,0,none⟩=false:=C.frozen;refine a _ _ ?_;refine wpAnyIn_ready (rs:=[6]) (by kernel_rfl) (by simp) ?_;refine AllReadyIn.cons rfl (λK a=>?_) AllReadyIn.nil;go_simp;refine a _ _ ?_;refine wpAnyIn_done (by kernel_rfl) ?_ _
     gi_wp2
     exact PG (au.out.alloc _) (a5.out.trans (Tr.alloc _ _ _ _ (by omega) (by omega))) (av.out.alloc _) (ak.out.alloc _) z v c a4.out a6 (by rw[a2.out])
    case reg =>
     refine wpAnyIn_ready (rs:=[0,1]) (by kernel_rfl) (by simp) ?_;refine AllReadyIn.cons rfl (λK a=>?_) (AllReadyIn.cons rfl (λK a=>?_) AllReadyIn.nil)
     ·go_simp;refine a _ _ ?_;refine wpAnyIn_ready (rs:=[1]) (by kernel_rfl) (by simp) ?_;refine AllReadyIn.cons rfl (λK a=>?_) AllReadyIn.nil;go_simp;refine a _ _ ?_;refine wpAnyIn_ready (rs:=[2]) (by kernel_rfl) (by simp) ?_;refine AllReadyIn.cons rfl (λK a=>?_) AllReadyIn.nil;go_simp;refine⟨trivial,((Hm.2 (X.out _)).inRound aa).mono ?_⟩;rintro e w3 ⟨rfl,H⟩;simp only[];have ac:=(H.cell (p:=⟨w.heap.size+1+1,0,none⟩) ap).trans am;refine a _ _ ?_;refine wpAnyIn_ready (rs:=[3]) (by kernel_rfl) (by simp) ?_;refine AllReadyIn.cons rfl (λK a=>?_) AllReadyIn.nil;go_simp;refine a _ _ ?_;refine wpAnyIn_ready (rs:=[4]) (by kernel_rfl) (by simp) ?_;refine AllReadyIn.cons rfl (λK a=>?_) AllReadyIn.nil;go_simp;refine a _ _ ?_;exact l _ H
     go_simp;refine a _ _ ?_;refine wpAnyIn_ready (rs:=[0,2]) (by kernel_rfl) (by simp) ?_;refine AllReadyIn.cons rfl (λK a=>?_) (AllReadyIn.cons rfl (λK a=>?_) AllReadyIn.nil)
     ·go_simp;refine a _ _ ?_;refine wpAnyIn_ready (rs:=[2]) (by kernel_rfl) (by simp) ?_;refine AllReadyIn.cons rfl (λK a=>?_) AllReadyIn.nil;go_simp;refine⟨trivial,((Hm.2 (X.out _)).inRound aa).mono ?_⟩;rintro e w3 ⟨rfl,H⟩;simp only[];have ac:=(H.cell (p:=⟨w.heap.size+1+1,0,none⟩) ap).trans am;refine a _ _ ?_;refine wpAnyIn_ready (rs:=[3]) (by kernel_rfl) (by simp) ?_;refine AllReadyIn.cons rfl (λK a=>?_) AllReadyIn.nil;go_simp;refine a _ _ ?_;refine wpAnyIn_ready (rs:=[4]) (by kernel_rfl) (by simp) ?_;refine AllReadyIn.cons rfl (λK a=>?_) AllReadyIn.nil;go_simp;refine a _ _ ?_;exact l _ H
     go_simp;refine⟨trivial,((Hm.2 (X.out _)).inRound aa).mono ?_⟩;rintro e w3 ⟨rfl,H⟩;simp only[];have ac:=(H.cell (p:=⟨w.heap.size+1+1,0,none⟩) ap).trans am;refine a _ _ ?_;refine wpAnyIn_ready (rs:=[0,3]) (by kernel_rfl) (by simp) ?_;refine AllReadyIn.cons rfl (λK a=>?_) (AllReadyIn.cons rfl (λK a=>?_) AllReadyIn.nil)
     ·go_simp;refine a _ _ ?_;refine wpAnyIn_ready (rs:=[3]) (by kernel_rfl) (by simp) ?_;refine AllReadyIn.cons rfl (λK a=>?_) AllReadyIn.nil;go_simp;refine a _ _ ?_;refine wpAnyIn_ready (rs:=[4]) (by kernel_rfl) (by simp) ?_;refine AllReadyIn.cons rfl (λK a=>?_) AllReadyIn.nil;go_simp;refine a _ _ ?_;exact l _ H
     go_simp;refine a _ _ ?_;refine wpAnyIn_ready (rs:=[0,4]) (by kernel_rfl) (by simp) ?_;refine AllReadyIn.cons rfl (λK a=>?_) (AllReadyIn.cons rfl (λK a=>?_) AllReadyIn.nil)
     ·go_simp;refine a _ _ ?_;refine wpAnyIn_ready (rs:=[4]) (by kernel_rfl) (by simp) ?_;refine AllReadyIn.cons rfl (λK a=>?_) AllReadyIn.nil;go_simp;refine a _ _ ?_;exact l _ H
     go_simp;refine a _ _ ?_;refine wpAnyIn_ready (rs:=[0]) (by kernel_rfl) (by simp) ?_;refine AllReadyIn.cons rfl (λK a=>?_) AllReadyIn.nil;have bi:(w3.alloc (.cells #[.int .i64 3,.string x.1] 158)).cell? ⟨w.heap.size+1+1,0,none⟩=some (.slice J pre.length L):=(Ck w3 _ _ (by rw[ac];rfl)).trans ac;go_simp;refine a _ _ ?_;exact l _ H
  case done =>
   intro D G W hD hS f a;obtain⟨m,q,ys,S,ho,a8⟩:=f.pat;have u:=Ap ho;have d:=Ap f;have HS:=Ap hS;have HK:=Ap a;have R:W.cell? ⟨w.heap.size+1+1,0,none⟩=some (.slice m G.length q):=S.cell;have c2:=f.r0.cell;have f2:=f.r0.frozen;have c3:=f.r1.cell;have f3:=f.r1.frozen
   gi_wp2
   refine M4 ?_;have U:=jl HD.out HS.out d.out.le d.out.all;have t1:=Tr.set w.heap.size (w.heap.size+3) W w.heap.size (.slice m G.length q) (AB _) (by omega);have t2:=Tr.set w.heap.size (w.heap.size+3) (W.setCell ⟨w.heap.size,0,none⟩ (.slice m G.length q)) (w.heap.size+1) (.bool true) (by omega) (by omega);have b0:Boxed ((W.setCell ⟨w.heap.size,0,none⟩ (.slice m G.length q)).setCell ⟨w.heap.size+1,0,none⟩ (.bool true)) w.heap.size 151 (.slice m G.length q):=(d.out.r0.set _).kept (grownBy_setCell' _ _ _) (by intro e;injection e with e;omega);have b1:Boxed ((W.setCell ⟨w.heap.size,0,none⟩ (.slice m G.length q)).setCell ⟨w.heap.size+1,0,none⟩ (.bool true)) (w.heap.size+1) 4 (.bool true):=Boxed.set _ (d.out.r1.kept (grownBy_setCell' _ _ _) (by intro e;injection e with e;omega));have hb:=d.out.below.trans (t1.trans t2).below;have a:=(t1.trans t2).keep.same D _ HK.out rfl;have X:Hid (∀j,w.heap.size+6<=j->((W.setCell ⟨w.heap.size,0,none⟩ (.slice m G.length q)).setCell ⟨w.heap.size+1,0,none⟩ (.bool true)).heap[j]?=W.heap[j]?):=λj hj=>(Ef _ _ _ _ (by simp;omega)).trans (Ef _ _ _ _ (by simp;omega));generalize(W.setCell ⟨w.heap.size,0,none⟩ (.slice m G.length q)).setCell ⟨w.heap.size+1,0,none⟩ (.bool true)=V at *;refine⟨by simp,.inl ⟨D,_,rfl,run_takeDeferred a,?_⟩⟩;have B:=(b0.kept (grownBy_putObj' V D (.deferred none)) (by intro e;injection e with e;omega)).cell;have k:=(b1.kept (grownBy_putObj' V D (.deferred none)) (by intro e;injection e with e;omega)).cell;refine⟨.tuple #[.slice m G.length q,.bool true],?_,⟨m,G.length,q,by rw[U],M5 hb (by omega) _,λ_=>?_⟩⟩
   ·simp[results,f101,go_sem,B,k]
   exact kY HD.out HS.out u.out a8.out HK.out X.out
  case stop =>
   intro D ab pre W hD hS y a;obtain rfl:=y.ret
   gi_wp2
   refine M4 ?_;have U:Dh s.data.toList=false:=by
    obtain⟨bv,hr⟩:=hS;exact jm HD.out hr y.bad
   refine⟨by simp,.inl ⟨D,_,rfl,run_takeDeferred a,?_⟩⟩;have B:=(y.r0.kept (grownBy_putObj' W D (.deferred none)) (by intro e;injection e with e;omega)).cell;have k:=(y.r1.kept (grownBy_putObj' W D (.deferred none)) (by intro e;injection e with e;omega)).cell;refine⟨.tuple #[.slice none 0 0,.bool false],?_,⟨none,0,0,by rw[U],M5 y.below (by omega) _,λe=>by rw[U]at e;cases e⟩⟩;simp[results,f101,go_sem,B,k]
 have U:Dh s.data.toList=true:=by unfold Dh;rw[<-EJ,hd];rfl
 have HY:=Ap U;refine(Hm (n:=10)).1 ?_;refine callsIn_of_wp_marks func101 rfl trivial ?_ rfl;simp only[ntmps101,FY,Bq,CF,Nat.reduceAdd,Nat.reduceSub,Lv,Lw,LB,Lx,Jd,I8]
 gi_wp2
 refine OM.2 (Uy ((OM (n:=10)).1 ?_))
 gi_wp2
 repeat(first|refine P8 ?_|refine M4 ?_)
 have B:((w.alloc (.cells #[.slice none 0 0] 151)).alloc (.cells #[.bool true] 4)).cell? ⟨w.heap.size,0,none⟩=some (.slice none 0 0):=((Boxed.new w 151 (.slice none 0 0)).alloc _).cell;have k:((w.alloc (.cells #[.slice none 0 0] 151)).alloc (.cells #[.bool true] 4)).cell? ⟨w.heap.size+1,0,none⟩=some (.bool true):=by
  have:=(Boxed.new (w.alloc (.cells #[.slice none 0 0] 151)) 4 (.bool true)).cell;rwa[AM]at this
 refine⟨.tuple #[.slice none 0 0,.bool true],?_,⟨none,0,0,by rw[HY.out],?_,λ_=>?_⟩⟩
 ·simp[results,f101,go_sem,B,k]
 ·exact(AH).alloc (by simp) _
 have S:Fk s.data.toList=[]:=by unfold Fk;rw[<-EJ,hd];rfl
 rw[S];exact⟨rfl,.inl rfl⟩
end
end
end Go.Proofs.YtoegnhgofkhbnaaGreatDoor
