import Derived.Test.YtoegnhgofkhbnaaGreatDoorHq26
set_option maxRecDepth 100000
set_option maxHeartbeats 8000000
set_option linter.all false
namespace Go.Proofs.YtoegnhgofkhbnaaGreatDoor
open Go.Proofs.Tryz
open Go.Value renaming int->A7,slice->A8,pointer->A9,string->Aa,tuple->Ab
open Go.Obj renaming cells->Af
open Go.Ending renaming returned->Ag
open Go.IntKind renaming i64->Ah
open Option renaming some->Aj,none->Ak
open Go renaming World->Al,Value->Am,Calls->An
variable{U V V' W W' W0 w:Al}{A L b b0 base cap g j k mn p2 p3 p4 p5 p6 p7:Nat}{q:Bi}{sts:List ((Nat->Nat)×Int×Int)}{bv sv v:Am}{mf nf:Lit->Option Nat}{cs d:A4}{c:AN}{fed l:A2}{z:Cz}{P:Program}{o:Obj}
section
open Go.RowKit Go.Lib
def Q2(A:Nat)(q:Bi)(own0:Option Nat)(j:Nat):Prop:=j=A\/j=q.lm\/j=q.tb\/j=q.nb\/j=q.mb\/own0=Aj j
theorem YA(h:BQ W0 A q sts sv nf mn mf W)(a:W.heap[L]?=Aj (Af cs 86))(b:Q2 A q sv.ownBlock j):j≠L:=by
 intro e;subst e;rcases b with rfl|rfl|rfl|rfl|rfl|b
 ·rw[h.row]at a;injection a with a;injection a with _ a _;exact absurd a (by decide)
 ·exact IY h.letters a
 ·obtain⟨d,c,_⟩:=h.takes;rw[c]at a;injection a with a;injection a with _ a _;exact absurd a (by decide)
 ·exact IY h.numbers a
 ·exact IY h.moves a
 exact absurd (PL h.states b a) (by decide)
theorem Q3(h:BQ W0 A q sts sv nf mn mf W)(a:Q2 A q sv.ownBlock j):j<W.heap.size:=by
 have c:∀{d:TypeId} {m n:Nat} {f:Lit->Option Nat},Cn W d m n f->m<W.heap.size:=by
  rintro d m n f ⟨D,⟨r,p,i,_⟩,_⟩;exact At i
 rcases a with rfl|rfl|rfl|rfl|rfl|a
 ·exact At h.row
 ·exact c h.letters
 ·obtain⟨e,l,_⟩:=h.takes;exact At l
 ·exact c h.numbers
 ·exact c h.moves
 rcases h.states.2 with⟨b,_⟩|⟨g,o,e,b,_,k,_⟩
 ·rw[b]at a;cases a
 rw[b]at a;injection a with a;have a:g=j:=a;rw[<-a];exact At k
theorem Io.step{sa:A5}{sc:Nat}(h:Io c W0 L A q sts sa sc nf mf bv W)(l:W0.heap.size<=L)(d:W'.os=W.os/\W'.tape=W.tape/\W'.output=W.output)(k:W.heap.size<=W'.heap.size)(e:∀j,j<L->W'.heap[j]?=W.heap[j]?)(i:∀j,Q2 A q (Value.slice sa sts.length sc).ownBlock j->W'.heap[j]?=W.heap[j]?):Io c W0 L A q sts sa sc nf mf bv W':=by
 have a:=h.cp.au.below;refine⟨{h.cp with au:=h.cp.au.rebase rfl ⟨d.1.trans a.os,d.2.1.trans a.tape,d.2.2.trans a.output,AW a.size k,λj f=>(e j (by omega)).trans (a.block j f)⟩ h.cp.au.rules i},h.bk.same (λ_ b=>b) (λg b=>e g b.2),h.bs⟩
def FV(c:AN)(b0 L b:Nat)(fed:A2)(W:Al):Prop :=
 ∃W0 A q sts sa sc nf mf bv fa fn fc,Io c W0 L A q sts sa sc nf mf bv W/\(b0<=W0.heap.size/\W0.heap.size<=L/\L<b/\b<=W.heap.size)/\EE b0 W0/\W.heap[L]?=Aj (Af (Be (EF c A bv) (A8 fa fn fc) false) 86)/\Av W b (A8 fa fn fc) fed/\(∀j,Q2 A q (Value.slice sa sts.length sc).ownBlock j->j<b)/\fed.length<=c.bytes.toNat+1
theorem FV.tab(h:FV c b0 L b fed W):EE b0 W:=by
 obtain⟨f,A,q,p,n,o,m,l,g,i,k,j,a,d,e,_⟩:=h;exact e.below (a.cp.au.below.mono d.1)
theorem FV.step(h:FV c b0 L b fed W)(a:A1 W W'):FV c b0 L b fed W':=by
 obtain⟨i,A,q,y,w,x,v,u,k,l,n,m,e,d,o,f,p,r,s⟩:=h;have t:=At f;refine⟨i,A,q,y,w,x,v,u,k,l,n,m,e.step d.2.1 ⟨a.os,a.tape,a.output⟩ a.size (λj g=>a.block j (by omega)) (λj g=>a.block j (Q3 e.cp.au g)),⟨d.1,d.2.1,d.2.2.1,AW d.2.2.2 a.size⟩,o,(a.block L t).trans f,KT p a,r,s⟩
theorem oB(c:AN)(w:Al)(o:Et w c)(i:EE w.heap.size w):An prog 12 #[.agg c.arr] w λe f=>A1 w f/\((¬Bl c=0/\e=Ag (Ab #[A9 Ak,A7 Ah (Bl c)]))\/(Bl c=0/\∃L,e=Ag (Ab #[A9 (Aj ⟨L,0,Ak⟩),A7 Ah 0])/\FV c w.heap.size L f.heap.size [] f)):=by
 refine(oj c w o i.gl (λh=>(J0 h).b8)).mono ?_;rintro e f ⟨a,b⟩;refine⟨a,?_⟩;rcases b with b|⟨b,l,L,A,q,x,u,v,t,s,n,rfl,m,p,C,r,k⟩
 ·exact .inl b
 refine .inr ⟨b,L,rfl,l,A,q,x,u,v,t,s,n,Ak,0,0,k,⟨m,p,by omega,AB _⟩,?_,?_,P4 f,λj g=>Q3 k.cp.au g,Cy _⟩
 ·have d:=k.cp.au.below;have z:∀q,q<9->l.heap[q]?=w.heap[q]?:=λq B=>by
   have y:=i.big.1;rw[<-d.block q (by omega)];exact a.block q (by omega)
  refine i.below ⟨d.os.symm.trans a.os,d.tape.symm.trans a.tape,d.output.symm.trans a.output,m,λj g=>?_⟩;rw[<-d.block j (by omega)];exact a.block j g
 rw[<-om (J0 b)];exact r
theorem YB(a:∀q,q<9->V.heap[q]?=W.heap[q]?)(h:Jr W):Jr V:=by
 refine⟨h.u8.low a,⟨λu b=>Ha a (by decide) (h.hd.cb u b),λu b=>⟨Ha a (by decide) (h.hd.pk u b).1,Ha a (by decide) (h.hd.pk u b).2.1,Ha a (by decide) (h.hd.pk u b).2.2⟩⟩,?_⟩;have c:=a 8 (by omega);have d:=h.big;rw[Array.getElem?_eq_getElem (show 8<W.heap.size by omega)]at c;exact At c
structure NZ(c:AN):Prop where
 doc:∀{U:World},Jr U->∀(fa:A5) (fc:Nat) (l:A2),l.length<=4097->Dv U fa l->∀(A:Nat) (bv:Value),Calls prog 51 #[.int .i64 (EF c A bv).inF,.agg #[.int .i64 (EF c A bv).depth,.int .i64 (EF c A bv).bytes],.slice fa l.length fc] U (IP (kC c) U (BB c.inn l c.depth c.bytes))
 bad:∀l en pl,BB c.inn l c.depth c.bytes=.error (en,pl)->en≠0
 size:∀l x,BB c.inn l c.depth c.bytes=.ok x->∀k,BL k x+30<=400*l.length
def JL(c:AN)(fed bs:A2):A2:=fed++bs.take (c.bytes.toNat+1-fed.length)
theorem oC(ck:Ip c)(u:NZ c)(h:FV c b0 L b fed W)(i:A5)(g:Nat)(bs:A2)(G:Dv W i bs)(N:i=Ak->g=0)(H:bs.length<=g):An prog 13 #[A9 (Aj ⟨L,0,Ak⟩),A8 i bs.length g] W λe f=>e=Ag (A7 Ah (NN (BB c.inn (JL c fed bs) c.depth c.bytes) (JL c fed bs).length))/\FV c b0 L b (JL c fed bs) f/\W.heap.size<=f.heap.size/\Below b0 W f:=by
 have O:=h.tab;obtain⟨B,A,q,Y,V,X,T,S,l,r,t,s,v,d,w,x,y,z,D⟩:=h;have Z:=ck.byt;have J:(JL c fed bs).length<=c.bytes.toNat+1:=by
  unfold JL;rw[AC,Hj];omega
 have I:=jD (kC c) W L b (EF c A l) (Ta c A) (A8 r t s) fed i g bs (JL c fed bs) rfl x y d.2.2.1 G N H (by show c.bytes.toNat<=4096;omega) D (BB c.inn (JL c fed bs) c.depth c.bytes) (u.bad _) (λU m n F E=>u.doc (YB (λq hq=>F q (by have:=w.big.1;omega)) O.rd) m n _ (by omega) E A l);refine I.mono ?_;rintro e f ⟨m,C,n,rfl,P,Q,k,p,R⟩;have M:∀j,j<b->Aj j≠(Value.slice r t s).ownBlock:=λj a e=>by have:=E7 y.1 e.symm;omega
 have o:∀j,j<b->j≠L->f.heap[j]?=W.heap[j]?:=λj a K=>R j (by omega) K (M j a);refine⟨rfl,⟨B,A,q,Y,V,X,T,S,l,m,C,n,v.step d.2.1 k p (λj a=>o j (by omega) (by omega)) (λj a=>o j (z j a) (YA v.cp.au x a)),⟨d.1,d.2.1,d.2.2.1,AW d.2.2.2 p⟩,w,Q,P,z,J⟩,p,k.1,k.2.1,k.2.2,by omega,λj a=>o j (by omega) (by omega)⟩
theorem oD(h:∃a b,bv=A8 a c.B.length b)(e:A5)(g f:Nat)(d:Bool):(Be (EF c A bv) (A8 e g f) d).all (·.oneCell')=true:=by
 obtain⟨a,b,rfl⟩:=h;unfold Be EF J1;dsimp only;rw[OG,OG,OG,Sy];simp[Value.oneCell']
theorem oE(h:Av W b v l)(c:W.heap.size<=W'.heap.size)(a:∀g,v.ownBlock=Aj g->W'.heap[g]?=W.heap[g]?):Av W' b v l:=⟨NL h.1 a,AW h.2.1 c,h.2.2⟩
theorem oF(h:Av W b v l)(e:v.ownBlock=Aj g):g<W.heap.size:=by
 rcases h.1.2 with⟨a,_⟩|⟨c,f,i,a,_,d,_⟩
 ·rw[a]at e;cases e
 rw[a]at e;injection e with e;have e:c=g:=e;rw[<-e];exact At d
def YC(c:AN)(b0 L:Nat)(l:A2)(W:Al)(e:Ending)(V':Al):Prop :=
 ∃va vn vc,e=Ag (Ab #[A8 va vn vc,.agg (AZ (C3 (Fo c l))),A7 Ah (Co (Fo c l)),A7 Ah (D5 (Fo c l))])/\Below b0 W V'/\W.heap.size<=V'.heap.size/\V'.heap[L]?=Aj (Af (Be DX (A8 Ak 0 0) true) 86)/\NW V' W.heap.size (A8 va vn vc) (Fo c l)
structure Tf(c:AN):Prop where
 rw:∀{b:Nat} {W0:World} {L A:Nat} {q:Bi} {sts:List ((Nat->Nat)×Int×Int)} {sa:A5} {sc:Nat} {nf mf:Lit->Option Nat} {bv:Value} {V U:World} (_h:Io c W0 L A q sts sa sc nf mf bv V) (_ht:EE b W0) (_hU:A1 V U) {t:TypeId} {y:Value} {d:A3} (_hd:AJ (kC c) V (λj=>j<V.heap.size) (.iface t y) d) (_hsz:BL (kC c) d<=2000000),Calls prog 52 #[.agg (J1 c A),.iface t y] U (PZ (Xc A q (Value.slice sa sts.length sc).ownBlock) V.heap.size (kC c) U (B2 (Cj c) (kC c) [] d (0,0,0,0)).2 ((B2 (Cj c) (kC c) [] d (0,0,0,0)).1.getD .nil))
 wr:∀l d,l.length<=4097->BB c.inn l c.depth c.bytes=.ok d->T5 c.out (kC c) ((B2 (Cj c) (kC c) [] d (0,0,0,0)).1.getD .nil)
theorem oG(ck:Ip c)(G:NZ c)(K:Tf c)(h:FV c b0 L b fed W):An prog 14 #[A9 (Aj ⟨L,0,Ak⟩)] W (YC c b0 L fed W):=by
 have ah:=h.tab;obtain⟨z,A,q,x,v,w,S,R,f,i,fn,k,m,H,C,I,D,h6,h7⟩:=h;have am:=ck.byt;have V:=At I;have P:fed.length<=4097:=by omega
 obtain⟨Y,Z,F,al⟩:=M8 D;injection F with e1 e2 e3;subst e1;subst e2;subst e3;have E:∀j,j<W.heap.size->j≠L->(CQ W L (EF c A f) (A8 i fed.length k)).heap[j]?=W.heap[j]?:=λj a b=>T8 _ _ _ _ j a b;have an:=Q0 W L (EF c A f) (A8 i fed.length k);have aa:Av (CQ W L (EF c A f) (A8 i fed.length k)) b (A8 i fed.length k) fed:=oE D (by omega) (λg e=>E g (oF D e) (by have:=E7 D.1 e;omega));have M:Io c z L A q x v w S R f (CQ W L (EF c A f) (A8 i fed.length k)):=m.step H.2.1 (oa _ _ _ _) (by omega) (λj l=>E j (by omega) (by omega)) (λj l=>E j (Q3 m.cp.au l) (YA m.cp.au I l));have ab:Jr (CQ W L (EF c A f) (A8 i fed.length k)):=YB (λq hq=>E q (by have:=C.big.1;omega) (by have:=C.big.1;omega)) ah.rd;have af:=Yr W L (EF c A f) (A8 i fed.length k) V;have ae:=ow (Xc A q (Value.slice v x.length w).ownBlock) (kC c) W L (EF c A f) (Ta c A) i fed.length k (oD m.bs i fed.length k false) I (BB c.inn fed c.depth c.bytes) (G.bad _) (Fo c fed)
  (λU r=>by
   obtain⟨Y,Z,F,ad⟩:=M8 (KT aa r);injection F with e1 e2 e3;subst e1;exact G.doc (ab.below r) i k fed P ad A f)
  (λe he=>by unfold Fo;rw[he])
  (λd J=>by
   refine⟨_,_,(by unfold Fo;rw[J]),λak t y N ai U r=>?_⟩;have ao:=G.size fed _ J (kC c);have p:Below (CQ W L (EF c A f) (A8 i fed.length k)).heap.size (CQ W L (EF c A f) (A8 i fed.length k)) U:=N.trans (r.mono N.size);have n:Io c z L A q x v w S R f U:=M.step H.2.1 ⟨p.os,p.tape,p.output⟩ p.size (λj l=>p.block j (by omega)) (λj l=>p.block j (Q3 M.cp.au l));have aj:AJ (kC c) U (λj=>j<U.heap.size) (.iface t y) d:=ai.same (λj l=>Br l.2 r.size) (λj l=>r.block j l.2);obtain⟨T,X,O⟩:=n.bs;have s:Below b0 z U:=n.cp.au.below.mono H.1;have ag:∀o,Cg (Xc A q (Value.slice v x.length w).ownBlock) U o->Below b0 z o:=λo hF=>by
    refine⟨hF.world.1.trans s.os,hF.world.2.1.trans s.tape,hF.world.2.2.trans s.output,AW s.size hF.rows.size,λj l=>(hF.block j (by have:=s.size;omega) ⟨?_,?_,?_,?_⟩).trans (s.block j l)⟩
    ·have:=n.cp.au.high.1;omega
    ·have:=n.cp.au.high.2.2.2.1;omega
    ·have:=n.cp.au.high.2.2.2.2;omega
    intro e;have:=E7 n.cp.au.states e.symm;omega
   refine nX (Xc A q (Value.slice v x.length w).ownBlock) (kC c) U (W.heap.size+1) (EF c A f) (Ta c A) (A8 i fed.length k) false ((p.block _ (by omega)).trans af) t y _ _ T X c.B O ck.b8 ck.b6 (K.wr fed d P J) (λo hF=>?_) (λo hF=>C.up (ag o hF)) (λU' ac=>K.rw n C ac aj (by omega));have Q:=n.bk;rw[O]at Q;exact ou (Q.kept (λ_ hg=>hg) hF.rows (by decide) (by decide) (by decide)))
 refine ae.mono ?_;rintro e o ⟨va,vn,vc,rfl,u,k2,k3⟩;refine⟨va,vn,vc,rfl,⟨u.world.1,u.world.2.1,u.world.2.2,AW (by omega) u.size,λj l=>u.block j (by omega) (by omega) ⟨?_,?_,?_,?_⟩⟩,u.size,k2,k3⟩
 ·have:=m.cp.au.high.1;omega
 ·have:=m.cp.au.high.2.2.2.1;omega
 ·have:=m.cp.au.high.2.2.2.2;omega
 intro e;have:=E7 m.cp.au.states e.symm;omega
theorem oI(c:Int)(n:Nat)(w:Al)(i:1<=n)(f:n<=maxLen)(j : -9223372036854775808<=c)(k:c<=9223372036854775807):An prog 4 #[A7 Ah c,A7 Ah n] w λe g=>e=Ag (A7 Ah (BI c n))/\g=w:=by
 unfold maxLen at f;have l:(0:Int)<n:=by omega
 by_cases h:c<0
 ·have a:Hid ((BI c n:Int)=(-(c+1))%n):=by
   have b:=QO (-(c+1)) (show(n:Int)≠0 by omega);show _=_;unfold BI;rw[As h,JX b]
  go_enter func4,ntmps4;go_wp2;go_ret;have d : -((c+1).tmod n)=(-(c+1))%n:=by rw[<-Int.neg_tmod,U4 (by omega)]
  exact⟨by rw[a.out,<-d];rfl,rfl⟩
 have a:Hid ((BI c n:Int)=c%n):=by
  have b:=QO c (show(n:Int)≠0 by omega);show _=_;unfold BI;rw[Aq h,JX b]
 go_enter func4,ntmps4;go_wp2;go_ret;exact⟨by rw[a.out];rfl,rfl⟩
theorem YE(W:Al)(l:A2)(d:l.length<=maxLen):∃a V,(convert 9 49 (Aa ⟨l.toArray⟩)).run prog W=.ok (A8 (Aj ⟨W.heap.size,0,Ak⟩) l.length a) V/\A1 W V/\Dv V (Aj ⟨W.heap.size,0,Ak⟩) l/\l.length<=a:=by
 have h:=run_bytes_of_string (P:=prog) W 9 49 5 ⟨l.toArray⟩ underlying9 underlying49 underlying5;have b:(⟨l.toArray⟩:ByteArray).size=l.length:=FY ..;refine⟨_,_,by rw[<-b];exact h,((AT _ _).drew).alloc (AB _) _,⟨λi c=>⟨W.heap.size,0,rfl,by rw[AM];exact OF _,?_⟩,d⟩,by rw[b];exact grownCap_ge _ _ _ _⟩;rw[Df];refine(World.cell?_alloc_mark W.drew _ _ _ i).trans ((bytesRow_at ⟨l.toArray⟩ _ i (by simpa using c)).trans ?_);simp
theorem oJ(s:ByteArray)(p:Nat)(d:p<=s.size)(w:Al):(Instr.sliceAt 9 (.string s) Ak (Aj (A7 Ah p)) Ak).run prog w=.ok (.string (s.extract 0 p)) w:=by
 have a:(0:Int)<=(p:Int):=by omega
 have b:(p:Int)<=(s.size:Int):=by omega
 have c:=underlying9;simp only[go_sem,c,a,b,Gh]
theorem oK(s:ByteArray)(p:Nat)(d:p<=s.size)(w:Al):(Instr.sliceAt 9 (.string s) (Aj (A7 Ah p)) Ak Ak).run prog w=.ok (.string (s.extract p s.size)) w:=by
 have a:(0:Int)<=(p:Int):=by omega
 have b:(p:Int)<=(s.size:Int):=by omega
 have c:=underlying9;simp only[go_sem,c,a,b,Gh]
theorem YF(l:A2)(p q:Nat):(⟨l.toArray⟩:ByteArray).extract p q=⟨((l.take q).drop p).toArray⟩:=by
 apply LI;rw[Ot];apply KL;rw[Ox,Ol];show(l.drop p).take (q-p)=(l.take q).drop p;rw[List.drop_take]
theorem Tg(l:A2):(⟨l.toArray⟩:ByteArray).size=l.length:=FY ..
theorem oL(l:A2)(p:Nat)(a:p<=l.length)(w:Al):(Instr.sliceAt 9 (Aa ⟨l.toArray⟩) Ak (Aj (A7 Ah p)) Ak).run prog w=.ok (Aa ⟨(l.take p).toArray⟩) w:=by
 have h:=oJ ⟨l.toArray⟩ p (by rw[Tg];exact a) w;rw[YF]at h;exact h
theorem oM(l:A2)(p:Nat)(a:p<=l.length)(w:Al):(Instr.sliceAt 9 (Aa ⟨l.toArray⟩) (Aj (A7 Ah p)) Ak Ak).run prog w=.ok (Aa ⟨(l.drop p).toArray⟩) w:=by
 have h:=oK ⟨l.toArray⟩ p (by rw[Tg];exact a) w;rw[YF,Tg,K0]at h;exact h
theorem EE.top(h:EE b W):EE W.heap.size W:=⟨h.rd,h.up Bb,h.db,h.gl,by have:=h.big;omega,AB _⟩
theorem oN(c:AN)(l bs:A2):JL c (l.take (c.bytes.toNat+1)) bs=(l++bs).take (c.bytes.toNat+1):=by
 unfold JL;rw[List.take_append,Hj];by_cases h:l.length<=c.bytes.toNat+1
 ·rw[Nat.min_eq_right h]
 rw[Nat.min_eq_left (by omega),Nc,show c.bytes.toNat+1-l.length=0 by omega]
def CD(z:Cz):A2:=match z with
 |.ok (_,.ok l)=>l
 |_=>[]
theorem oO(h:NW V base v z):(convert 49 9 v).run prog V=.ok (Aa ⟨(CD z).toArray⟩) V:=by
 match z,h with
 |.ok (_,.ok l),h=>exact RV h
 |.ok (_,.error _),h =>
  have h:v=A8 Ak 0 0:=h;rw[h];exact RU V
 |.error _,h =>
  have h:v=A8 Ak 0 0:=h;rw[h];exact RU V
def C4(s:A2)(R:AP)(e p:Int):A4:=#[Aa ⟨s.toArray⟩,A7 Ah R.1,A7 Ah R.2.1,A7 Ah R.2.2.1,A7 Ah R.2.2.2,A7 Ah e,A7 Ah p]
def Dc:A4:=C4 [] (0,0,0,0) 0 0
theorem oP(e:Int):prog.built 34 [(2,A7 Ah e)]=Aj (C4 [] (0,0,0,0) e 0):=by kernel_rfl
theorem oQ(s:A2)(R:AP)(e p:Int):prog.built 34 [(0,Aa ⟨s.toArray⟩),(1,.agg (AZ R)),(2,A7 Ah e),(3,A7 Ah p)]=Aj (C4 s R e p):=by kernel_rfl
theorem Mu(s:A2)(R:AP)(e p:Int):(prog.info? 34).map (·.size)=Aj (C4 s R e p).size:=by kernel_rfl
theorem Th(s:A2)(R:AP)(e p:Int):(C4 s R e p).all (·.oneCell')=true:=by simp[C4,Value.oneCell']
def Mv(c:AN)(l:A2):A4:=if Bl c=0 then C4 (CD (Fo c (l.take (c.bytes.toNat+1)))) (C3 (Fo c (l.take (c.bytes.toNat+1)))) (Co (Fo c (l.take (c.bytes.toNat+1)))) (D5 (Fo c (l.take (c.bytes.toNat+1))))else C4 [] (0,0,0,0) (Bl c) 0
theorem YG{fn:Func}{p u:Tmp}{ty:TypeId}(h:fn.results=#[.cell p ty,.tmp u])(b:A4)(w:Al)(g:Nat)(t:TypeId)(cs:A4)(c:Nat×Nat)(d:TypeDesc)(j:b.getD p undef=A9 (Aj ⟨g,0,Ak⟩))(i:w.heap[g]?=Aj (Af cs t c))(k:P.underlying ty=Aj d)(f:(match d with|.struct _|.array _ _=>true|_=>false)=true)(hi:(P.info? ty).map (·.size)=Aj cs.size)(v:Am)(l:b.getD u undef=v):(results fn b).run P w=.ok (Ab #[.agg cs,v]) w:=by
 have e:(results fn b).run P w=((asAddr (b.getD p undef)).run P w).andThen λa m=>((loadVar ty a).run P m).andThen λv n=>.ok (Ab #[v,b.getD u undef]) n:=by
  simp only[results,h];simp[D8,Result.andThen]
 subst l;rw[e,j];simp only[asAddr,E4,Dl,FZ w g t ty cs c d i k f hi]
structure DY(w:World)(c:AN)(V:World):Prop where
 below:A1 w V
 cfg:V.heap[w.heap.size]?=some (.cells c.arr 25)
 told:V.heap[w.heap.size+1]?=some (.cells Dc 34)
theorem DY.step(h:DY w c V)(a:Below b V V')(d:w.heap.size+2<=b):DY w c V' :=
 ⟨h.below.trans (a.mono (by omega)),(a.block _ (by omega)).trans h.cfg,(a.block _ (by omega)).trans h.told⟩
theorem DY.next(h:DY w c V)(a:A1 V V'):DY w c V' :=
 h.step a (by have:=At h.told;omega)
theorem oR(w:Al)(c:AN):DY w c ((w.alloc (Af c.arr 25)).alloc (Af Dc 34)):=by
 have h:=Ay (w.alloc (Af c.arr 25)) (Af Dc 34);rw[AM]at h;exact⟨(AH).alloc (by rw[AM];omega) _,(AL _ _ _ (by rw[AM];omega)).trans (Ay w _),h⟩
def oS(w:Al)(c:AN)(b0 L b:Nat)(l:A2)(e:Ending)(V':Al):Prop :=
 ∃en,e=Ag (A7 Ah en)/\DY w c V'/\FV c b0 L b (l.take (c.bytes.toNat+1)) V'
theorem YH(ck:Ip c)(d:NZ c){bs:A2}(h:DY w c V)(g:FV c b0 L b (l.take (c.bytes.toNat+1)) V)(j:w.heap.size+2<=b0){ia:A5}(i:Dv V ia bs)(m:ia≠Ak)(k:bs.length<=cap):An prog 13 #[A9 (Aj ⟨L,0,Ak⟩),A8 ia bs.length cap] V (oS w c b0 L b (l++bs)):=by
 refine(oC ck d g ia cap bs i (λe=>absurd e m) k).mono ?_;rintro e n ⟨rfl,a,_,f⟩;rw[oN]at a;exact⟨_,rfl,h.step f j,a⟩
theorem oT(h:NW V b v z)(a:A1 V V'):NW V' b v z:=by
 match z,h with
 |.ok (_,r),h=>exact JJ.same (r:=r) h λl k=>KT k a
 |.error _,h=>exact h
theorem YI(c:AN)(gp:Bl c=0->NZ c/\Tf c)(w:Al)(U:Et w c)(W:EE w.heap.size w)(s:A2)(hs:s.length<=maxLen)(pc:Nat)(ax:1<=pc)(ay:pc<=maxLen+1):An prog 8 #[.agg c.arr,Aa ⟨s.toArray⟩,A7 Ah pc] w λe d=>e=Ag (Ab #[.agg (Mv c s),.bool true])/\A1 w d:=by
 have R:Hid (c.arr.size=11):=c.size;have HC:Hid (Et w c):=U;have HT:Hid (EE w.heap.size w):=W;have k:Hid (DY w c ((w.alloc (Af c.arr 25)).alloc (Af Dc 34))):=oR w c;have B:=YD c ((w.alloc (Af c.arr 25)).alloc (Af Dc 34)) (U.below k.below) (W.below k.below).gl;have S:Hid (∀V,DY w c V->An prog 12 #[.agg c.arr] V λe d=>A1 V d/\((¬Bl c=0/\e=Ag (Ab #[A9 Ak,A7 Ah (Bl c)]))\/(Bl c=0/\∃L,e=Ag (Ab #[A9 (Aj ⟨L,0,Ak⟩),A7 Ah 0])/\FV c V.heap.size L d.heap.size [] d))):=λV m=>oB c V (U.below m.below) (W.below m.below).top;clear U W;by_cases i:Bl c=0
 ·have Z:Hid (Ip c):=J0 i;have O:=Ap (gp i);obtain⟨z,HZ⟩:∃z,Hid (Fo c (s.take (c.bytes.toNat+1))=z):=⟨_,rfl⟩
  have x:Hid (Mv c s=C4 (CD z) (C3 z) (Co z) (D5 z)):=by show _=_;unfold Mv;rw[As i,HZ.out]
  rw[x.out];have A:Hid (∀V,DY w c V->An prog 12 #[.agg c.arr] V λe d=>∃L,e=Ag (Ab #[A9 (Aj ⟨L,0,Ak⟩),A7 Ah 0])/\DY w c d/\FV c V.heap.size L d.heap.size [] d):=λV m=>(S V m).mono (by
   rintro e d ⟨h1,j⟩;rcases j with⟨j,_⟩|⟨_,L,h3,h4⟩
   ·exact absurd i j
   exact⟨L,h3,m.next h1,h4⟩)
  rw[i]at B;clear x S i gp;go_enter func8,ntmps8
  go_wp2_with(first
   |(refine B3 rfl 25 _ rfl w.heap.size rfl _ _ _ _ k.cfg underlying25 rfl (Dg R) ?_)
   |(go_at_call 10;refine B.mono ?_;clear B;rintro e n ⟨rfl,a⟩;have l:Hid (DY w c n):=k.next a;clear a k;have C:=A.out n l;clear A;have Y:Hid (w.heap.size+2<=n.heap.size):=(U3.1 l.told).1)
   |(refine B3 rfl 25 _ rfl w.heap.size rfl _ _ _ _ l.cfg underlying25 rfl (Dg R) ?_)
   |(go_at_call 12;refine C.mono ?_;clear C;rintro e v ⟨L,rfl,G,aj⟩;have q:Hid (DY w c v):=G;have ae:Hid (FV c n.heap.size L v.heap.size [] v):=aj;clear G aj l))
  generalize v.heap.size=b3 at *;generalize n.heap.size=b2 at *
  go_loopg[1] s.length (λaa av V=>∃D b:A2,av=Aa ⟨b.toArray⟩/\Hid (D++b=s)/\Hid (b.length<=aa)/\Hid (DY w c V)/\Hid (FV c b2 L b3 (D.take (c.bytes.toNat+1)) V))
  case atStart=>exact⟨[],s,rfl,rfl,AB _,q,by rw[List.take_nil];exact ae⟩
  case round =>
   clear q ae;obtain⟨D,b,rfl,M,HR,P,N⟩:=hrel;have aq:b.length<=maxLen:=by have an:=congrArg List.length M;rw[AC]at an;omega
   by_cases aw:(pc:Int)<(b.length:Int)
   ·cases gk with
    |zero=>have:=HR.out;omega
    |succ aa =>
     have ab:pc<=b.length:=by omega
     have ar:=λw=>oL b pc ab w;have au:=λw=>oM b pc ab w;have ac:(b.take pc).length<=maxLen:=by rw[Hj];omega
     obtain⟨K,g⟩:∃K,Hid (b.take pc=K):=⟨_,rfl⟩
     obtain⟨dp,h⟩:∃dp,Hid (b.drop pc=dp):=⟨_,rfl⟩
     rw[g.out]at ac;simp only[g.out]at ar;simp only[h.out]at au;obtain⟨am,V2,ap,a,I,J⟩:=YE wr K ac;have u:=YH Z O.1 (P.next a) (N.step a) Y I (by simp) J;clear ab ac I a J P N
     go_wp2_with(first
      |(go_at_call 13;refine u.mono ?_;clear u;rintro e X ⟨en,rfl,H,F⟩;have Q:Hid (DY w c X):=H;have al:Hid (FV c b2 L b3 ((D++K).take (c.bytes.toNat+1)) X):=F;clear H F))
     go_roundg aa
     case measure=>omega
     case rel=>exact⟨D++K,dp,rfl,by show _=_;rw[<-g.out,<-h.out,CE,Jb];exact M,by show _<=_;rw[<-h.out,DK];have:=HR.out;omega,Q,al⟩
   obtain⟨am,V2,ap,a,I,J⟩:=YE wr b aq;have u:=YH Z O.1 (P.next a) (N.step a) Y I (by simp) J;rw[M.out]at u;clear I a J P N M HR;obtain⟨f,ag⟩:∃f,Hid (C3 z=f):=⟨_,rfl⟩
   obtain⟨p,ad⟩:∃p,Hid (Co z=p):=⟨_,rfl⟩
   obtain⟨r,af⟩:∃r,Hid (D5 z=r):=⟨_,rfl⟩
   obtain⟨t,ah⟩:∃t,Hid (CD z=t):=⟨_,rfl⟩
   go_wp2_with(first
    |(go_at_call 13;refine u.mono ?_;clear u;rintro e X ⟨en,rfl,H,F⟩;have Q:Hid (DY w c X):=H;have T:=oG Z O.1 O.2 F;clear H F;unfold YC at T;rw[HZ.out,ag.out,ad.out,af.out]at T)
    |(go_at_call 14;refine T.mono ?_;clear T;rintro e o ⟨va,vn,vc,rfl,ai,_,_,ak⟩;have ao:=oO (oT ak ((AT o.heap.size o).alloc (AB _) (Af (AZ f) 31)));rw[ah.out]at ao;have y:Hid (DY w c (o.alloc (Af (AZ f) 31))):=(Q.step ai Y).next AH;clear ai ak Q)
    |(refine Bg rfl 31 _ _ rfl o.heap.size (AZ f) rfl rfl 31 _ (Ay o _) (EY f) rfl (Mq f) ?_;rw[F6])
    |(refine B3 rfl 31 _ rfl o.heap.size rfl _ _ _ _ (Ay o _) underlying31 rfl (EY f) ?_)
    |(refine EK rfl 34 _ rfl _ rfl _ [(0,Aa ⟨t.toArray⟩),(1,.agg (AZ f)),(2,A7 Ah p),(3,A7 Ah r)] ?hl (oQ t f p r) ?_;case hl=>simp[go_sem])
    |(refine Bg rfl 34 _ _ rfl (w.heap.size+1) (C4 t f p r) rfl rfl 34 _ y.told (Mu _ _ _ _) rfl (Th _ _ _ _) ?_))
   refine Bd (YG results8 _ _ (w.heap.size+1) 34 (C4 t f p r) (0,0) _ rfl (B4 _ _ _ _ _ _ y.told) underlying34 rfl (Mu _ _ _ _) _ rfl) rfl ?_;rw[ag.out,ad.out,af.out,ah.out];exact⟨rfl,Bu y.below (by omega) _⟩
 have x:Hid (Mv c s=C4 [] (0,0,0,0) (Bl c) 0):=Aq i;rw[x.out];have A:Hid (∀V,DY w c V->An prog 12 #[.agg c.arr] V λe d=>e=Ag (Ab #[A9 Ak,A7 Ah (Bl c)])/\DY w c d):=λV m=>(S V m).mono (by
  rintro e d ⟨h1,j⟩;rcases j with⟨_,j⟩|⟨j,_⟩
  ·exact⟨j,m.next h1⟩
  exact absurd j i)
 generalize Bl c=E at *;have e1:(E==0)=false:=by simpa using i
 have e2:(E != E)=false:=by simp
 have e3:(E==E)=true:=by simp
 clear x S i gp;go_enter func8,ntmps8
 go_wp2_with(first
  |(refine B3 rfl 25 _ rfl w.heap.size rfl _ _ _ _ k.cfg underlying25 rfl (Dg R) ?_)
  |(go_at_call 10;refine B.mono ?_;clear B;rintro e n ⟨rfl,a⟩;have l:Hid (DY w c n):=k.next a;clear a k;have C:=A.out n l;clear A)
  |(refine B3 rfl 25 _ rfl w.heap.size rfl _ _ _ _ l.cfg underlying25 rfl (Dg R) ?_)
  |(go_at_call 12;refine C.mono ?_;clear C;rintro e v ⟨rfl,G⟩;have q:Hid (DY w c v):=G;clear G l)
  |(refine EK rfl 34 _ rfl _ rfl _ [(2,A7 Ah E)] ?hl (oP E) ?_;case hl=>simp[go_sem])
  |(refine Bg rfl 34 _ _ rfl (w.heap.size+1) (C4 [] (0,0,0,0) E 0) rfl rfl 34 _ q.told (Mu _ _ _ _) rfl (Th _ _ _ _) ?_))
 refine Bd (YG results8 _ _ (w.heap.size+1) 34 (C4 [] (0,0,0,0) E 0) (0,0) _ rfl (B4 _ _ _ _ _ _ q.told) underlying34 rfl (Mu _ _ _ _) _ rfl) rfl ?_;exact⟨rfl,Bu q.below (by omega) _⟩
def F4:Nat->List (Int×Int)
 |0=>[]
 |k+1=>F4 k++[((k:Int),(k:Int)+1)]
theorem O6:∀k,(F4 k).length=k
 |0=>rfl
 |k+1=>by rw[F4,AC,O6 k];rfl
theorem pI{ea:A5}{L:List (Int×Int)}(h:w.ownsRow base 40 2 (A8 ea L.length cap) L.length (GM L)):Es w ea L:=by
 refine⟨λi d=>?_⟩;rcases h.2 with⟨_,k⟩|⟨g,f,j,e,_,a,l,_,m,c⟩
 ·omega
 injection e with e1 _ _;have b:=US L i d;rw[<-c,Iv (by omega),Iv (by omega)]at b;refine⟨g,0,e1,At a,?_,?_⟩
 ·rw[Df,Ar a];simpa using b.1
 rw[Df,Ar a];simpa using b.2
theorem Tryz.infoEdge:(prog.info? 40).map (λi=>(i.zero,i.size,i.bytes))=Aj (Aj (.agg #[A7 Ah 0,A7 Ah 0]),2,16):=by kernel_rfl
structure Ll(w:World)(c:AN)(z:A4)(k:Nat)(v:Value)(V:World):Prop where
 below:A1 w V
 cfg:V.heap[w.heap.size]?=some (.cells c.arr 25)
 res:V.heap[w.heap.size+1]?=some (.cells z 25)
 own:V.ownsRow (w.heap.size+2) 40 2 v k (GM (F4 k))
def It:A4:=#[A7 Ah 0,A8 Ak 0 0,A7 Ah 0,Aa ⟨#[]⟩,A7 Ah 0,A7 Ah 0,A7 Ah 0,A7 Ah 0,A7 Ah 0,A7 Ah 0,A8 Ak 0 0]
theorem pJ(w:Al)(c:AN):Ll w c It 0 (A8 Ak 0 0) ((w.alloc (Af c.arr 25)).alloc (Af It 25)) :=
 ⟨AH.trans (AH.mono (by simp)),(AL _ _ _ (by simp)).trans (Ay _ _),by have:=Ay (w.alloc (Af c.arr 25)) (Af It 25);simpa using this,FK _ _ _ _⟩
theorem Ll.app{z:A4}{v':Am}(h:Ll w c z k v V)(g:V'.ownsRow (w.heap.size+2) 40 2 v' (k+1) (GM (F4 k)++[A7 Ah k,A7 Ah ((k:Int)+1)]))(a:(V.alloc o).grownBy V' v.ownBlock):Ll w c z (k+1) v' V':=by
 have f:∀j,j<w.heap.size+2->Aj j≠v.ownBlock:=λj b e=>by have:=E7 h.own e.symm;omega
 have i:=At h.res;have d:∀j,j<w.heap.size+2->V'.heap[j]?=V.heap[j]?:=λj b=>(a.block j (by simp;omega) (f j b)).trans (AL _ _ _ (by omega));refine⟨⟨a.os.trans h.below.os,a.tape.trans h.below.tape,a.output.trans h.below.output,?_,λj b=>(d j (by omega)).trans (h.below.block j b)⟩,(d _ (by omega)).trans h.cfg,(d _ (by omega)).trans h.res,?_⟩
 ·have:=a.size;have:=h.below.size;simp at *;omega
 rw[F4,aO];exact g
theorem pK{md:Region.Mode}{ops:Array Oper}{Q:Exit->Act->Al->Prop}{S:Al->Prop}{fuel:Nat}{listed:Array Bool}{a:Act}(L:Array Bool)(b:Nat)(c:List (Nat×Am))(W':Al)(d:wpAnyH P md ops Q S b L (c.foldl (λa p=>a.put (Aj p.1) p.2) a) W'->wpAnyH P md ops Q S fuel listed a w)(e:∀A,c.foldl (λa p=>a.put (Aj p.1) p.2) a=A->wpAnyH P md ops Q S b L A W'):wpAnyH P md ops Q S fuel listed a w:=d (e _ rfl)
def JO(x:Int):Prop := -9223372036854775808<=x/\x<=9223372036854775807
def YV(c:AN):Prop:=JO c.labels/\JO c.dflt/\JO c.clr/\JO c.inn/\JO c.out/\JO c.depth/\JO c.bytes
theorem J4(x:Int)(n:Nat)(b:1<=n)(d:n<=4096)(a:JO x)(V:Al):An prog 4 #[A7 Ah x,A7 Ah (n:Int)] V λe c=>e=Ag (A7 Ah (BI x n))/\V=c:=(oI x n V b (by unfold maxLen;omega) a.1 a.2).mono λ_ _ h=>⟨h.1,h.2.symm⟩
theorem pN{t:TypeId}{size:Nat}{n:Nat}{xs:List Am}(h:W.ownsRow base t size v n xs):∃a b,v=A8 a n b:=by
 rcases h.2 with⟨rfl,rfl⟩|⟨g,b,_,rfl,_⟩
 ·exact⟨Ak,0,rfl⟩
 exact⟨_,b,rfl⟩
theorem O7{x:Obj}(h:V.heap[g]?=Aj x):(V.alloc o).heap[g]?=Aj x:=(AL _ _ _ (At h)).trans h
def Fp(c:AN)(k:Nat)(ea:A5)(ecap p2 p3 p4 p5 p6 p7:Nat)(pol:ByteArray)(bv:Am):A4:=#[A7 Ah (1+(k:Int)),A8 ea k ecap,A7 Ah p2,.string pol,A7 Ah p3,A7 Ah c.key,A7 Ah (1+(p4:Int)),A7 Ah (1+(p5:Int)),A7 Ah (1+(p6:Int)),A7 Ah (1+(p7:Int)),bv]
theorem Tv(c:AN)(k:Nat)(b:A5)(d e f g h i j:Nat)(l:ByteArray)(a:A5)(n m:Nat):(Fp c k b d e f g h i j l (A8 a n m)).all (·.oneCell')=true:=by simp[Fp,Value.oneCell']
def J5(c:AN)(k:Nat)(ea:A5)(ecap p2 p3 p4 p5 p6 p7:Nat)(pol:ByteArray)(B:List Int)(ba:A5)(bcap:Nat):AN:=⟨1+(k:Int),F4 k,ea,ecap,p2,pol,p3,c.key,1+(p4:Int),1+(p5:Int),1+(p6:Int),1+(p7:Int),B,ba,bcap⟩
theorem Tw(c:AN)(k:Nat)(a:A5)(b d e f g h i:Nat)(j:ByteArray)(B:List Int)(ba:A5)(bcap:Nat):(J5 c k a b d e f g h i j B ba bcap).arr=Fp c k a b d e f g h i j (A8 ba B.length bcap):=by
 unfold J5 AN.arr Fp;dsimp only;rw[O6]
def Qc(c:AN)(ea:A5)(ecap:Nat):ByteArray->List Int->A5->Nat->AN:=J5 c (BI c.labels 6) ea ecap (BI c.dflt (1+BI c.labels 6)) (BI c.clr (1+BI c.labels 6)) (BI c.inn 3) (BI c.out 3) (BI c.depth 16) (BI c.bytes 4096)
def Ln(c:AN)(rules:A2):ByteArray:=if c.pol.toList.isEmpty=true then⟨rules.toArray⟩else⟨rules.toArray⟩++⟨#[10]⟩++c.pol
def MD(c:AN)(rules:A2)(d:AN):Prop:=∃ea ecap,(d=Qc c ea ecap (Ln c rules) c.B c.ba c.bcap/\Bl d=0)\/(d=Qc c ea ecap ⟨rules.toArray⟩ [] Ak 0/\¬Bl (Qc c ea ecap (Ln c rules) c.B c.ba c.bcap)=0)
theorem Tx{z:A4}{ea:A5}{ecap:Nat}(h:Ll w c z k (A8 ea k ecap) U)(o:∀j,j<U.heap.size->j≠w.heap.size+1->V.heap[j]?=U.heap[j]?)(q:A1 w V)(r:k<=6){pol:ByteArray}{B:List Int}{ba:A5}{bcap:Nat}(hi:GL w ba B)(p:ba=Ak->B.length=0/\bcap=0)(n:(B.length+8)*8<=281474976710656):Et V (J5 c k ea ecap p2 p3 p4 p5 p6 p7 pol B ba bcap):=by
 have l:V.ownsRow (w.heap.size+2) 40 2 (A8 ea k ecap) k (GM (F4 k)):=by
  refine⟨h.own.1,?_⟩;rcases h.own.2 with a|⟨g,f,i,a,d,b,m⟩
  ·exact .inl a
  exact .inr ⟨g,f,i,a,d,(o g (At b) (by omega)).trans b,m⟩
 refine⟨pI (show V.ownsRow (w.heap.size+2) 40 2 (A8 ea (F4 k).length ecap) (F4 k).length (GM (F4 k)) by rw[O6];exact l),hi.below q,λe=>?_,p,?_,n⟩
 ·show(F4 k).length=0/\ecap=0;rw[O6];have e:ea=Ak:=e;subst e;rcases l.2 with⟨a,d⟩|⟨g,f,i,a,_⟩
  ·injection a with _ _ b;exact⟨d,b⟩
  injection a with a;cases a
 show((F4 k).length+8)*16<=_;rw[O6];omega
theorem YW{rules:A2}{P:ByteArray}(a:A5)(b:Nat)(d:BI c.labels 6=k)(e:BI c.dflt (1+k)=p2)(f:BI c.clr (1+k)=p3)(g:BI c.inn 3=p4)(i:BI c.out 3=p5)(j:BI c.depth 16=p6)(l:BI c.bytes 4096=p7)(n:Ln c rules=P){E:Int}(m:Bl (J5 c k a b p2 p3 p4 p5 p6 p7 P c.B c.ba c.bcap)=E):(E=0->MD c rules (J5 c k a b p2 p3 p4 p5 p6 p7 P c.B c.ba c.bcap))/\(¬E=0->MD c rules (J5 c k a b p2 p3 p4 p5 p6 p7 ⟨rules.toArray⟩ [] Ak 0)):=by
 subst d e f g i j l n m;exact⟨λh=>⟨a,b,.inl ⟨rfl,h⟩⟩,λh=>⟨a,b,.inr ⟨rfl,h⟩⟩⟩
structure Ge(U:World)(d:A4)(V:World):Prop where
 below:A1 U V
 box:V.heap[U.heap.size]?=some (.cells d 25)
theorem pO(U:Al)(d:A4):Ge U d ((({U with drawn:=U.drawn+1}:Al).alloc (Af It 25)).setRow U.heap.size d) :=
 ⟨Bu (((AT U.heap.size U).drew).alloc (AB _) _) (AB _) _,B4 _ _ _ _ _ _ (Ay {U with drawn:=U.drawn+1} _)⟩
theorem Ge.set(h:Ge U d V)(j:Nat)(v:Am):Ge U (d.setIfInBounds j v) (V.setCell ⟨U.heap.size,j,Ak⟩ v) :=
 ⟨⟨h.below.os,h.below.tape,h.below.output,by have:=h.below.size;simpa[World.setCell]using this,λk a=>(BV _ _ _ _ (by show k≠U.heap.size;omega)).trans (h.below.block k a)⟩,DJ _ _ _ _ _ _ h.box⟩
theorem Ge.next(h:Ge U d V)(a:A1 V V'):Ge U d V' :=
 ⟨h.below.trans (a.mono h.below.size),(a.block _ (At h.box)).trans h.box⟩
theorem Ge.old(h:Ge U d V)(e:U.heap[g]?=Aj (Af cs 25))(j:Nat):V.cell? ⟨g,j,Ak⟩=cs[j]?:=Ar ((h.below.block g (At e)).trans e) j
theorem Ku(h:Ll w c It k v U)(a:Ge U d V):(V.setRow (w.heap.size+1) d).heap[w.heap.size+1]?=Aj (Af d 25)/\A1 w (V.setRow (w.heap.size+1) d)/\∀j,j<U.heap.size->j≠w.heap.size+1->(V.setRow (w.heap.size+1) d).heap[j]?=U.heap[j]? :=
 ⟨B4 _ _ _ _ _ _ ((a.below.block _ (At h.res)).trans h.res),Bu (h.below.trans (a.below.mono h.below.size)) (by omega) _,λj b e=>(BO _ _ _ _ e).trans (a.below.block j b)⟩
theorem pP(c:AN)(w:Al)(O:Et w c)(hk:YV c)(ht:EE w.heap.size w)(G:A2)(hr:G.length<=100)(bi:c.pol.size<=281474976710656):An prog 5 #[.agg c.arr,Aa ⟨G.toArray⟩] w λe V=>∃ae,e=Ag (.agg ae.arr)/\Et V ae/\A1 w V/\MD c G ae:=by
 have HS:=Ap c.size;have f:=Ap (pJ w c);have ab:=J4 c.labels 6 (by omega) (by omega) hk.1;obtain⟨m,W⟩:∃m,Hid (BI c.labels 6=m):=⟨_,show _=_ from rfl⟩
 simp only[W.out]at ab;have hm:m<6:=by rw[<-W.out];exact Fx _ _ (by omega)
 have ac:=J4 c.dflt (1+m) (by omega) (by omega) hk.2.1;have ad:=J4 c.clr (1+m) (by omega) (by omega) hk.2.2.1;have aj:=J4 c.inn 3 (by omega) (by omega) hk.2.2.2.1;have ak:=J4 c.out 3 (by omega) (by omega) hk.2.2.2.2.1;have al:=J4 c.depth 16 (by omega) (by omega) hk.2.2.2.2.2.1;have am:=J4 c.bytes 4096 (by omega) (by omega) hk.2.2.2.2.2.2;have an:(((1+m:Nat):Int))=1+(m:Int):=by omega
 rw[an]at ac ad;obtain⟨C,X⟩:∃p,Hid (BI c.dflt (1+m)=p):=⟨_,show _=_ from rfl⟩
 have bc:C<(1+m):=by rw[<-X.out];exact Fx _ _ (by omega)
 simp only[X.out]at ac;obtain⟨D,Y⟩:∃p,Hid (BI c.clr (1+m)=p):=⟨_,show _=_ from rfl⟩
 have bd:D<(1+m):=by rw[<-Y.out];exact Fx _ _ (by omega)
 simp only[Y.out]at ad;obtain⟨q,u⟩:∃p,Hid (BI c.inn 3=p):=⟨_,show _=_ from rfl⟩
 have be:q<3:=by rw[<-u.out];exact Fx _ _ (by omega)
 simp only[u.out]at aj;obtain⟨r,i⟩:∃p,Hid (BI c.out 3=p):=⟨_,show _=_ from rfl⟩
 have bf:r<3:=by rw[<-i.out];exact Fx _ _ (by omega)
 simp only[i.out]at ak;obtain⟨s,j⟩:∃p,Hid (BI c.depth 16=p):=⟨_,show _=_ from rfl⟩
 have bg:s<16:=by rw[<-j.out];exact Fx _ _ (by omega)
 simp only[j.out]at al;obtain⟨t,h⟩:∃p,Hid (BI c.bytes 4096=p):=⟨_,show _=_ from rfl⟩
 have bh:t<4096:=by rw[<-h.out];exact Fx _ _ (by omega)
 simp only[h.out]at am;have ax:=Ap (FW (1+(q:Int)) (by omega));have ay:=Ap (FW (1+(r:Int)) (by omega));have az:=Ap (FW (1+(s:Int)) (by omega));have a0:=Ap (FW (1+(t:Int)) (by omega));clear hk an;go_enter func5,ntmps5;have c0:_=Aj (Value.int Ah c.labels):=Ar f.cfg 0;unfold It at c0
 go_wp2_with(first
  |(go_at_call 4;refine(ab _).mono ?_;clear ab;rintro e w2 ⟨rfl,rfl⟩))
 clear c0
 go_loopg[6,7] m (λaf ye yi V=>∃k:Nat,yi=A7 Ah ((k:Int)+1)/\Hid (k<=m/\m<=k+af)/\Hid (Ll w c It k ye V))
 case atStart=>exact⟨0,rfl,⟨Cy _,by omega⟩,f⟩
 case round =>
  clear f;obtain⟨k,rfl,R,f⟩:=hrel;by_cases a1:(k:Int)+1<1+(m:Int)
  ·cases gk with
   |zero=>have:=R.out;omega
   |succ af =>
    have a9:k<=5:=by have:=R.out;omega
    have bk:((k:Int)+1-1)=(k:Int):=by omega
    obtain⟨i0,hi,a3,a4,a5⟩:=BH Tryz.infoEdge
    go_wp2_with(first
     |(at_builtin;refine Bz _ rfl _ _ 22 rfl (w.heap.size+2) 40 i0 (.agg #[A7 Ah 0,A7 Ah 0]) 2 16 underlying22 hi a3 a4 a5 rfl (by decide) _ _ _ rfl (f.own.alloc _) ⟨wr.heap.size,0,Ak⟩ 1 1 [A7 Ah k,A7 Ah ((k:Int)+1)] rfl rfl (Bf _ _ _) (λbl hu=>by simp at hu;rcases hu with rfl|rfl<;>rfl) (by unfold maxLen;omega) (by omega) (by have:=At f.res;simp;omega) ?_;intro v' w5 ar aq a2;clear a2;have aw:=Ap (f.app ar aq);clear ar aq f))
    go_roundg af
    case measure=>omega
    case rel=>exact⟨k+1,congrArg (Value.int Ah) (by omega),by have:=R.out;show _/\_;omega,aw⟩
  have hk:k=m:=by have:=R.out;omega
  subst hk
  go_wp2_with fail
  obtain⟨v,y,rfl⟩:=pN f.own;refine Cp (S:=λZ=>Z.heap[w.heap.size]?=Aj (Af c.arr 25)) f.cfg (by kernel_rfl) ?_;intro l;have I:=(O7 (o:=Af It 25) l)
  refine Au 0 27 (A7 Ah (1+(k:Int))) l ?_;refine Au 1 28 (A8 v k y) l ?_;refine Au 4 31 (A7 Ah (1+(k:Int))) l ?_;refine Au 8 35 (A7 Ah (1+(k:Int))) l ?_;refine Au 2 29 (A9 (Aj ⟨w.heap.size,2,Ak⟩)) l ?_;refine Au 6 33 (A9 (Aj ⟨w.heap.size,4,Ak⟩)) l ?_;refine Au 10 37 (A9 (Aj ⟨w.heap.size,5,Ak⟩)) l ?_;refine Au 12 39 (A9 (Aj ⟨w.heap.size,6,Ak⟩)) l ?_;refine Au 16 43 (A9 (Aj ⟨w.heap.size,7,Ak⟩)) l ?_;refine Au 20 47 (A9 (Aj ⟨w.heap.size,8,Ak⟩)) l ?_;refine Au 24 51 (A9 (Aj ⟨w.heap.size,9,Ak⟩)) l ?_;refine Au 28 55 (A9 (Aj ⟨w.heap.size,10,Ak⟩)) l ?_;refine AD 3 30 (A7 Ah c.dflt) rfl (λZ H=>by have z:_=Aj (Value.int Ah c.dflt):=Ar H 2;go_simp) l ?_;refine AD 7 34 (A7 Ah c.clr) rfl (λZ H=>by have z:_=Aj (Value.int Ah c.clr):=Ar H 4;go_simp) l ?_;refine AD 11 38 (A7 Ah c.key) rfl (λZ H=>by have z:_=Aj (Value.int Ah c.key):=Ar H 5;go_simp) l ?_;refine AD 13 40 (A7 Ah c.inn) rfl (λZ H=>by have z:_=Aj (Value.int Ah c.inn):=Ar H 6;go_simp) l ?_;refine AD 17 44 (A7 Ah c.out) rfl (λZ H=>by have z:_=Aj (Value.int Ah c.out):=Ar H 7;go_simp) l ?_;refine AD 21 48 (A7 Ah c.depth) rfl (λZ H=>by have z:_=Aj (Value.int Ah c.depth):=Ar H 8;go_simp) l ?_;refine AD 25 52 (A7 Ah c.bytes) rfl (λZ H=>by have z:_=Aj (Value.int Ah c.bytes):=Ar H 9;go_simp) l ?_;refine AD 29 56 (A8 c.ba c.B.length c.bcap) rfl (λZ H=>by have z:_=Aj (Value.slice c.ba c.B.length c.bcap):=Ar H 10;go_simp) l ?_;refine pK #[true,true,true,true,true,true,true,true,true,true,true,true,true,true,true,true,true,true,true,true,true,true,true,true,true,true,true,true,true,true,true,true,false] 1 [(32,A7 Ah C),(36,A7 Ah D),(41,A7 Ah q),(45,A7 Ah r),(49,A7 Ah s),(53,A7 Ah t),(42,A7 Ah (1+(q:Int))),(46,A7 Ah (1+(r:Int))),(50,A7 Ah (1+(s:Int))),(54,A7 Ah (1+(t:Int))),(57,.agg (Fp c k v y C D q r s t ⟨#[]⟩ (A8 c.ba c.B.length c.bcap))),(8,A9 (Aj ⟨wr.heap.size,0,Ak⟩))] (({wr with drawn:=wr.drawn+1}:Al).alloc (Af It 25)) (λau=>?reg) ?tail
  case reg =>
   clear O ht f R a1 hm;have n:=l
   all_goals
    first
    |(have _:=F;refine Bc 5 (λK b=>?_))
    |(refine Gm 5 31 (λK b=>?_) (λK b=>?_);rotate_left;(go_simp;refine b.out _ _ I (λ_=>?_);clear b n;have n:=I;have F:=IC;refine Bc 5 (λK b=>?_)))
   all_goals
    go_simp;refine(ac _).mono ?_;rintro e M ⟨rfl,rfl⟩;refine b.out _ _ n (λ_=>?_);clear b
   all_goals
    first
    |(have _:=F;refine Bc 9 (λK b=>?_))
    |(refine Gm 9 31 (λK b=>?_) (λK b=>?_);rotate_left;(go_simp;refine b.out _ _ I (λ_=>?_);clear b n;have n:=I;have F:=IC;refine Bc 9 (λK b=>?_)))
   all_goals
    go_simp;refine(ad _).mono ?_;rintro e M ⟨rfl,rfl⟩;refine b.out _ _ n (λ_=>?_);clear b
   all_goals
    first
    |(have _:=F;refine Bc 14 (λK b=>?_))
    |(refine Gm 14 31 (λK b=>?_) (λK b=>?_);rotate_left;(go_simp;refine b.out _ _ I (λ_=>?_);clear b n;have n:=I;have F:=IC;refine Bc 14 (λK b=>?_)))
   all_goals
    go_simp;refine(aj _).mono ?_;rintro e M ⟨rfl,rfl⟩;refine b.out _ _ n (λ_=>?_);clear b;refine AD 15 42 (A7 Ah (1+(q:Int))) rfl (λZ _=>by go_simp<;>exact ax) n ?_
   all_goals
    first
    |(have _:=F;refine Bc 18 (λK b=>?_))
    |(refine Gm 18 31 (λK b=>?_) (λK b=>?_);rotate_left;(go_simp;refine b.out _ _ I (λ_=>?_);clear b n;have n:=I;have F:=IC;refine Bc 18 (λK b=>?_)))
   all_goals
    go_simp;refine(ak _).mono ?_;rintro e M ⟨rfl,rfl⟩;refine b.out _ _ n (λ_=>?_);clear b;refine AD 19 46 (A7 Ah (1+(r:Int))) rfl (λZ _=>by go_simp<;>exact ay) n ?_
   all_goals
    first
    |(have _:=F;refine Bc 22 (λK b=>?_))
    |(refine Gm 22 31 (λK b=>?_) (λK b=>?_);rotate_left;(go_simp;refine b.out _ _ I (λ_=>?_);clear b n;have n:=I;have F:=IC;refine Bc 22 (λK b=>?_)))
   all_goals
    go_simp;refine(al _).mono ?_;rintro e M ⟨rfl,rfl⟩;refine b.out _ _ n (λ_=>?_);clear b;refine AD 23 50 (A7 Ah (1+(s:Int))) rfl (λZ _=>by go_simp<;>exact az) n ?_
   all_goals
    first
    |(have _:=F;refine Bc 26 (λK b=>?_))
    |(refine Gm 26 31 (λK b=>?_) (λK b=>?_);rotate_left;(go_simp;refine b.out _ _ I (λ_=>?_);clear b n;have n:=I;have F:=IC;refine Bc 26 (λK b=>?_)))
   all_goals
    go_simp;refine(am _).mono ?_;rintro e M ⟨rfl,rfl⟩;refine b.out _ _ n (λ_=>?_);clear b;refine AD 27 54 (A7 Ah (1+(t:Int))) rfl (λZ _=>by go_simp<;>exact a0) n ?_;refine AD 30 57 (.agg (Fp c k v y C D q r s t ⟨#[]⟩ (A8 c.ba c.B.length c.bcap))) rfl (λZ _=>by kernel_rfl) n ?_
   all_goals
    first
    |(have _:=F;exact cast (by kernel_rfl) au)
    |(refine Bc 31 (λK b=>?_);go_simp;refine b.out _ _ I (λ_=>?_);exact cast (by kernel_rfl) au)
  case tail =>
   have U:=Ap (pO wr (Fp c k v y C D q r s t ⟨#[]⟩ (A8 c.ba c.B.length c.bcap)));intro ag F;have h8:ag.eval (.tmp 8)=A9 (Aj ⟨wr.heap.size,0,Ak⟩):=by rw[<-F];kernel_rfl
   have ap:ag.eval (.tmp 57)=.agg (Fp c k v y C D q r s t ⟨#[]⟩ (A8 c.ba c.B.length c.bcap)):=by rw[<-F];kernel_rfl
   refine N9 (fuel:=0) (rs:=[32]) (by kernel_rfl) (by simp) (LF (o := ?o) ?hi ?hk N6)
   case hi=>exact rfl
   intro K b;rw[As (by kernel_rfl)];refine IB 25 (.tmp 8) (.tmp 57) rfl wr.heap.size (Fp c k v y C D q r s t ⟨#[]⟩ (A8 c.ba c.B.length c.bcap)) h8 ap 25 It (Ay {wr with drawn:=wr.drawn+1} _) (Dg rfl) rfl (Tv ..) ?_;refine b.out _ _ ((U.below.block _ (At f.cfg)).trans f.cfg) (λ_=>?_);clear b l I h8 ap;subst F;generalize(({wr with drawn:=wr.drawn+1}:Al).alloc (Af It 25)).setRow wr.heap.size (Fp c k v y C D q r s t ⟨#[]⟩ (A8 c.ba c.B.length c.bcap))=V1 at *;refine Bw ?_;go_simp;have c3:_=Aj (Value.string ⟨#[]⟩):=Ar U.box 3;have f3:=Cx _ _ 3 _ _ U.box;have Q:Hid (Ge wr (Fp c k v y C D q r s t ⟨G.toArray⟩ (A8 c.ba c.B.length c.bcap)) _):=U.set 3 (Aa ⟨G.toArray⟩);have q3:_=Aj (Value.string c.pol):=Q.old f.cfg 3;have bj:¬9223372036854775807<G.length+1+c.pol.size:=by omega
   have ah:Hid (∀P V,Ge wr (Fp c k v y C D q r s t P (A8 c.ba c.B.length c.bcap)) V->∃E av,Hid (Bl (J5 c k v y C D q r s t P c.B c.ba c.bcap)=E)/\An prog 10 #[.agg (Fp c k v y C D q r s t P (A8 c.ba c.B.length c.bcap))] V λe M=>e=Ag (Ab #[A7 Ah E,A7 Ah av])/\A1 V M):=λP V hV=>by
    have ao:=YD (J5 c k v y C D q r s t P c.B c.ba c.bcap) V (Tx f (λa7 hj _=>hV.below.block a7 hj) (f.below.trans (hV.below.mono f.below.size)) (by omega) O.ints O.bn O.bb) (ht.below (f.below.trans (hV.below.mono f.below.size))).gl;rw[Tw]at ao;exact⟨_,_,rfl,ao⟩
   by_cases a:c.pol.toList.isEmpty=true;have d:=Ap (show Ln c G=_ from As a);have L:=Q
   rotate_left
   have d:=Ap (show Ln c G=_ from Aq a);have d3:_=Aj (Value.string ⟨G.toArray⟩):=Ar Q.box 3;have g3:=Cx _ _ 3 _ _ Q.box;have L:Hid (Ge wr (Fp c k v y C D q r s t ((⟨G.toArray⟩:ByteArray)++(⟨#[10]⟩:ByteArray)++c.pol) (A8 c.ba c.B.length c.bcap)) _):=Q.set 3 (.string ((⟨G.toArray⟩:ByteArray)++(⟨#[10]⟩:ByteArray)++c.pol));have a:=Bool.eq_false_iff.2 a
   rotate_left
   all_goals
    obtain⟨E,av,ai,x⟩:=ah.out _ _ L;have HC:=Ap O;clear ah O ht;by_cases A:E=0
    ·subst A
     go_wp2_with(first
      |(refine B3 rfl 25 _ rfl wr.heap.size rfl _ _ _ _ L.box underlying25 rfl (Dg rfl) ?_)
      |(go_at_call 10;refine x.mono ?_;clear x;rintro e w5 ⟨rfl,T⟩;have J:=Ap (L.next T);clear L T)
      |(refine B3 rfl 25 _ rfl wr.heap.size rfl _ _ _ _ J.box underlying25 rfl (Dg rfl) ?_)
      |(refine Bg rfl 25 _ _ rfl (w.heap.size+1) (Fp c k v y C D q r s t _ (A8 c.ba c.B.length c.bcap)) rfl rfl 25 _ ((J.below.block _ (At f.res)).trans f.res) (Dg rfl) rfl (Tv ..) ?_))
     refine Bd (KG results5 _ _ (w.heap.size+1) 25 _ (0,0) _ rfl (Ku f J).1 underlying25 rfl (Dg rfl)) rfl ⟨_,congrArg (λaa=>Ending.returned (.agg aa)) (Tw ..).symm,Tx f (Ku f J).2.2 (Ku f J).2.1 (by omega) HC.ints HC.bn HC.bb,(Ku f J).2.1,(YW v y W X Y u i j h d ai).1 rfl⟩
    have HN:=Ap A;have A:(E==0)=false:=by simpa using A
    go_wp2_with(first
     |(refine B3 rfl 25 _ rfl wr.heap.size rfl _ _ _ _ L.box underlying25 rfl (Dg rfl) ?_)
     |(go_at_call 10;refine x.mono ?_;clear x;rintro e w5 ⟨rfl,T⟩;have J:=Ap (L.next T);clear L T;have c3:_=Aj (Value.string _):=Ar J.box 3;have f3:=Cx _ _ 3 _ _ J.box;have g:Hid (Ge wr (Fp c k v y C D q r s t ⟨G.toArray⟩ (A8 c.ba c.B.length c.bcap)) _):=J.set 3 (Aa ⟨G.toArray⟩);have a8:_=Aj (Value.slice _ _ _):=Ar g.box 10;have f10:=Cx _ _ 10 _ _ g.box;have N:Hid (Ge wr (Fp c k v y C D q r s t ⟨G.toArray⟩ (A8 Ak 0 0)) _):=g.set 10 (A8 Ak 0 0))
     |(refine B3 rfl 25 _ rfl wr.heap.size rfl _ _ _ _ N.box underlying25 rfl (Dg rfl) ?_)
     |(refine Bg rfl 25 _ _ rfl (w.heap.size+1) (Fp c k v y C D q r s t ⟨G.toArray⟩ (A8 Ak 0 0)) rfl rfl 25 _ ((N.below.block _ (At f.res)).trans f.res) (Dg rfl) rfl (Tv ..) ?_))
    refine Bd (KG results5 _ _ (w.heap.size+1) 25 _ (0,0) _ rfl (Ku f N).1 underlying25 rfl (Dg rfl)) rfl ⟨_,congrArg (λaa=>Ending.returned (.agg aa)) (Tw c k v y C D q r s t ⟨G.toArray⟩ [] Ak 0).symm,Tx f (Ku f N).2.2 (Ku f N).2.1 (by omega) (B:=[]) (ba:=Ak) (bcap:=0) ⟨λa6 hi=>absurd hi (Nat.not_lt_zero a6)⟩ (λ_=>⟨rfl,rfl⟩) (by simp),(Ku f N).2.1,(YW v y W X Y u i j h d ai).2 HN⟩
end
end Go.Proofs.YtoegnhgofkhbnaaGreatDoor
