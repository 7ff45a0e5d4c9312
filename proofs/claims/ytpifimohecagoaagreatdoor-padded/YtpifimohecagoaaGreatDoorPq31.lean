import Derived.Test.YtpifimohecagoaaGreatDoorPq29
import Derived.Test.YtpifimohecagoaaGreatDoorPq30
set_option maxRecDepth 100000
set_option maxHeartbeats 8000000
namespace Go.Proofs.YtpifimohecagoaaGreatDoor
open Go.Proofs.Tryz
variable{V V' W W' W0 w:World}{A L b b0 j mn:Nat}{q:Aut}{sts:List ((Nat->Nat)×Int×Int)}{bv sv v:Value}{mf nf:Lit->Option Nat}{c:Cfg}{fed l:List UInt8}{z:Cz}
section
open Go.RowKit Go.Lib
def qsV(A:Nat)(q:Aut)(own0:Option Nat)(j:Nat):Prop:=j=A\/j=q.lm\/j=q.tb\/j=q.nb\/j=q.mb\/own0=some j
theorem qyU(h:qcx W0 A q sts sv nf mn mf W){cs:Array Value}(a:W.heap[L]?=some (.cells cs 79))(b:qsV A q sv.ownBlock j):j≠L:=by
 intro e;subst e;rcases b with rfl|rfl|rfl|rfl|rfl|b
 ·rw[h.row]at a;injection a with a;injection a with _ a _;exact absurd a (by decide)
 ·exact qaJ h.letters a
 ·obtain⟨d,c,_⟩:=h.takes;rw[c]at a;injection a with a;injection a with _ a _;exact absurd a (by decide)
 ·exact qaJ h.numbers a
 ·exact qaJ h.moves a
 exact absurd (qfZ h.states b a) (by decide)
theorem qtS(h:qcx W0 A q sts sv nf mn mf W)(a:qsV A q sv.ownBlock j):j<W.heap.size:=by
 have c:∀{d:TypeId} {m n:Nat} {f:Lit->Option Nat},qdm W d m n f->m<W.heap.size:=by
  rintro d m n f ⟨D,⟨r,p,i,_⟩,_⟩;exact ltA i
 rcases a with rfl|rfl|rfl|rfl|rfl|a
 ·exact ltA h.row
 ·exact c h.letters
 ·obtain⟨e,l,_⟩:=h.takes;exact ltA l
 ·exact c h.numbers
 ·exact c h.moves
 rcases h.states.2 with⟨b,_⟩|⟨g,o,e,b,_,k,_⟩
 ·rw[b]at a;cases a
 rw[b]at a;injection a with a;have a:g=j:=a;rw[<-a];exact ltA k
theorem GOp.step{sa:Option Addr}{sc:Nat}(h:GOp c W0 L A q sts sa sc nf mf bv W)(l:W0.heap.size<=L)(d:W'.os=W.os/\W'.tape=W.tape/\W'.output=W.output)(k:W.heap.size<=W'.heap.size)(e:∀j,j<L->W'.heap[j]?=W.heap[j]?)(i:∀j,qsV A q (Value.slice sa sts.length sc).ownBlock j->W'.heap[j]?=W.heap[j]?):GOp c W0 L A q sts sa sc nf mf bv W':=by
 have a:=h.cp.au.below;refine⟨{h.cp with au:=h.cp.au.rebase rfl ⟨d.1.trans a.os,d.2.1.trans a.tape,d.2.2.trans a.output,Nat.le_trans a.size k,λj f=>(e j (by omega)).trans (a.block j f)⟩ h.cp.au.rules i},h.bk.same (λ_ b=>b) (λg b=>e g b.2),h.bs⟩
def qlj(c:Cfg)(b0 L b:Nat)(fed:List UInt8)(W:World):Prop :=
 ∃W0 A q sts sa sc nf mf bv fa fn fc,GOp c W0 L A q sts sa sc nf mf bv W/\(b0<=W0.heap.size/\W0.heap.size<=L/\L<b/\b<=W.heap.size)/\qhR b0 W0/\W.heap[L]?=some (.cells (qaz (gtC c A bv) (.slice fa fn fc) false) 79)/\Own W b (.slice fa fn fc) fed/\(∀j,qsV A q (Value.slice sa sts.length sc).ownBlock j->j<b)/\fed.length<=c.bytes.toNat+1
theorem qlj.tab(h:qlj c b0 L b fed W):qhR b0 W:=by
 obtain⟨f,A,q,p,n,o,m,l,g,i,k,j,a,d,e,_⟩:=h;exact e.below (a.cp.au.below.mono d.1)
theorem qlj.step(h:qlj c b0 L b fed W)(a:Below W.heap.size W W'):qlj c b0 L b fed W':=by
 obtain⟨i,A,q,y,w,x,v,u,k,l,n,m,e,d,o,f,p,r,s⟩:=h;have t:=ltA f;refine⟨i,A,q,y,w,x,v,u,k,l,n,m,e.step d.2.1 ⟨a.os,a.tape,a.output⟩ a.size (λj g=>a.block j (by omega)) (λj g=>a.block j (qtS e.cp.au g)),⟨d.1,d.2.1,d.2.2.1,Nat.le_trans d.2.2.2 a.size⟩,o,(a.block L t).trans f,qgx p a,r,s⟩
theorem qzN(c:Cfg)(w:World)(o:qin w c)(i:qhR w.heap.size w):Calls prog 9 #[.agg c.arr] w λe f=>Below w.heap.size w f/\((¬qb3 c=0/\e=.returned (.tuple #[.pointer none,.int .i64 (qb3 c)]))\/(qb3 c=0/\∃L,e=.returned (.tuple #[.pointer (some ⟨L,0,none⟩),.int .i64 0])/\qlj c w.heap.size L f.heap.size [] f)):=by
 refine(qtZ c w o i.gl (λh=>(qk4 h).b8)).mono ?_;rintro e f ⟨a,b⟩;refine⟨a,?_⟩;rcases b with b|⟨b,l,L,A,q,x,u,v,t,s,n,rfl,m,p,C,r,k⟩
 ·exact .inl b
 refine .inr ⟨b,L,rfl,l,A,q,x,u,v,t,s,n,none,0,0,k,⟨m,p,by omega,Nat.le_refl _⟩,?_,?_,qi1 f,λj g=>qtS k.cp.au g,Nat.zero_le _⟩
 ·have d:=k.cp.au.below;have z:∀q,q<9->l.heap[q]?=w.heap[q]?:=λq B=>by
   have y:=i.big.1;rw[<-d.block q (by omega)];exact a.block q (by omega)
  refine i.below ⟨d.os.symm.trans a.os,d.tape.symm.trans a.tape,d.output.symm.trans a.output,m,λj g=>?_⟩;rw[<-d.block j (by omega)];exact a.block j g
 rw[<-qwg (qk4 b)];exact r
theorem qiv(a:∀q,q<9->V.heap[q]?=W.heap[q]?)(h:qcS W):qcS V:=by
 refine⟨h.u8.low a,⟨λu b=>qbz a (by decide) (h.hd.cb u b),λu b=>⟨qbz a (by decide) (h.hd.pk u b).1,qbz a (by decide) (h.hd.pk u b).2.1,qbz a (by decide) (h.hd.pk u b).2.2⟩⟩,?_⟩;have c:=a 8 (by omega);have d:=h.big;rw[Array.getElem?_eq_getElem (show 8<W.heap.size by omega)]at c;exact ltA c
theorem qty(ck:qoI c){U:World}(g:qcS U)(b:Option Addr)(d:Nat)(l:List UInt8)(i:l.length<=4097)(f:qav U b l)(A:Nat)(a:Value):Calls prog 49 #[.int .i64 (gtC c A a).inF,.agg #[.int .i64 (gtC c A a).depth,.int .i64 (gtC c A a).bytes],.slice b l.length d] U (qgW (kC c) U (qgn c.inn l c.depth c.bytes)):=by
 have e:((c.bytes.toNat:Nat):Int)=c.bytes:=Int.toNat_of_nonneg (by have:=ck.byt;omega);have h:=qkX U c.inn b l d c.depth c.bytes ck.inn f g (by have:=ck.dep;omega) (by have:=ck.dep;omega) (by omega);rw[<-e]at h;rw[e]at h;unfold gtC;dsimp only;rw[e];exact h
structure GPr(c:Cfg):Prop where
 doc:∀{U:World},qcS U->∀(fa:Option Addr) (fc:Nat) (l:List UInt8),l.length<=4097->qav U fa l->∀(A:Nat) (bv:Value),Calls prog 49 #[.int .i64 (gtC c A bv).inF,.agg #[.int .i64 (gtC c A bv).depth,.int .i64 (gtC c A bv).bytes],.slice fa l.length fc] U (qgW (kC c) U (qgn c.inn l c.depth c.bytes))
 bad:∀l en pl,qgn c.inn l c.depth c.bytes=.error (en,pl)->en≠0
 size:∀l x,qgn c.inn l c.depth c.bytes=.ok x->∀k,szF k x+30<=400*l.length
theorem qrq(ck:qoI c):GPr c:=⟨λi d e l g f A a=>qty ck i d e l g f A a,λl b j h=>(qmB _ _ _ _ (by have:=ck.dep;omega) b j h).1,λl x h k=>qkq _ _ _ _ (by have:=ck.dep;omega) h k⟩
def qsu(c:Cfg)(fed bs:List UInt8):List UInt8:=fed++bs.take (c.bytes.toNat+1-fed.length)
theorem qzw(ck:qoI c)(u:GPr c)(h:qlj c b0 L b fed W)(i:Option Addr)(g:Nat)(bs:List UInt8)(G:qav W i bs)(N:i=none->g=0)(H:bs.length<=g):Calls prog 10 #[.pointer (some ⟨L,0,none⟩),.slice i bs.length g] W λe f=>e=.returned (.int .i64 (qyF (qgn c.inn (qsu c fed bs) c.depth c.bytes) (qsu c fed bs).length))/\qlj c b0 L b (qsu c fed bs) f/\W.heap.size<=f.heap.size/\Below b0 W f:=by
 have O:=h.tab;obtain⟨B,A,q,Y,V,X,T,S,l,r,t,s,v,d,w,x,y,z,D⟩:=h;have Z:=ck.byt;have J:(qsu c fed bs).length<=c.bytes.toNat+1:=by
  unfold qsu;rw[List.length_append,List.length_take];omega
 have I:=qsy (kC c) W L b (gtC c A l) (qji c A) (.slice r t s) fed i g bs (qsu c fed bs) rfl x y d.2.2.1 G N H (by show c.bytes.toNat<=4096;omega) D (qgn c.inn (qsu c fed bs) c.depth c.bytes) (u.bad _) (λU m n F E=>u.doc (qiv (λq hq=>F q (by have:=w.big.1;omega)) O.rd) m n _ (by omega) E A l);refine I.mono ?_;rintro e f ⟨m,C,n,rfl,P,Q,k,p,R⟩;have M:∀j,j<b->some j≠(Value.slice r t s).ownBlock:=λj a e=>by have:=qbE y.1 e.symm;omega
 have o:∀j,j<b->j≠L->f.heap[j]?=W.heap[j]?:=λj a K=>R j (by omega) K (M j a);refine⟨rfl,⟨B,A,q,Y,V,X,T,S,l,m,C,n,v.step d.2.1 k p (λj a=>o j (by omega) (by omega)) (λj a=>o j (z j a) (qyU v.cp.au x a)),⟨d.1,d.2.1,d.2.2.1,Nat.le_trans d.2.2.2 p⟩,w,Q,P,z,J⟩,p,k.1,k.2.1,k.2.2,by omega,λj a=>o j (by omega) (by omega)⟩

theorem qsA(h:∃a b,bv=.slice a c.B.length b)(e:Option Addr)(g f:Nat)(d:Bool):(qaz (gtC c A bv) (.slice e g f) d).all (·.oneCell')=true:=by
 obtain⟨a,b,rfl⟩:=h;unfold qaz gtC rcC;dsimp only;rw[Array.all_append,Array.all_append,Array.all_append,qfu];simp[Value.oneCell']
theorem qrK(h:Own W b v l)(c:W.heap.size<=W'.heap.size)(a:∀g,v.ownBlock=some g->W'.heap[g]?=W.heap[g]?):Own W' b v l:=⟨qd9 h.1 a,Nat.le_trans h.2.1 c,h.2.2⟩
theorem qxl(h:Own W b v l){g:Nat}(e:v.ownBlock=some g):g<W.heap.size:=by
 rcases h.1.2 with⟨a,_⟩|⟨c,f,i,a,_,d,_⟩
 ·rw[a]at e;cases e
 rw[a]at e;injection e with e;have e:c=g:=e;rw[<-e];exact ltA d
def qu1(c:Cfg)(b0 L:Nat)(l:List UInt8)(W:World)(e:Ending)(V':World):Prop :=
 ∃va vn vc,e=.returned (.tuple #[.slice va vn vc,.agg (qaH (czR (clO c l))),.int .i64 (czE (clO c l)),.int .i64 (czP (clO c l))])/\Below b0 W V'/\W.heap.size<=V'.heap.size/\V'.heap[L]?=some (.cells (qaz gtZ (.slice none 0 0) true) 79)/\CzV V' W.heap.size (.slice va vn vc) (clO c l)
structure GPw(c:Cfg):Prop where
 rw:∀{b:Nat} {W0:World} {L A:Nat} {q:Aut} {sts:List ((Nat->Nat)×Int×Int)} {sa:Option Addr} {sc:Nat} {nf mf:Lit->Option Nat} {bv:Value} {V U:World} (_h:GOp c W0 L A q sts sa sc nf mf bv V) (_ht:qhR b W0) (_hU:Below V.heap.size V U) {t:TypeId} {y:Value} {d:DataW Unit} (_hd:qai (kC c) V (λj=>j<V.heap.size) (.iface t y) d) (_hsz:szF (kC c) d<=2000000),Calls prog 50 #[.agg (rcC c A),.iface t y] U (qj8 (Xc A q (Value.slice sa sts.length sc).ownBlock) V.heap.size (kC c) U (rwF (rvC c) (kC c) [] d (0,0,0,0)).2 ((rwF (rvC c) (kC c) [] d (0,0,0,0)).1.getD .nil))
 wr:∀l d,l.length<=4097->qgn c.inn l c.depth c.bytes=.ok d->WrP c.out (kC c) ((rwF (rvC c) (kC c) [] d (0,0,0,0)).1.getD .nil)
theorem qrL(ck:qoI c):GPw c:=⟨λh f b=>λa e=>qv2 ck h f b a e,λl d g a=>qtX ck.out (by have:=qkq c.inn l c.depth c.bytes (by have:=ck.dep;omega) a (kC c);have:=qyq (rvC c) (kC c) d (0,0,0,0);omega)⟩
theorem qyy(ck:qoI c)(G:GPr c)(K:GPw c)(h:qlj c b0 L b fed W):Calls prog 11 #[.pointer (some ⟨L,0,none⟩)] W (qu1 c b0 L fed W):=by
 have ah:=h.tab;obtain⟨z,A,q,x,v,w,S,R,f,i,fn,k,m,H,C,I,D,h6,h7⟩:=h;have am:=ck.byt;have V:=ltA I;have P:fed.length<=4097:=by omega
 obtain⟨Y,Z,F,al⟩:=qcK D;injection F with e1 e2 e3;subst e1;subst e2;subst e3;have E:∀j,j<W.heap.size->j≠L->(clW W L (gtC c A f) (.slice i fed.length k)).heap[j]?=W.heap[j]?:=λj a b=>qhy _ _ _ _ j a b;have an:=qgb W L (gtC c A f) (.slice i fed.length k);have aa:Own (clW W L (gtC c A f) (.slice i fed.length k)) b (.slice i fed.length k) fed:=qrK D (by omega) (λg e=>E g (qxl D e) (by have:=qbE D.1 e;omega));have M:GOp c z L A q x v w S R f (clW W L (gtC c A f) (.slice i fed.length k)):=m.step H.2.1 (qps _ _ _ _) (by omega) (λj l=>E j (by omega) (by omega)) (λj l=>E j (qtS m.cp.au l) (qyU m.cp.au I l));have ab:qcS (clW W L (gtC c A f) (.slice i fed.length k)):=qiv (λq hq=>E q (by have:=C.big.1;omega) (by have:=C.big.1;omega)) ah.rd;have af:=qnw W L (gtC c A f) (.slice i fed.length k) V;have ae:=qo0 (Xc A q (Value.slice v x.length w).ownBlock) (kC c) W L (gtC c A f) (qji c A) i fed.length k (qsA m.bs i fed.length k false) I (qgn c.inn fed c.depth c.bytes) (G.bad _) (clO c fed)
  (λU r=>by
   obtain⟨Y,Z,F,ad⟩:=qcK (qgx aa r);injection F with e1 e2 e3;subst e1;exact G.doc (ab.below r) i k fed P ad A f)
  (λe he=>by unfold clO;rw[he])
  (λd J=>by
   refine⟨_,_,(by unfold clO;rw[J]),λak t y N ai U r=>?_⟩;have ao:=G.size fed _ J (kC c);have p:Below (clW W L (gtC c A f) (.slice i fed.length k)).heap.size (clW W L (gtC c A f) (.slice i fed.length k)) U:=N.trans (r.mono N.size);have n:GOp c z L A q x v w S R f U:=M.step H.2.1 ⟨p.os,p.tape,p.output⟩ p.size (λj l=>p.block j (by omega)) (λj l=>p.block j (qtS M.cp.au l));have aj:qai (kC c) U (λj=>j<U.heap.size) (.iface t y) d:=ai.same (λj l=>Nat.lt_of_lt_of_le l.2 r.size) (λj l=>r.block j l.2);obtain⟨T,X,O⟩:=n.bs;have s:Below b0 z U:=n.cp.au.below.mono H.1;have ag:∀o,Frx (Xc A q (Value.slice v x.length w).ownBlock) U o->Below b0 z o:=λo hF=>by
    refine⟨hF.world.1.trans s.os,hF.world.2.1.trans s.tape,hF.world.2.2.trans s.output,Nat.le_trans s.size hF.rows.size,λj l=>(hF.block j (by have:=s.size;omega) ⟨?_,?_,?_,?_⟩).trans (s.block j l)⟩
    ·have:=n.cp.au.high.1;omega
    ·have:=n.cp.au.high.2.2.2.1;omega
    ·have:=n.cp.au.high.2.2.2.2;omega
    intro e;have:=qbE n.cp.au.states e.symm;omega
   refine qo5 (Xc A q (Value.slice v x.length w).ownBlock) (kC c) U (W.heap.size+1) (gtC c A f) (qji c A) (.slice i fed.length k) false ((p.block _ (by omega)).trans af) t y _ _ T X c.B O ck.b8 ck.b6 (K.wr fed d P J) (λo hF=>?_) (λo hF=>C.up (ag o hF)) (λU' ac=>K.rw n C ac aj (by omega));have Q:=n.bk;rw[O]at Q;exact qtf (Q.kept (λ_ hg=>hg) hF.rows (by decide) (by decide) (by decide)))
 refine ae.mono ?_;rintro e o ⟨va,vn,vc,rfl,u,k2,k3⟩;refine⟨va,vn,vc,rfl,⟨u.world.1,u.world.2.1,u.world.2.2,Nat.le_trans (by omega) u.size,λj l=>u.block j (by omega) (by omega) ⟨?_,?_,?_,?_⟩⟩,u.size,k2,k3⟩
 ·have:=m.cp.au.high.1;omega
 ·have:=m.cp.au.high.2.2.2.1;omega
 ·have:=m.cp.au.high.2.2.2.2;omega
 intro e;have:=qbE m.cp.au.states e.symm;omega

theorem qwq(c:Int)(n:Nat)(w:World)(i:1<=n)(f:n<=maxLen)(j : -9223372036854775808<=c)(k:c<=9223372036854775807):Calls prog 6 #[.int .i64 c,.int .i64 n] w λe g=>e=.returned (.int .i64 (qaZ c n))/\g=w:=by
 unfold maxLen at f;have l:(0:Int)<n:=by omega
 by_cases h:c<0
 ·have a:Hid ((qaZ c n:Int)=(-(c+1))%n):=by
   have b:=Int.emod_nonneg (-(c+1)) (show(n:Int)≠0 by omega);show _=_;unfold qaZ;rw[if_pos h,Int.toNat_of_nonneg b]
  go_enter func6,ntmps6;go_wp2;go_ret;have d : -((c+1).tmod n)=(-(c+1))%n:=by rw[<-Int.neg_tmod,Int.tmod_eq_emod_of_nonneg (by omega)]
  exact⟨by rw[a.out,<-d];rfl,rfl⟩
 have a:Hid ((qaZ c n:Int)=c%n):=by
  have b:=Int.emod_nonneg c (show(n:Int)≠0 by omega);show _=_;unfold qaZ;rw[if_neg h,Int.toNat_of_nonneg b]
 go_enter func6,ntmps6;go_wp2;go_ret;exact⟨by rw[a.out];rfl,rfl⟩
theorem qmw(W:World)(l:List UInt8)(d:l.length<=maxLen):∃a V,(convert 9 35 (.string ⟨l.toArray⟩)).run prog W=.ok (.slice (some ⟨W.heap.size,0,none⟩) l.length a) V/\Below W.heap.size W V/\qav V (some ⟨W.heap.size,0,none⟩) l/\l.length<=a:=by
 have h:=run_bytes_of_string (P:=prog) W 9 35 5 ⟨l.toArray⟩ underlying9 underlying35 underlying5;have b:(⟨l.toArray⟩:ByteArray).size=l.length:=List.size_toArray ..;refine⟨_,_,by rw[<-b];exact h,((Below.refl _ _).drew).alloc (Nat.le_refl _) _,⟨λi c=>⟨W.heap.size,0,rfl,by rw[World.size_alloc];exact Nat.lt_succ_self _,?_⟩,d⟩,by rw[b];exact grownCap_ge _ _ _ _⟩;rw[Nat.zero_add];refine(World.cell?_alloc_mark W.drew _ _ _ i).trans ((bytesRow_at ⟨l.toArray⟩ _ i (by simpa using c)).trans ?_);simp
theorem qvt(s:ByteArray)(p:Nat)(d:p<=s.size)(w:World):(Instr.sliceAt 9 (.string s) none (some (.int .i64 p)) none).run prog w=.ok (.string (s.extract 0 p)) w:=by
 have a:(0:Int)<=(p:Int):=by omega
 have b:(p:Int)<=(s.size:Int):=by omega
 have c:=underlying9;simp only[go_sem,c,a,b,Int.toNat_natCast]
theorem qvO(s:ByteArray)(p:Nat)(d:p<=s.size)(w:World):(Instr.sliceAt 9 (.string s) (some (.int .i64 p)) none none).run prog w=.ok (.string (s.extract p s.size)) w:=by
 have a:(0:Int)<=(p:Int):=by omega
 have b:(p:Int)<=(s.size:Int):=by omega
 have c:=underlying9;simp only[go_sem,c,a,b,Int.toNat_natCast]
theorem quw(l:List UInt8)(p q:Nat):(⟨l.toArray⟩:ByteArray).extract p q=⟨((l.take q).drop p).toArray⟩:=by
 apply ByteArray.ext;rw[ByteArray.data_extract];apply Array.ext';rw[Array.toList_extract,List.extract_eq_take_drop];show(l.drop p).take (q-p)=(l.take q).drop p;rw[List.drop_take]
theorem qmz(l:List UInt8):(⟨l.toArray⟩:ByteArray).size=l.length:=List.size_toArray ..
theorem qyA(l:List UInt8)(p:Nat)(a:p<=l.length)(w:World):(Instr.sliceAt 9 (.string ⟨l.toArray⟩) none (some (.int .i64 p)) none).run prog w=.ok (.string ⟨(l.take p).toArray⟩) w:=by
 have h:=qvt ⟨l.toArray⟩ p (by rw[qmz];exact a) w;rw[quw]at h;exact h
theorem qyG(l:List UInt8)(p:Nat)(a:p<=l.length)(w:World):(Instr.sliceAt 9 (.string ⟨l.toArray⟩) (some (.int .i64 p)) none none).run prog w=.ok (.string ⟨(l.drop p).toArray⟩) w:=by
 have h:=qvO ⟨l.toArray⟩ p (by rw[qmz];exact a) w;rw[quw,qmz,List.take_length]at h;exact h
theorem qhR.top(h:qhR b W):qhR W.heap.size W:=⟨h.rd,h.up bwR,h.db,h.gl,by have:=h.big;omega,Nat.le_refl _⟩
theorem qr9(c:Cfg)(l bs:List UInt8):qsu c (l.take (c.bytes.toNat+1)) bs=(l++bs).take (c.bytes.toNat+1):=by
 unfold qsu;rw[List.take_append,List.length_take];by_cases h:l.length<=c.bytes.toNat+1
 ·rw[Nat.min_eq_right h]
 rw[Nat.min_eq_left (by omega),Nat.sub_self,show c.bytes.toNat+1-l.length=0 by omega]
def czS(z:Cz):List UInt8:=match z with
 |.ok (_,.ok l)=>l
 |_=>[]
theorem qvL{base:Nat}(h:CzV V base v z):(convert 35 9 v).run prog V=.ok (.string ⟨(czS z).toArray⟩) V:=by
 match z,h with
 |.ok (_,.ok l),h=>exact qiA h
 |.ok (_,.error _),h =>
  have h:v=.slice none 0 0:=h;rw[h];exact ql6 V
 |.error _,h =>
  have h:v=.slice none 0 0:=h;rw[h];exact ql6 V
def tdA(s:List UInt8)(R:Rep)(e p:Int):Array Value:=#[.string ⟨s.toArray⟩,.int .i64 R.1,.int .i64 R.2.1,.int .i64 R.2.2.1,.int .i64 R.2.2.2,.int .i64 e,.int .i64 p]
def tdZ:Array Value:=tdA [] (0,0,0,0) 0 0
theorem qrO(e:Int):prog.built 31 [(2,.int .i64 e)]=some (tdA [] (0,0,0,0) e 0):=by kernel_rfl
theorem qq5(s:List UInt8)(R:Rep)(e p:Int):prog.built 31 [(0,.string ⟨s.toArray⟩),(1,.agg (qaH R)),(2,.int .i64 e),(3,.int .i64 p)]=some (tdA s R e p):=by kernel_rfl
theorem qiu(s:List UInt8)(R:Rep)(e p:Int):(prog.info? 31).map (·.size)=some (tdA s R e p).size:=by kernel_rfl
theorem qne(s:List UInt8)(R:Rep)(e p:Int):(tdA s R e p).all (·.oneCell')=true:=by simp[tdA,Value.oneCell']
def tdO(c:Cfg)(l:List UInt8):Array Value:=if qb3 c=0 then tdA (czS (clO c (l.take (c.bytes.toNat+1)))) (czR (clO c (l.take (c.bytes.toNat+1)))) (czE (clO c (l.take (c.bytes.toNat+1)))) (czP (clO c (l.take (c.bytes.toNat+1))))else tdA [] (0,0,0,0) (qb3 c) 0
theorem qhP{P:Program}{fn:Func}{p u:Tmp}{ty:TypeId}(h:fn.results=#[.cell p ty,.tmp u])(b:Array Value)(w:World)(g:Nat)(t:TypeId)(cs:Array Value)(c:Nat×Nat)(d:TypeDesc)(j:b.getD p undef=.pointer (some ⟨g,0,none⟩))(i:w.heap[g]?=some (.cells cs t c))(k:P.underlying ty=some d)(f:(match d with|.struct _|.array _ _=>true|_=>false)=true)(hi:(P.info? ty).map (·.size)=some cs.size)(v:Value)(l:b.getD u undef=v):(results fn b).run P w=.ok (.tuple #[.agg cs,v]) w:=by
 have e:(results fn b).run P w=((asAddr (b.getD p undef)).run P w).andThen λa m=>((loadVar ty a).run P m).andThen λv n=>.ok (.tuple #[v,b.getD u undef]) n:=by
  simp only[results,h];simp[Sem.run_bind,Result.andThen]
 subst l;rw[e,j];simp only[asAddr,Sem.run_pure,Result.andThen_ok,run_loadVar_row w g t ty cs c d i k f hi]
structure qgF(w:World)(c:Cfg)(V:World):Prop where
 below:Below w.heap.size w V
 cfg:V.heap[w.heap.size]?=some (.cells c.arr 25)
 told:V.heap[w.heap.size+1]?=some (.cells tdZ 31)
theorem qgF.step(h:qgF w c V)(a:Below b V V')(d:w.heap.size+2<=b):qgF w c V' :=
 ⟨h.below.trans (a.mono (by omega)),(a.block _ (by omega)).trans h.cfg,(a.block _ (by omega)).trans h.told⟩
theorem qgF.next(h:qgF w c V)(a:Below V.heap.size V V'):qgF w c V' :=
 h.step a (by have:=ltA h.told;omega)
theorem qxc(w:World)(c:Cfg):qgF w c ((w.alloc (.cells c.arr 25)).alloc (.cells tdZ 31)):=by
 have h:=qac (w.alloc (.cells c.arr 25)) (.cells tdZ 31);rw[World.size_alloc]at h;exact⟨(bwA).alloc (by rw[World.size_alloc];omega) _,(Below.heap_alloc _ _ _ (by rw[World.size_alloc];omega)).trans (qac w _),h⟩

def qyH(w:World)(c:Cfg)(b0 L b:Nat)(l:List UInt8)(e:Ending)(V':World):Prop :=
 ∃en,e=.returned (.int .i64 en)/\qgF w c V'/\qlj c b0 L b (l.take (c.bytes.toNat+1)) V'
theorem qyv(ck:qoI c)(d:GPr c){bs:List UInt8}(h:qgF w c V)(g:qlj c b0 L b (l.take (c.bytes.toNat+1)) V)(j:w.heap.size+2<=b0){ia:Option Addr}{cap:Nat}(i:qav V ia bs)(m:ia≠none)(k:bs.length<=cap):Calls prog 10 #[.pointer (some ⟨L,0,none⟩),.slice ia bs.length cap] V (qyH w c b0 L b (l++bs)):=by
 refine(qzw ck d g ia cap bs i (λe=>absurd e m) k).mono ?_;rintro e n ⟨rfl,a,_,f⟩;rw[qr9]at a;exact⟨_,rfl,h.step f j,a⟩
theorem qz8(h:CzV V b v z)(a:Below V.heap.size V V'):CzV V' b v z:=by
 match z,h with
 |.ok (_,r),h=>exact PoV.same (r:=r) h λl k=>qgx k a
 |.error _,h=>exact h
theorem qhL(c:Cfg)(gp:qb3 c=0->GPr c/\GPw c)(w:World)(U:qin w c)(W:qhR w.heap.size w)(s:List UInt8)(hs:s.length<=maxLen)(pc:Nat)(ax:1<=pc)(ay:pc<=maxLen+1):Calls prog 5 #[.agg c.arr,.string ⟨s.toArray⟩,.int .i64 pc] w λe d=>e=.returned (.tuple #[.agg (tdO c s),.bool true])/\Below w.heap.size w d:=by
 have R:Hid (c.arr.size=11):=c.size;have HC:Hid (qin w c):=U;have HT:Hid (qhR w.heap.size w):=W;have k:Hid (qgF w c ((w.alloc (.cells c.arr 25)).alloc (.cells tdZ 31))):=qxc w c;have B:=qfE c ((w.alloc (.cells c.arr 25)).alloc (.cells tdZ 31)) (U.below k.out.below) (W.below k.out.below).gl;have S:Hid (∀V,qgF w c V->Calls prog 9 #[.agg c.arr] V λe d=>Below V.heap.size V d/\((¬qb3 c=0/\e=.returned (.tuple #[.pointer none,.int .i64 (qb3 c)]))\/(qb3 c=0/\∃L,e=.returned (.tuple #[.pointer (some ⟨L,0,none⟩),.int .i64 0])/\qlj c V.heap.size L d.heap.size [] d))):=λV m=>qzN c V (U.below m.below) (W.below m.below).top;clear U W;by_cases i:qb3 c=0
 ·have Z:Hid (qoI c):=qk4 i;have O:=qab (gp i);obtain⟨z,HZ⟩:∃z,Hid (clO c (s.take (c.bytes.toNat+1))=z):=⟨_,rfl⟩
  have x:Hid (tdO c s=tdA (czS z) (czR z) (czE z) (czP z)):=by show _=_;unfold tdO;rw[if_pos i,HZ.out]
  rw[x.out];have A:Hid (∀V,qgF w c V->Calls prog 9 #[.agg c.arr] V λe d=>∃L,e=.returned (.tuple #[.pointer (some ⟨L,0,none⟩),.int .i64 0])/\qgF w c d/\qlj c V.heap.size L d.heap.size [] d):=λV m=>(S.out V m).mono (by
   rintro e d ⟨h1,j⟩;rcases j with⟨j,_⟩|⟨_,L,h3,h4⟩
   ·exact absurd i j
   exact⟨L,h3,m.next h1,h4⟩)
  rw[i]at B;clear x S i gp;go_enter func5,ntmps5
  go_wp2_with(first
   |(refine wpList_load_row rfl 25 _ rfl w.heap.size rfl _ _ _ _ k.out.cfg underlying25 rfl (qaA R.out) ?_)
   |(go_at_call 8;refine B.mono ?_;clear B;rintro e n ⟨rfl,a⟩;have l:Hid (qgF w c n):=k.out.next a;clear a k;have C:=A.out n l.out;clear A;have Y:Hid (w.heap.size+2<=n.heap.size):=(Array.getElem?_eq_some_iff.1 l.out.told).1)
   |(refine wpList_load_row rfl 25 _ rfl w.heap.size rfl _ _ _ _ l.out.cfg underlying25 rfl (qaA R.out) ?_)
   |(go_at_call 9;refine C.mono ?_;clear C;rintro e v ⟨L,rfl,G,aj⟩;have q:Hid (qgF w c v):=G;have ae:Hid (qlj c n.heap.size L v.heap.size [] v):=aj;clear G aj l))
  generalize v.heap.size=b3 at *;generalize n.heap.size=b2 at *
  go_loopg[1] s.length (λaa av V=>∃D b:List UInt8,av=.string ⟨b.toArray⟩/\Hid (D++b=s)/\Hid (b.length<=aa)/\Hid (qgF w c V)/\Hid (qlj c b2 L b3 (D.take (c.bytes.toNat+1)) V))
  case atStart=>exact⟨[],s,rfl,rfl,Nat.le_refl _,q,by rw[List.take_nil];exact ae⟩
  case round =>
   clear q ae;obtain⟨D,b,rfl,M,HR,P,N⟩:=hrel;have aq:b.length<=maxLen:=by have an:=congrArg List.length M.out;rw[List.length_append]at an;omega
   by_cases aw:(pc:Int)<(b.length:Int)
   ·cases gk with
    |zero=>have:=HR.out;omega
    |succ aa =>
     have ab:pc<=b.length:=by omega
     have ar:=λw=>qyA b pc ab w;have au:=λw=>qyG b pc ab w;have ac:(b.take pc).length<=maxLen:=by rw[List.length_take];omega
     obtain⟨K,g⟩:∃K,Hid (b.take pc=K):=⟨_,rfl⟩
     obtain⟨dp,h⟩:∃dp,Hid (b.drop pc=dp):=⟨_,rfl⟩
     rw[g.out]at ac;simp only[g.out]at ar;simp only[h.out]at au;obtain⟨am,V2,ap,a,I,J⟩:=qmw wr K ac;have u:=qyv Z.out O.out.1 (P.out.next a) (N.out.step a) Y.out I (by simp) J;clear ab ac I a J P N
     go_wp2_with(first
      |(go_at_call 10;refine u.mono ?_;clear u;rintro e X ⟨en,rfl,H,F⟩;have Q:Hid (qgF w c X):=H;have al:Hid (qlj c b2 L b3 ((D++K).take (c.bytes.toNat+1)) X):=F;clear H F))
     go_roundg aa
     case measure=>omega
     case rel=>exact⟨D++K,dp,rfl,by show _=_;rw[<-g.out,<-h.out,List.append_assoc,List.take_append_drop];exact M.out,by show _<=_;rw[<-h.out,List.length_drop];have:=HR.out;omega,Q,al⟩
   obtain⟨am,V2,ap,a,I,J⟩:=qmw wr b aq;have u:=qyv Z.out O.out.1 (P.out.next a) (N.out.step a) Y.out I (by simp) J;rw[M.out]at u;clear I a J P N M HR;obtain⟨f,ag⟩:∃f,Hid (czR z=f):=⟨_,rfl⟩
   obtain⟨p,ad⟩:∃p,Hid (czE z=p):=⟨_,rfl⟩
   obtain⟨r,af⟩:∃r,Hid (czP z=r):=⟨_,rfl⟩
   obtain⟨t,ah⟩:∃t,Hid (czS z=t):=⟨_,rfl⟩
   go_wp2_with(first
    |(go_at_call 10;refine u.mono ?_;clear u;rintro e X ⟨en,rfl,H,F⟩;have Q:Hid (qgF w c X):=H;have T:=qyy Z.out O.out.1 O.out.2 F;clear H F;unfold qu1 at T;rw[HZ.out,ag.out,ad.out,af.out]at T)
    |(go_at_call 11;refine T.mono ?_;clear T;rintro e o ⟨va,vn,vc,rfl,ai,_,_,ak⟩;have ao:=qvL (qz8 ak ((Below.refl o.heap.size o).alloc (Nat.le_refl _) (.cells (qaH f) 28)));rw[ah.out]at ao;have y:Hid (qgF w c (o.alloc (.cells (qaH f) 28))):=(Q.out.step ai Y.out).next bwA;clear ai ak Q)
    |(refine wpList_store_row rfl 28 _ _ rfl o.heap.size (qaH f) rfl rfl 28 _ (qac o _) (qaM f) rfl (qeY f) ?_;rw[World.setRow_alloc_new])
    |(refine wpList_load_row rfl 28 _ rfl o.heap.size rfl _ _ _ _ (qac o _) underlying28 rfl (qaM f) ?_)
    |(refine qal rfl 31 _ rfl _ rfl _ [(0,.string ⟨t.toArray⟩),(1,.agg (qaH f)),(2,.int .i64 p),(3,.int .i64 r)] ?hl (qq5 t f p r) ?_;case hl=>simp[go_sem])
    |(refine wpList_store_row rfl 31 _ _ rfl (w.heap.size+1) (tdA t f p r) rfl rfl 31 _ y.out.told (qiu _ _ _ _) rfl (qne _ _ _ _) ?_))
   refine bodyPost_ret (qhP results5 _ _ (w.heap.size+1) 31 (tdA t f p r) (0,0) _ rfl (setRow_heap _ _ _ _ _ _ y.out.told) underlying31 rfl (qiu _ _ _ _) _ rfl) rfl ?_;rw[ag.out,ad.out,af.out,ah.out];exact⟨rfl,qah y.out.below (by omega) _⟩
 have x:Hid (tdO c s=tdA [] (0,0,0,0) (qb3 c) 0):=if_neg i;rw[x.out];have A:Hid (∀V,qgF w c V->Calls prog 9 #[.agg c.arr] V λe d=>e=.returned (.tuple #[.pointer none,.int .i64 (qb3 c)])/\qgF w c d):=λV m=>(S.out V m).mono (by
  rintro e d ⟨h1,j⟩;rcases j with⟨_,j⟩|⟨j,_⟩
  ·exact⟨j,m.next h1⟩
  exact absurd j i)
 generalize qb3 c=E at *;have e1:(E==0)=false:=by simpa using i
 have e2:(E != E)=false:=by simp
 have e3:(E==E)=true:=by simp
 clear x S i gp;go_enter func5,ntmps5
 go_wp2_with(first
  |(refine wpList_load_row rfl 25 _ rfl w.heap.size rfl _ _ _ _ k.out.cfg underlying25 rfl (qaA R.out) ?_)
  |(go_at_call 8;refine B.mono ?_;clear B;rintro e n ⟨rfl,a⟩;have l:Hid (qgF w c n):=k.out.next a;clear a k;have C:=A.out n l.out;clear A)
  |(refine wpList_load_row rfl 25 _ rfl w.heap.size rfl _ _ _ _ l.out.cfg underlying25 rfl (qaA R.out) ?_)
  |(go_at_call 9;refine C.mono ?_;clear C;rintro e v ⟨rfl,G⟩;have q:Hid (qgF w c v):=G;clear G l)
  |(refine qal rfl 31 _ rfl _ rfl _ [(2,.int .i64 E)] ?hl (qrO E) ?_;case hl=>simp[go_sem])
  |(refine wpList_store_row rfl 31 _ _ rfl (w.heap.size+1) (tdA [] (0,0,0,0) E 0) rfl rfl 31 _ q.out.told (qiu _ _ _ _) rfl (qne _ _ _ _) ?_))
 refine bodyPost_ret (qhP results5 _ _ (w.heap.size+1) 31 (tdA [] (0,0,0,0) E 0) (0,0) _ rfl (setRow_heap _ _ _ _ _ _ q.out.told) underlying31 rfl (qiu _ _ _ _) _ rfl) rfl ?_;exact⟨rfl,qah q.out.below (by omega) _⟩

end
end Go.Proofs.YtpifimohecagoaaGreatDoor
