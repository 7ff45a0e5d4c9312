import Derived.Test.YtmajcjammmjimaaGreatDoorCq30
import Derived.Test.YtmajcjammmjimaaGreatDoorCq28
set_option maxRecDepth 100000
set_option maxHeartbeats 8000000
set_option linter.all false
namespace Go.Proofs.YtmajcjammmjimaaGreatDoor
open Go.Proofs.Tryz
variable{c:Cfg}{A L b b0 j mn sc:Nat}{fed l:List UInt8}{U V V' W W' W0 w:World}{q:Aut}{bv sv v y:Value}{sts:List ((Nat->Nat)×Int×Int)}{sa:Option Addr}{mf nf:Lit->Option Nat}{d:DataW Unit}{z:Cz}
section
open Go.RowKit Go.Lib
structure qnT(c:Cfg):Prop where
 lab:1<=c.labels/\c.labels<=6
 dfl:0<=c.dflt/\c.dflt<(c.labels.toNat:Int)
 clr:0<=c.clr/\c.clr<(c.labels.toNat:Int)
 inn:c.inn=1\/c.inn=2\/c.inn=3
 out:c.out=1\/c.out=2\/c.out=3
 dep:1<=c.depth/\c.depth<=16
 byt:1<=c.bytes/\c.bytes<=4096
 b8:c.B.length<=8
 b6:∀i (h:i<c.B.length),c.B[i]<=65536
 pol:qfm c.labels.toNat c.pol.data.toList=0
theorem qul{f:Int}(h:qeD f=true):f=1\/f=2\/f=3:=by
 unfold qeD at h;simp only[kcw,kcy]at h;omega
theorem qhN(h:qb4 c=0):qnT c:=by
 have k:=qrm h;rw[<-(qlW c).1]at h;unfold qie at h;split at h
 ·next hh=>exact absurd h hh
 next hh =>
 have g:roE c.labels c.L c.dflt c.clr=0:=kc4 hh;split at h
 ·cases h
 next a =>
 split at h
 ·cases h
 next d =>
 have a:qe3 c.inn c.out c.depth c.bytes=true:=by simpa using a
 have d:qaL c.B=true:=by simpa using d
 unfold roE at g;split at g
 ·next hn =>
  simp only[ka2]at hn;obtain⟨⟨b,e⟩,f⟩:=hn;unfold qbC at b;rw[ka2]at b;have b:=kaq b.1;have e:=kaq e;have f:=kaq f;unfold qe3 at a;simp only[ka2,kbQ]at a;unfold qaL at d;rw[ka2]at d;refine⟨⟨b.1,b.2.1⟩,e,f,qul a.1.1.1.1.1,qul a.1.1.1.1.2,⟨a.1.1.1.2,a.1.1.2⟩,⟨a.1.2,a.2⟩,kaq d.1,λi j=>?_,k⟩;have:=kaq (ka3.1 d.2 i (kav.2 j));rw[kbh,kab j]at this;exact this.2
 cases g
theorem qxi{n:Nat}(h:qfm n l=0):∀x∈(qcH l).map enS,∃m:Nat,x.2.1=(m:Int)/\m<n:=by
 have g:qa2 n l<0:=by
  unfold qfm at h;split at h
  ·cases h
  omega
 intro x k;obtain⟨r,f,rfl⟩:=kc7.1 k;unfold qa2 at g;unfold qcH at f;split at g
 ·omega
 split at g
 ·next h0 =>
  rw[kag h0]at f;cases f
 next h0 =>
 rw[kac h0]at f;obtain⟨i,_⟩:=qp4 (qam 10 l) 0 g (by omega);obtain⟨y,o,rfl⟩:=kc7.1 f;have e:=i y o;unfold qaC at e;show∃m:Nat,(qea y).2.1=(m:Int)/\m<n;unfold qea
 match hs:qam 32 y,e with
 |[a,b,c],e =>
  unfold qku at e;simp only[ka2]at e;have e:=e.2.1
  match b,e with
  |[d],e =>
   unfold qjh at e;rw[ka2]at e;have j:=kaq e.1;have p:=kaq e.2;refine⟨d.toNat-48,?_,by omega⟩;show(if 48<=d.toNat/\d.toNat<=57 then(d.toNat:Int)-48 else 0)=_;rw[kag j];omega
structure qhQ(b:Nat)(W:World):Prop where
 rd:qcQ W
 st:qgc b W
 db:W.cell? ⟨8,15,none⟩=some (.int .u8 4)
 gl:qmS W
 big:9<=b/\b<=W.heap.size
theorem qbv(a:∀q,q<9->V.heap[q]?=W.heap[q]?){q off:Nat}(b:q<9)(h:W.cell? ⟨q,off,none⟩=some v):V.cell? ⟨q,off,none⟩=some v:=(kaN (w:=W) (a q b)).trans h
theorem U8.low(a:∀q,q<9->V.heap[q]?=W.heap[q]?)(h:U8 W):U8 V :=
 ⟨λc d=>qbv a (by decide) (h.1 c d),λi b=>⟨qbv a (by decide) (h.2 i b).1,qbv a (by decide) (h.2 i b).2⟩⟩
theorem qhQ.below(h:qhQ b W)(d:Below b W V):qhQ b V:=by
 have a:∀q,q<9->V.heap[q]?=W.heap[q]?:=λq i=>d.block q (by have:=h.big.1;omega);have j:=d.size;refine⟨⟨h.rd.u8.low a,⟨λu c=>qbv a (by decide) (h.rd.hd.cb u c),λu c=>⟨qbv a (by decide) (h.rd.hd.pk u c).1,qbv a (by decide) (h.rd.hd.pk u c).2.1,qbv a (by decide) (h.rd.hd.pk u c).2.2⟩⟩,?_⟩,h.st.on d,qbv a (by decide) h.db,?_,h.big.1,?_⟩
 ·have:=h.rd.big;omega
 ·obtain⟨t,e,f⟩:=h.gl.signs;obtain⟨m,g⟩:=h.gl.mlen;exact⟨⟨t,e,(a _ (by decide)).trans f⟩,U8.low a h.gl.tabs,m,qbv a (by decide) g⟩
 have:=h.big.2;omega
theorem qhQ.up(h:qhQ b W)(a:Below b W V):qgc V.heap.size V:=λd c=>h.st d (a.trans (c.mono (by have:=h.big.2;have:=a.size;omega)))

def rvC(c:Cfg):Rv:=⟨qlm c,c.dflt,qc1 c.labels.toNat c.L,c.clr.toNat,c.key⟩
def kC(c:Cfg):Nat:=c.depth.toNat+1
def rcC(c:Cfg)(A:Nat):Array Value:=qaq c.labels.toNat (qc1 c.labels.toNat c.L)++#[.int .i64 c.clr,.int .i64 c.key,.pointer (some ⟨A,0,none⟩)]
def gtC(c:Cfg)(A:Nat)(bv:Value):Gt:=⟨c.inn,c.out,c.depth,c.bytes.toNat,rcC c A,bv⟩
theorem qjH(c:Cfg)(A:Nat):(rcC c A).size=40:=by unfold rcC;rw[kdp,qae];rfl
theorem qwZ(ck:qnT c)(A:Nat)(a:Value):qxB c A a=qaz (gtC c A a) (.slice none 0 0) false:=by
 have h:((c.bytes.toNat:Nat):Int)=c.bytes:=kbD (by have:=ck.byt;omega);unfold qxB qaz gtC rcC;dsimp only;rw[h]
def Xc(A:Nat)(q:Aut)(own0:Option Nat)(j:Nat):Prop:=j≠A/\j≠q.nb/\j≠q.mb/\some j≠own0
theorem qw6(ck:qnT c)(h:GOp c W0 L A q sts sa sc nf mf bv V)(g:qhQ b W0)(f:W0.heap.size<=U.heap.size)(i:Option Nat):qjx ⟨rvC c,W0,A,q,U.heap.size+2,qaq c.labels.toNat (qc1 c.labels.toNat c.L),c.labels.toNat,U,i⟩:=by
 obtain⟨a,d,e⟩:=qpk ck.pol;refine⟨h.cp.ers,h.cp.edf,h.cp.elf,h.cp.eL,h.cp.ly,a,d,e,qay _ _,?_,?_,?_,kaj f (kbV _ _),kbV _ _,g.db⟩
 ·show c.labels.toNat<=6;have:=ck.lab;omega
 ·show c.clr.toNat<c.labels.toNat;have:=ck.clr;omega
 refine qre ⟨c.dflt.toNat,?_,?_⟩ (qlm c) (qxi ck.pol)
 ·show c.dflt=_;have:=ck.dfl;omega
 show c.dflt.toNat<c.labels.toNat;have:=ck.dfl;omega
theorem qsp(ck:qnT c)(w:∀r:Rc,qjx r->r.v=rvC c->qvk r (kC c) [])(h:GOp c W0 L A q sts sa sc nf mf bv V)(C:qhQ b W0)(k:Below V.heap.size V U){t:TypeId}(s:qah (kC c) V (λj=>j<V.heap.size) (.iface t y) d)(J:szF (kC c) d<=2000000):Calls prog 61 #[.agg (rcC c A),.iface t y] U (qiB (Xc A q (Value.slice sa sts.length sc).ownBlock) V.heap.size (kC c) U (rwF (rvC c) (kC c) [] d (0,0,0,0)).2 ((rwF (rvC c) (kC c) [] d (0,0,0,0)).1.getD .nil)):=by
 have f:qcy W0 A q sts (.slice sa sts.length sc) nf 0 mf U:=h.cp.au.next k
 have z:W0.heap.size<=U.heap.size:=f.below.size;have ok:=qw6 (U:=U) ck h C z (Value.slice sa sts.length sc).ownBlock;have u:=(qpk ck.pol).1;have B:StF ⟨rvC c,W0,A,q,U.heap.size+2,qaq c.labels.toNat (qc1 c.labels.toNat c.L),c.labels.toNat,U,(Value.slice sa sts.length sc).ownBlock⟩ sts 0 []:=by
  obtain⟨x,Y,l,i,m⟩:=h.cp.first
  exact⟨x,l,quF (qqe h.cp.ly i) u m⟩
 have I:=qlz (kC c) d;have H:=qkE (kC c) d;have n:=qqE ⟨rvC c,W0,A,q,U.heap.size+2,qaq c.labels.toNat (qc1 c.labels.toNat c.L),c.labels.toNat,U,(Value.slice sa sts.length sc).ownBlock⟩ ok rfl U rfl rfl (kC c) (w _ ok rfl) (λj=>j<V.heap.size) (.iface t y) d 0 sts sa sc nf 0 mf f h.cp.mv (kaf _) h.cp.few rfl B (λj g=>kai g k.size) (s.same (λ_ g=>g) (λj g=>k.block j g)) (by omega) (by omega);have o:qhR ⟨rvC c,W0,A,q,U.heap.size+2,qaq c.labels.toNat (qc1 c.labels.toNat c.L),c.labels.toNat,U,(Value.slice sa sts.length sc).ownBlock⟩=rcC c A:=by
  have p:((c.clr.toNat:Nat):Int)=c.clr:=kbD ck.clr.1;unfold qhR rcC rvC;dsimp only;rw[p]
 rw[o]at n;refine n.mono ?_;rintro e G ⟨E,F,rfl,l,i,m,D⟩;refine⟨E,F,rfl,⟨⟨i.os.trans f.below.os.symm,i.tape.trans f.below.tape.symm,i.output.trans f.below.output.symm⟩,l,λj a b=>m j a b.1 b.2.1 b.2.2.1 b.2.2.2⟩,D⟩
theorem qwc(ck:qnT c)(h:GOp c W0 L A q sts sa sc nf mf bv V)(i:qhQ b W0)(a:Below V.heap.size V U){t:TypeId}(e:qah (kC c) V (λj=>j<V.heap.size) (.iface t y) d)(g:szF (kC c) d<=2000000):Calls prog 61 #[.agg (rcC c A),.iface t y] U (qiB (Xc A q (Value.slice sa sts.length sc).ownBlock) V.heap.size (kC c) U (rwF (rvC c) (kC c) [] d (0,0,0,0)).2 ((rwF (rvC c) (kC c) [] d (0,0,0,0)).1.getD .nil)):=qsp ck (λr ok _ V F x d f R N sts=>quG r ok (kC c) V F x d [] f R N sts) h i a e g
theorem qtC{F:Nat->Prop}{ba:Option Addr}{bc:Nat}{B:List Int}(h:qbE W 3 1 F (.slice ba B.length bc) B.length (B.map (Value.int .i64))):qc9 W ba B:=by
 refine⟨λi p=>?_⟩;rcases h.2 with⟨_,l⟩|⟨g,k,c,e,_,a,m,n,o,d⟩
 ·omega
 injection e with e1 _ _;refine⟨g,0,e1,(ltA a),λj f=>?_⟩;rw[kaL];refine(qaa a j).trans ?_;have b:(c.toList.take (B.length*1))[j]?=(B.map (Value.int .i64))[j]?:=by rw[d]
 rw[kbF (by omega),kbx,kab f]at b;simpa using b
def clO(c:Cfg)(l:List UInt8):Cz:=match qdA c.inn l c.depth c.bytes with
 |.error e=>.error e
 |.ok d=>.ok ((rwF (rvC c) (kC c) [] d (0,0,0,0)).2,poF c.out (kC c) ((rwF (rvC c) (kC c) [] d (0,0,0,0)).1.getD .nil) c.B)

def qtw(A:Nat)(q:Aut)(own0:Option Nat)(j:Nat):Prop:=j=A\/j=q.lm\/j=q.tb\/j=q.nb\/j=q.mb\/own0=some j
theorem qzp(h:qcy W0 A q sts sv nf mn mf W){cs:Array Value}(a:W.heap[L]?=some (.cells cs 96))(b:qtw A q sv.ownBlock j):j≠L:=by
 intro e;subst e;rcases b with rfl|rfl|rfl|rfl|rfl|b
 ·rw[h.row]at a;injection a with a;injection a with _ a _;exact absurd a (by decide)
 ·exact qaH h.letters a
 ·obtain⟨d,c,_⟩:=h.takes;rw[c]at a;injection a with a;injection a with _ a _;exact absurd a (by decide)
 ·exact qaH h.numbers a
 ·exact qaH h.moves a
 exact absurd (qg1 h.states b a) (by decide)
theorem qtk(h:qcy W0 A q sts sv nf mn mf W)(a:qtw A q sv.ownBlock j):j<W.heap.size:=by
 have c:∀{d:TypeId} {m n:Nat} {f:Lit->Option Nat},qdo W d m n f->m<W.heap.size:=by
  rintro d m n f ⟨D,⟨r,p,i,_⟩,_⟩;exact ltA i
 rcases a with rfl|rfl|rfl|rfl|rfl|a
 ·exact ltA h.row
 ·exact c h.letters
 ·obtain⟨e,l,_⟩:=h.takes;exact ltA l
 ·exact c h.numbers
 ·exact c h.moves
 rcases h.states.2 with⟨b,_⟩|⟨g,o,e,b,_,k,_⟩
 ·rw[b]at a;cases a
 rw[b]at a;injection a with a;have a:g=j:=a;rw[<-a];exact ltA k
theorem GOp.step(h:GOp c W0 L A q sts sa sc nf mf bv W)(l:W0.heap.size<=L)(d:W'.os=W.os/\W'.tape=W.tape/\W'.output=W.output)(k:W.heap.size<=W'.heap.size)(e:∀j,j<L->W'.heap[j]?=W.heap[j]?)(i:∀j,qtw A q (Value.slice sa sts.length sc).ownBlock j->W'.heap[j]?=W.heap[j]?):GOp c W0 L A q sts sa sc nf mf bv W':=by
 have a:=h.cp.au.below;refine⟨{h.cp with au:=h.cp.au.rebase rfl ⟨d.1.trans a.os,d.2.1.trans a.tape,d.2.2.trans a.output,kaj a.size k,λj f=>(e j (by omega)).trans (a.block j f)⟩ h.cp.au.rules i},h.bk.same (λ_ b=>b) (λg b=>e g b.2),h.bs⟩
def qlx(c:Cfg)(b0 L b:Nat)(fed:List UInt8)(W:World):Prop :=
 ∃W0 A q sts sa sc nf mf bv fa fn fc,GOp c W0 L A q sts sa sc nf mf bv W/\(b0<=W0.heap.size/\W0.heap.size<=L/\L<b/\b<=W.heap.size)/\qhQ b0 W0/\W.heap[L]?=some (.cells (qaz (gtC c A bv) (.slice fa fn fc) false) 96)/\Own W b (.slice fa fn fc) fed/\(∀j,qtw A q (Value.slice sa sts.length sc).ownBlock j->j<b)/\fed.length<=c.bytes.toNat+1
theorem qlx.tab(h:qlx c b0 L b fed W):qhQ b0 W:=by
 obtain⟨f,A,q,p,n,o,m,l,g,i,k,j,a,d,e,_⟩:=h;exact e.below (a.cp.au.below.mono d.1)
theorem qlx.step(h:qlx c b0 L b fed W)(a:Below W.heap.size W W'):qlx c b0 L b fed W':=by
 obtain⟨i,A,q,y,w,x,v,u,k,l,n,m,e,d,o,f,p,r,s⟩:=h;have t:=ltA f;refine⟨i,A,q,y,w,x,v,u,k,l,n,m,e.step d.2.1 ⟨a.os,a.tape,a.output⟩ a.size (λj g=>a.block j (by omega)) (λj g=>a.block j (qtk e.cp.au g)),⟨d.1,d.2.1,d.2.2.1,kaj d.2.2.2 a.size⟩,o,(a.block L t).trans f,qhl p a,r,s⟩
theorem q0i(c:Cfg)(w:World)(o:qia w c)(i:qhQ w.heap.size w):Calls prog 15 #[.agg c.arr] w λe f=>Below w.heap.size w f/\((¬qb4 c=0/\e=.returned (.tuple #[.pointer none,.int .i64 (qb4 c)]))\/(qb4 c=0/\∃L,e=.returned (.tuple #[.pointer (some ⟨L,0,none⟩),.int .i64 0])/\qlx c w.heap.size L f.heap.size [] f)):=by
 refine(qs7 c w o i.gl (λh=>(qhN h).b8)).mono ?_;rintro e f ⟨a,b⟩;refine⟨a,?_⟩;rcases b with b|⟨b,l,L,A,q,x,u,v,t,s,n,rfl,m,p,C,r,k⟩
 ·exact .inl b
 refine .inr ⟨b,L,rfl,l,A,q,x,u,v,t,s,n,none,0,0,k,⟨m,p,by omega,kaf _⟩,?_,?_,qiQ f,λj g=>qtk k.cp.au g,kaY _⟩
 ·have d:=k.cp.au.below;have z:∀q,q<9->l.heap[q]?=w.heap[q]?:=λq B=>by
   have y:=i.big.1;rw[<-d.block q (by omega)];exact a.block q (by omega)
  refine i.below ⟨d.os.symm.trans a.os,d.tape.symm.trans a.tape,d.output.symm.trans a.output,m,λj g=>?_⟩;rw[<-d.block j (by omega)];exact a.block j g
 rw[<-qwZ (qhN b)];exact r
theorem qiu(a:∀q,q<9->V.heap[q]?=W.heap[q]?)(h:qcQ W):qcQ V:=by
 refine⟨h.u8.low a,⟨λu b=>qbv a (by decide) (h.hd.cb u b),λu b=>⟨qbv a (by decide) (h.hd.pk u b).1,qbv a (by decide) (h.hd.pk u b).2.1,qbv a (by decide) (h.hd.pk u b).2.2⟩⟩,?_⟩;have c:=a 8 (by omega);have d:=h.big;rw[Array.getElem?_eq_getElem (show 8<W.heap.size by omega)]at c;exact ltA c
theorem qt0(ck:qnT c)(g:qcQ U)(b:Option Addr)(d:Nat)(l:List UInt8)(i:l.length<=4097)(f:qau U b l)(A:Nat)(a:Value):Calls prog 13 #[.int .i64 (gtC c A a).inF,.agg #[.int .i64 (gtC c A a).depth,.int .i64 (gtC c A a).bytes],.slice b l.length d] U (qey (kC c) U (qdA c.inn l c.depth c.bytes)):=by
 have e:((c.bytes.toNat:Nat):Int)=c.bytes:=kbD (by have:=ck.byt;omega);have h:=qfA U c.inn b l d c.depth c.bytes ck.inn f g (by have:=ck.dep;omega) (by have:=ck.dep;omega) (by omega);rw[<-e]at h;rw[e]at h;unfold gtC;dsimp only;rw[e];exact h
structure GPr(c:Cfg):Prop where
 doc:∀{U:World},qcQ U->∀(fa:Option Addr) (fc:Nat) (l:List UInt8),l.length<=4097->qau U fa l->∀(A:Nat) (bv:Value),Calls prog 13 #[.int .i64 (gtC c A bv).inF,.agg #[.int .i64 (gtC c A bv).depth,.int .i64 (gtC c A bv).bytes],.slice fa l.length fc] U (qey (kC c) U (qdA c.inn l c.depth c.bytes))
 bad:∀l en pl,qdA c.inn l c.depth c.bytes=.error (en,pl)->en≠0
 size:∀l x,qdA c.inn l c.depth c.bytes=.ok x->∀k,szF k x+30<=400*l.length
theorem qwS(ck:qnT c):GPr c:=⟨λi d e l g f A a=>qt0 ck i d e l g f A a,λl b j h=>(qj8 _ _ _ _ (by have:=ck.dep;omega) b j h).1,λl x h k=>qhr _ _ _ _ (by have:=ck.dep;omega) h k⟩
def qt2(c:Cfg)(fed bs:List UInt8):List UInt8:=fed++bs.take (c.bytes.toNat+1-fed.length)
theorem qzI(ck:qnT c)(u:GPr c)(h:qlx c b0 L b fed W)(i:Option Addr)(g:Nat)(bs:List UInt8)(G:qau W i bs)(N:i=none->g=0)(H:bs.length<=g):Calls prog 16 #[.pointer (some ⟨L,0,none⟩),.slice i bs.length g] W λe f=>e=.returned (.int .i64 (qyD (qdA c.inn (qt2 c fed bs) c.depth c.bytes) (qt2 c fed bs).length))/\qlx c b0 L b (qt2 c fed bs) f/\W.heap.size<=f.heap.size/\Below b0 W f:=by
 have O:=h.tab;obtain⟨B,A,q,Y,V,X,T,S,l,r,t,s,v,d,w,x,y,z,D⟩:=h;have Z:=ck.byt;have J:(qt2 c fed bs).length<=c.bytes.toNat+1:=by
  unfold qt2;rw[kaa,kbc];omega
 have I:=qtJ (kC c) W L b (gtC c A l) (qjH c A) (.slice r t s) fed i g bs (qt2 c fed bs) rfl x y d.2.2.1 G N H (by show c.bytes.toNat<=4096;omega) D (qdA c.inn (qt2 c fed bs) c.depth c.bytes) (u.bad _) (λU m n F E=>u.doc (qiu (λq hq=>F q (by have:=w.big.1;omega)) O.rd) m n _ (by omega) E A l);refine I.mono ?_;rintro e f ⟨m,C,n,rfl,P,Q,k,p,R⟩;have M:∀j,j<b->some j≠(Value.slice r t s).ownBlock:=λj a e=>by have:=qbH y.1 e.symm;omega
 have o:∀j,j<b->j≠L->f.heap[j]?=W.heap[j]?:=λj a K=>R j (by omega) K (M j a);refine⟨rfl,⟨B,A,q,Y,V,X,T,S,l,m,C,n,v.step d.2.1 k p (λj a=>o j (by omega) (by omega)) (λj a=>o j (z j a) (qzp v.cp.au x a)),⟨d.1,d.2.1,d.2.2.1,kaj d.2.2.2 p⟩,w,Q,P,z,J⟩,p,k.1,k.2.1,k.2.2,by omega,λj a=>o j (by omega) (by omega)⟩

theorem quf(h:∃a b,bv=.slice a c.B.length b)(e:Option Addr)(g f:Nat)(d:Bool):(qaz (gtC c A bv) (.slice e g f) d).all (·.oneCell')=true:=by
 obtain⟨a,b,rfl⟩:=h;unfold qaz gtC rcC;dsimp only;rw[kcT,kcT,kcT,qfr];simp[Value.oneCell']
theorem qli(h:Own W b v l)(c:W.heap.size<=W'.heap.size)(a:∀g,v.ownBlock=some g->W'.heap[g]?=W.heap[g]?):Own W' b v l:=⟨qd1 h.1 a,kaj h.2.1 c,h.2.2⟩
theorem qpu(h:Own W b v l){g:Nat}(e:v.ownBlock=some g):g<W.heap.size:=by
 rcases h.1.2 with⟨a,_⟩|⟨c,f,i,a,_,d,_⟩
 ·rw[a]at e;cases e
 rw[a]at e;injection e with e;have e:c=g:=e;rw[<-e];exact ltA d
def quC(c:Cfg)(b0 L:Nat)(l:List UInt8)(W:World)(e:Ending)(V':World):Prop :=
 ∃va vn vc,e=.returned (.tuple #[.slice va vn vc,.agg (qaK (czR (clO c l))),.int .i64 (czE (clO c l)),.int .i64 (czP (clO c l))])/\Below b0 W V'/\W.heap.size<=V'.heap.size/\V'.heap[L]?=some (.cells (qaz gtZ (.slice none 0 0) true) 96)/\CzV V' W.heap.size (.slice va vn vc) (clO c l)
structure GPw(c:Cfg):Prop where
 rw:∀{b:Nat} {W0:World} {L A:Nat} {q:Aut} {sts:List ((Nat->Nat)×Int×Int)} {sa:Option Addr} {sc:Nat} {nf mf:Lit->Option Nat} {bv:Value} {V U:World} (_h:GOp c W0 L A q sts sa sc nf mf bv V) (_ht:qhQ b W0) (_hU:Below V.heap.size V U) {t:TypeId} {y:Value} {d:DataW Unit} (_hd:qah (kC c) V (λj=>j<V.heap.size) (.iface t y) d) (_hsz:szF (kC c) d<=2000000),Calls prog 61 #[.agg (rcC c A),.iface t y] U (qiB (Xc A q (Value.slice sa sts.length sc).ownBlock) V.heap.size (kC c) U (rwF (rvC c) (kC c) [] d (0,0,0,0)).2 ((rwF (rvC c) (kC c) [] d (0,0,0,0)).1.getD .nil))
 wr:∀l d,l.length<=4097->qdA c.inn l c.depth c.bytes=.ok d->WrP c.out (kC c) ((rwF (rvC c) (kC c) [] d (0,0,0,0)).1.getD .nil)
theorem qv4(ck:qnT c):GPw c:=⟨λh f b=>λa e=>qwc ck h f b a e,λl d g a=>qsu ck.out (by have:=qhr c.inn l c.depth c.bytes (by have:=ck.dep;omega) a (kC c);have:=qy1 (rvC c) (kC c) d (0,0,0,0);omega)⟩
theorem qze(ck:qnT c)(G:GPr c)(K:GPw c)(h:qlx c b0 L b fed W):Calls prog 17 #[.pointer (some ⟨L,0,none⟩)] W (quC c b0 L fed W):=by
 have ah:=h.tab;obtain⟨z,A,q,x,v,w,S,R,f,i,fn,k,m,H,C,I,D,h6,h7⟩:=h;have am:=ck.byt;have V:=ltA I;have P:fed.length<=4097:=by omega
 obtain⟨Y,Z,F,al⟩:=qcw D;injection F with e1 e2 e3;subst e1;subst e2;subst e3;have E:∀j,j<W.heap.size->j≠L->(clW W L (gtC c A f) (.slice i fed.length k)).heap[j]?=W.heap[j]?:=λj a b=>qgC _ _ _ _ j a b;have an:=qgv W L (gtC c A f) (.slice i fed.length k);have aa:Own (clW W L (gtC c A f) (.slice i fed.length k)) b (.slice i fed.length k) fed:=qli D (by omega) (λg e=>E g (qpu D e) (by have:=qbH D.1 e;omega));have M:GOp c z L A q x v w S R f (clW W L (gtC c A f) (.slice i fed.length k)):=m.step H.2.1 (qqI _ _ _ _) (by omega) (λj l=>E j (by omega) (by omega)) (λj l=>E j (qtk m.cp.au l) (qzp m.cp.au I l));have ab:qcQ (clW W L (gtC c A f) (.slice i fed.length k)):=qiu (λq hq=>E q (by have:=C.big.1;omega) (by have:=C.big.1;omega)) ah.rd;have af:=qnb W L (gtC c A f) (.slice i fed.length k) V;have ae:=qod (Xc A q (Value.slice v x.length w).ownBlock) (kC c) W L (gtC c A f) (qjH c A) i fed.length k (quf m.bs i fed.length k false) I (qdA c.inn fed c.depth c.bytes) (G.bad _) (clO c fed)
  (λU r=>by
   obtain⟨Y,Z,F,ad⟩:=qcw (qhl aa r);injection F with e1 e2 e3;subst e1;exact G.doc (ab.below r) i k fed P ad A f)
  (λe he=>by unfold clO;rw[he])
  (λd J=>by
   refine⟨_,_,(by unfold clO;rw[J]),λak t y N ai U r=>?_⟩;have ao:=G.size fed _ J (kC c);have p:Below (clW W L (gtC c A f) (.slice i fed.length k)).heap.size (clW W L (gtC c A f) (.slice i fed.length k)) U:=N.trans (r.mono N.size);have n:GOp c z L A q x v w S R f U:=M.step H.2.1 ⟨p.os,p.tape,p.output⟩ p.size (λj l=>p.block j (by omega)) (λj l=>p.block j (qtk M.cp.au l));have aj:qah (kC c) U (λj=>j<U.heap.size) (.iface t y) d:=ai.same (λj l=>kai l.2 r.size) (λj l=>r.block j l.2);obtain⟨T,X,O⟩:=n.bs;have s:Below b0 z U:=n.cp.au.below.mono H.1;have ag:∀o,Frx (Xc A q (Value.slice v x.length w).ownBlock) U o->Below b0 z o:=λo hF=>by
    refine⟨hF.world.1.trans s.os,hF.world.2.1.trans s.tape,hF.world.2.2.trans s.output,kaj s.size hF.rows.size,λj l=>(hF.block j (by have:=s.size;omega) ⟨?_,?_,?_,?_⟩).trans (s.block j l)⟩
    ·have:=n.cp.au.high.1;omega
    ·have:=n.cp.au.high.2.2.2.1;omega
    ·have:=n.cp.au.high.2.2.2.2;omega
    intro e;have:=qbH n.cp.au.states e.symm;omega
   refine qnY (Xc A q (Value.slice v x.length w).ownBlock) (kC c) U (W.heap.size+1) (gtC c A f) (qjH c A) (.slice i fed.length k) false ((p.block _ (by omega)).trans af) t y _ _ T X c.B O ck.b8 ck.b6 (K.wr fed d P J) (λo hF=>?_) (λo hF=>C.up (ag o hF)) (λU' ac=>K.rw n C ac aj (by omega));have Q:=n.bk;rw[O]at Q;exact qtC (Q.kept (λ_ hg=>hg) hF.rows (by decide) (by decide) (by decide)))
 refine ae.mono ?_;rintro e o ⟨va,vn,vc,rfl,u,k2,k3⟩;refine⟨va,vn,vc,rfl,⟨u.world.1,u.world.2.1,u.world.2.2,kaj (by omega) u.size,λj l=>u.block j (by omega) (by omega) ⟨?_,?_,?_,?_⟩⟩,u.size,k2,k3⟩
 ·have:=m.cp.au.high.1;omega
 ·have:=m.cp.au.high.2.2.2.1;omega
 ·have:=m.cp.au.high.2.2.2.2;omega
 intro e;have:=qbH m.cp.au.states e.symm;omega

theorem qv9(c:Int)(n:Nat)(w:World)(i:1<=n)(f:n<=maxLen)(j : -9223372036854775808<=c)(k:c<=9223372036854775807):Calls prog 8 #[.int .i64 c,.int .i64 n] w λe g=>e=.returned (.int .i64 (qaI c n))/\g=w:=by
 unfold maxLen at f;have l:(0:Int)<n:=by omega
 by_cases h:c<0
 ·have a:Hid ((qaI c n:Int)=(-(c+1))%n):=by
   have b:=kd2 (-(c+1)) (show(n:Int)≠0 by omega);show _=_;unfold qaI;rw[kag h,kbD b]
  go_enter func8,ntmps8;go_wp2;go_ret;have d : -((c+1).tmod n)=(-(c+1))%n:=by rw[<-Int.neg_tmod,Int.tmod_eq_emod_of_nonneg (by omega)]
  exact⟨by rw[a.out,<-d];rfl,rfl⟩
 have a:Hid ((qaI c n:Int)=c%n):=by
  have b:=kd2 c (show(n:Int)≠0 by omega);show _=_;unfold qaI;rw[kac h,kbD b]
 go_enter func8,ntmps8;go_wp2;go_ret;exact⟨by rw[a.out];rfl,rfl⟩
theorem qjs(W:World)(l:List UInt8)(d:l.length<=maxLen):∃a V,(convert 9 27 (.string ⟨l.toArray⟩)).run prog W=.ok (.slice (some ⟨W.heap.size,0,none⟩) l.length a) V/\Below W.heap.size W V/\qau V (some ⟨W.heap.size,0,none⟩) l/\l.length<=a:=by
 have h:=run_bytes_of_string (P:=prog) W 9 27 5 ⟨l.toArray⟩ underlying9 underlying27 underlying5;have b:(⟨l.toArray⟩:ByteArray).size=l.length:=kaT ..;refine⟨_,_,by rw[<-b];exact h,((kam _ _).drew).alloc (kaf _) _,⟨λi c=>⟨W.heap.size,0,rfl,by rw[kad];exact kcS _,?_⟩,d⟩,by rw[b];exact grownCap_ge _ _ _ _⟩;rw[kaL];refine(World.cell?_alloc_mark W.drew _ _ _ i).trans ((bytesRow_at ⟨l.toArray⟩ _ i (by simpa using c)).trans ?_);simp
theorem quY(s:ByteArray)(p:Nat)(d:p<=s.size)(w:World):(Instr.sliceAt 9 (.string s) none (some (.int .i64 p)) none).run prog w=.ok (.string (s.extract 0 p)) w:=by
 have a:(0:Int)<=(p:Int):=by omega
 have b:(p:Int)<=(s.size:Int):=by omega
 have c:=underlying9;simp only[go_sem,c,a,b,kbp]
theorem qvf(s:ByteArray)(p:Nat)(d:p<=s.size)(w:World):(Instr.sliceAt 9 (.string s) (some (.int .i64 p)) none none).run prog w=.ok (.string (s.extract p s.size)) w:=by
 have a:(0:Int)<=(p:Int):=by omega
 have b:(p:Int)<=(s.size:Int):=by omega
 have c:=underlying9;simp only[go_sem,c,a,b,kbp]
theorem qux(l:List UInt8)(p q:Nat):(⟨l.toArray⟩:ByteArray).extract p q=⟨((l.take q).drop p).toArray⟩:=by
 apply kdQ;rw[kcr];apply kdj;rw[kc2,kcg];show(l.drop p).take (q-p)=(l.take q).drop p;rw[List.drop_take]
theorem qmr(l:List UInt8):(⟨l.toArray⟩:ByteArray).size=l.length:=kaT ..
theorem quK(l:List UInt8)(p:Nat)(a:p<=l.length)(w:World):(Instr.sliceAt 9 (.string ⟨l.toArray⟩) none (some (.int .i64 p)) none).run prog w=.ok (.string ⟨(l.take p).toArray⟩) w:=by
 have h:=quY ⟨l.toArray⟩ p (by rw[qmr];exact a) w;rw[qux]at h;exact h
theorem qyA(l:List UInt8)(p:Nat)(a:p<=l.length)(w:World):(Instr.sliceAt 9 (.string ⟨l.toArray⟩) (some (.int .i64 p)) none none).run prog w=.ok (.string ⟨(l.drop p).toArray⟩) w:=by
 have h:=qvf ⟨l.toArray⟩ p (by rw[qmr];exact a) w;rw[qux,qmr,kcd]at h;exact h
theorem qhQ.top(h:qhQ b W):qhQ W.heap.size W:=⟨h.rd,h.up bwR,h.db,h.gl,by have:=h.big;omega,kaf _⟩
theorem qri(c:Cfg)(l bs:List UInt8):qt2 c (l.take (c.bytes.toNat+1)) bs=(l++bs).take (c.bytes.toNat+1):=by
 unfold qt2;rw[List.take_append,kbc];by_cases h:l.length<=c.bytes.toNat+1
 ·rw[Nat.min_eq_right h]
 rw[Nat.min_eq_left (by omega),kcO,show c.bytes.toNat+1-l.length=0 by omega]
def czS(z:Cz):List UInt8:=match z with
 |.ok (_,.ok l)=>l
 |_=>[]
theorem qvM{base:Nat}(h:CzV V base v z):(convert 27 9 v).run prog V=.ok (.string ⟨(czS z).toArray⟩) V:=by
 match z,h with
 |.ok (_,.ok l),h=>exact qf3 h
 |.ok (_,.error _),h =>
  have h:v=.slice none 0 0:=h;rw[h];exact qm4 V
 |.error _,h =>
  have h:v=.slice none 0 0:=h;rw[h];exact qm4 V
def tdA(s:List UInt8)(R:Rep)(e p:Int):Array Value:=#[.string ⟨s.toArray⟩,.int .i64 R.1,.int .i64 R.2.1,.int .i64 R.2.2.1,.int .i64 R.2.2.2,.int .i64 e,.int .i64 p]
def tdZ:Array Value:=tdA [] (0,0,0,0) 0 0
theorem qpZ(e:Int):prog.built 34 [(2,.int .i64 e)]=some (tdA [] (0,0,0,0) e 0):=by kernel_rfl
theorem qps(s:List UInt8)(R:Rep)(e p:Int):prog.built 34 [(0,.string ⟨s.toArray⟩),(1,.agg (qaK R)),(2,.int .i64 e),(3,.int .i64 p)]=some (tdA s R e p):=by kernel_rfl
theorem qjS(s:List UInt8)(R:Rep)(e p:Int):(prog.info? 34).map (·.size)=some (tdA s R e p).size:=by kernel_rfl
theorem qrv(s:List UInt8)(R:Rep)(e p:Int):(tdA s R e p).all (·.oneCell')=true:=by simp[tdA,Value.oneCell']
def tdO(c:Cfg)(l:List UInt8):Array Value:=if qb4 c=0 then tdA (czS (clO c (l.take (c.bytes.toNat+1)))) (czR (clO c (l.take (c.bytes.toNat+1)))) (czE (clO c (l.take (c.bytes.toNat+1)))) (czP (clO c (l.take (c.bytes.toNat+1))))else tdA [] (0,0,0,0) (qb4 c) 0
theorem qix{P:Program}{fn:Func}{p u:Tmp}{ty:TypeId}(h:fn.results=#[.cell p ty,.tmp u])(b:Array Value)(w:World)(g:Nat)(t:TypeId)(cs:Array Value)(c:Nat×Nat)(d:TypeDesc)(j:b.getD p undef=.pointer (some ⟨g,0,none⟩))(i:w.heap[g]?=some (.cells cs t c))(k:P.underlying ty=some d)(f:(match d with|.struct _|.array _ _=>true|_=>false)=true)(hi:(P.info? ty).map (·.size)=some cs.size)(v:Value)(l:b.getD u undef=v):(results fn b).run P w=.ok (.tuple #[.agg cs,v]) w:=by
 have e:(results fn b).run P w=((asAddr (b.getD p undef)).run P w).andThen λa m=>((loadVar ty a).run P m).andThen λv n=>.ok (.tuple #[v,b.getD u undef]) n:=by
  simp only[results,h];simp[kbb,Result.andThen]
 subst l;rw[e,j];simp only[asAddr,kby,kaJ,kbZ w g t ty cs c d i k f hi]
structure qhc(w:World)(c:Cfg)(V:World):Prop where
 below:Below w.heap.size w V
 cfg:V.heap[w.heap.size]?=some (.cells c.arr 25)
 told:V.heap[w.heap.size+1]?=some (.cells tdZ 34)
theorem qhc.step(h:qhc w c V)(a:Below b V V')(d:w.heap.size+2<=b):qhc w c V' :=
 ⟨h.below.trans (a.mono (by omega)),(a.block _ (by omega)).trans h.cfg,(a.block _ (by omega)).trans h.told⟩
theorem qhc.next(h:qhc w c V)(a:Below V.heap.size V V'):qhc w c V' :=
 h.step a (by have:=ltA h.told;omega)
theorem qx6(w:World)(c:Cfg):qhc w c ((w.alloc (.cells c.arr 25)).alloc (.cells tdZ 34)):=by
 have h:=qac (w.alloc (.cells c.arr 25)) (.cells tdZ 34);rw[kad]at h;exact⟨(bwA).alloc (by rw[kad];omega) _,(kae _ _ _ (by rw[kad];omega)).trans (qac w _),h⟩

def qy8(w:World)(c:Cfg)(b0 L b:Nat)(l:List UInt8)(e:Ending)(V':World):Prop :=
 ∃en,e=.returned (.int .i64 en)/\qhc w c V'/\qlx c b0 L b (l.take (c.bytes.toNat+1)) V'
theorem qzy(ck:qnT c)(d:GPr c){bs:List UInt8}(h:qhc w c V)(g:qlx c b0 L b (l.take (c.bytes.toNat+1)) V)(j:w.heap.size+2<=b0){ia:Option Addr}{cap:Nat}(i:qau V ia bs)(m:ia≠none)(k:bs.length<=cap):Calls prog 16 #[.pointer (some ⟨L,0,none⟩),.slice ia bs.length cap] V (qy8 w c b0 L b (l++bs)):=by
 refine(qzI ck d g ia cap bs i (λe=>absurd e m) k).mono ?_;rintro e n ⟨rfl,a,_,f⟩;rw[qri]at a;exact⟨_,rfl,h.step f j,a⟩
theorem qzE(h:CzV V b v z)(a:Below V.heap.size V V'):CzV V' b v z:=by
 match z,h with
 |.ok (_,r),h=>exact PoV.same (r:=r) h λl k=>qhl k a
 |.error _,h=>exact h
theorem qoh(c:Cfg)(gp:qb4 c=0->GPr c/\GPw c)(w:World)(U:qia w c)(W:qhQ w.heap.size w)(s:List UInt8)(hs:s.length<=maxLen)(pc:Nat)(ax:1<=pc)(ay:pc<=maxLen+1):Calls prog 6 #[.agg c.arr,.string ⟨s.toArray⟩,.int .i64 pc] w λe d=>e=.returned (.tuple #[.agg (tdO c s),.bool true])/\Below w.heap.size w d:=by
 have R:Hid (c.arr.size=11):=c.size;have HC:Hid (qia w c):=U;have HT:Hid (qhQ w.heap.size w):=W;have k:Hid (qhc w c ((w.alloc (.cells c.arr 25)).alloc (.cells tdZ 34))):=qx6 w c;have B:=qf6 c ((w.alloc (.cells c.arr 25)).alloc (.cells tdZ 34)) (U.below k.out.below) (W.below k.out.below).gl;have S:Hid (∀V,qhc w c V->Calls prog 15 #[.agg c.arr] V λe d=>Below V.heap.size V d/\((¬qb4 c=0/\e=.returned (.tuple #[.pointer none,.int .i64 (qb4 c)]))\/(qb4 c=0/\∃L,e=.returned (.tuple #[.pointer (some ⟨L,0,none⟩),.int .i64 0])/\qlx c V.heap.size L d.heap.size [] d))):=λV m=>q0i c V (U.below m.below) (W.below m.below).top;clear U W;by_cases i:qb4 c=0
 ·have Z:Hid (qnT c):=qhN i;have O:=qab (gp i);obtain⟨z,HZ⟩:∃z,Hid (clO c (s.take (c.bytes.toNat+1))=z):=⟨_,rfl⟩
  have x:Hid (tdO c s=tdA (czS z) (czR z) (czE z) (czP z)):=by show _=_;unfold tdO;rw[kag i,HZ.out]
  rw[x.out];have A:Hid (∀V,qhc w c V->Calls prog 15 #[.agg c.arr] V λe d=>∃L,e=.returned (.tuple #[.pointer (some ⟨L,0,none⟩),.int .i64 0])/\qhc w c d/\qlx c V.heap.size L d.heap.size [] d):=λV m=>(S.out V m).mono (by
   rintro e d ⟨h1,j⟩;rcases j with⟨j,_⟩|⟨_,L,h3,h4⟩
   ·exact absurd i j
   exact⟨L,h3,m.next h1,h4⟩)
  rw[i]at B;clear x S i gp;go_enter func6,ntmps6
  go_wp2_with(first
   |(refine kak rfl 25 _ rfl w.heap.size rfl _ _ _ _ k.out.cfg underlying25 rfl (qaD R.out) ?_)
   |(go_at_call 9;refine B.mono ?_;clear B;rintro e n ⟨rfl,a⟩;have l:Hid (qhc w c n):=k.out.next a;clear a k;have C:=A.out n l.out;clear A;have Y:Hid (w.heap.size+2<=n.heap.size):=(kdd.1 l.out.told).1)
   |(refine kak rfl 25 _ rfl w.heap.size rfl _ _ _ _ l.out.cfg underlying25 rfl (qaD R.out) ?_)
   |(go_at_call 15;refine C.mono ?_;clear C;rintro e v ⟨L,rfl,G,aj⟩;have q:Hid (qhc w c v):=G;have ae:Hid (qlx c n.heap.size L v.heap.size [] v):=aj;clear G aj l))
  generalize v.heap.size=b3 at *;generalize n.heap.size=b2 at *
  go_loopg[1] s.length (λaa av V=>∃D b:List UInt8,av=.string ⟨b.toArray⟩/\Hid (D++b=s)/\Hid (b.length<=aa)/\Hid (qhc w c V)/\Hid (qlx c b2 L b3 (D.take (c.bytes.toNat+1)) V))
  case atStart=>exact⟨[],s,rfl,rfl,kaf _,q,by rw[List.take_nil];exact ae⟩
  case round =>
   clear q ae;obtain⟨D,b,rfl,M,HR,P,N⟩:=hrel;have aq:b.length<=maxLen:=by have an:=congrArg List.length M.out;rw[kaa]at an;omega
   by_cases aw:(pc:Int)<(b.length:Int)
   ·cases gk with
    |zero=>have:=HR.out;omega
    |succ aa =>
     have ab:pc<=b.length:=by omega
     have ar:=λw=>quK b pc ab w;have au:=λw=>qyA b pc ab w;have ac:(b.take pc).length<=maxLen:=by rw[kbc];omega
     obtain⟨K,g⟩:∃K,Hid (b.take pc=K):=⟨_,rfl⟩
     obtain⟨dp,h⟩:∃dp,Hid (b.drop pc=dp):=⟨_,rfl⟩
     rw[g.out]at ac;simp only[g.out]at ar;simp only[h.out]at au;obtain⟨am,V2,ap,a,I,J⟩:=qjs wr K ac;have u:=qzy Z.out O.out.1 (P.out.next a) (N.out.step a) Y.out I (by simp) J;clear ab ac I a J P N
     go_wp2_with(first
      |(go_at_call 16;refine u.mono ?_;clear u;rintro e X ⟨en,rfl,H,F⟩;have Q:Hid (qhc w c X):=H;have al:Hid (qlx c b2 L b3 ((D++K).take (c.bytes.toNat+1)) X):=F;clear H F))
     go_roundg aa
     case measure=>omega
     case rel=>exact⟨D++K,dp,rfl,by show _=_;rw[<-g.out,<-h.out,kap,kbu];exact M.out,by show _<=_;rw[<-h.out,kaR];have:=HR.out;omega,Q,al⟩
   obtain⟨am,V2,ap,a,I,J⟩:=qjs wr b aq;have u:=qzy Z.out O.out.1 (P.out.next a) (N.out.step a) Y.out I (by simp) J;rw[M.out]at u;clear I a J P N M HR;obtain⟨f,ag⟩:∃f,Hid (czR z=f):=⟨_,rfl⟩
   obtain⟨p,ad⟩:∃p,Hid (czE z=p):=⟨_,rfl⟩
   obtain⟨r,af⟩:∃r,Hid (czP z=r):=⟨_,rfl⟩
   obtain⟨t,ah⟩:∃t,Hid (czS z=t):=⟨_,rfl⟩
   go_wp2_with(first
    |(go_at_call 16;refine u.mono ?_;clear u;rintro e X ⟨en,rfl,H,F⟩;have Q:Hid (qhc w c X):=H;have T:=qze Z.out O.out.1 O.out.2 F;clear H F;unfold quC at T;rw[HZ.out,ag.out,ad.out,af.out]at T)
    |(go_at_call 17;refine T.mono ?_;clear T;rintro e o ⟨va,vn,vc,rfl,ai,_,_,ak⟩;have ao:=qvM (qzE ak ((kam o.heap.size o).alloc (kaf _) (.cells (qaK f) 32)));rw[ah.out]at ao;have y:Hid (qhc w c (o.alloc (.cells (qaK f) 32))):=(Q.out.step ai Y.out).next bwA;clear ai ak Q)
    |(refine kan rfl 32 _ _ rfl o.heap.size (qaK f) rfl rfl 32 _ (qac o _) (qbk f) rfl (qfk f) ?_;rw[kaB])
    |(refine kak rfl 32 _ rfl o.heap.size rfl _ _ _ _ (qac o _) underlying32 rfl (qbk f) ?_)
    |(refine qal rfl 34 _ rfl _ rfl _ [(0,.string ⟨t.toArray⟩),(1,.agg (qaK f)),(2,.int .i64 p),(3,.int .i64 r)] ?hl (qps t f p r) ?_;case hl=>simp[go_sem])
    |(refine kan rfl 34 _ _ rfl (w.heap.size+1) (tdA t f p r) rfl rfl 34 _ y.out.told (qjS _ _ _ _) rfl (qrv _ _ _ _) ?_))
   refine kaw (qix results6 _ _ (w.heap.size+1) 34 (tdA t f p r) (0,0) _ rfl (kaA _ _ _ _ _ _ y.out.told) underlying34 rfl (qjS _ _ _ _) _ rfl) rfl ?_;rw[ag.out,ad.out,af.out,ah.out];exact⟨rfl,qai y.out.below (by omega) _⟩
 have x:Hid (tdO c s=tdA [] (0,0,0,0) (qb4 c) 0):=kac i;rw[x.out];have A:Hid (∀V,qhc w c V->Calls prog 15 #[.agg c.arr] V λe d=>e=.returned (.tuple #[.pointer none,.int .i64 (qb4 c)])/\qhc w c d):=λV m=>(S.out V m).mono (by
  rintro e d ⟨h1,j⟩;rcases j with⟨_,j⟩|⟨j,_⟩
  ·exact⟨j,m.next h1⟩
  exact absurd j i)
 generalize qb4 c=E at *;have e1:(E==0)=false:=by simpa using i
 have e2:(E != E)=false:=by simp
 have e3:(E==E)=true:=by simp
 clear x S i gp;go_enter func6,ntmps6
 go_wp2_with(first
  |(refine kak rfl 25 _ rfl w.heap.size rfl _ _ _ _ k.out.cfg underlying25 rfl (qaD R.out) ?_)
  |(go_at_call 9;refine B.mono ?_;clear B;rintro e n ⟨rfl,a⟩;have l:Hid (qhc w c n):=k.out.next a;clear a k;have C:=A.out n l.out;clear A)
  |(refine kak rfl 25 _ rfl w.heap.size rfl _ _ _ _ l.out.cfg underlying25 rfl (qaD R.out) ?_)
  |(go_at_call 15;refine C.mono ?_;clear C;rintro e v ⟨rfl,G⟩;have q:Hid (qhc w c v):=G;clear G l)
  |(refine qal rfl 34 _ rfl _ rfl _ [(2,.int .i64 E)] ?hl (qpZ E) ?_;case hl=>simp[go_sem])
  |(refine kan rfl 34 _ _ rfl (w.heap.size+1) (tdA [] (0,0,0,0) E 0) rfl rfl 34 _ q.out.told (qjS _ _ _ _) rfl (qrv _ _ _ _) ?_))
 refine kaw (qix results6 _ _ (w.heap.size+1) 34 (tdA [] (0,0,0,0) E 0) (0,0) _ rfl (kaA _ _ _ _ _ _ q.out.told) underlying34 rfl (qjS _ _ _ _) _ rfl) rfl ?_;exact⟨rfl,qai q.out.below (by omega) _⟩

end
end Go.Proofs.YtmajcjammmjimaaGreatDoor
