import Derived.Lib.RuneBytes
import Derived.Laws.IdiomStrings
import Derived.Test.YtmajcjammmjimaaGreatDoorCq05
import Derived.Test.YtmajcjammmjimaaGreatDoorCq08
set_option maxRecDepth 100000
set_option maxHeartbeats 8000000
set_option linter.all false
namespace Go.Proofs.YtmajcjammmjimaaGreatDoor
open Go.Proofs.Tryz
variable{b b0 base c cap cap5 g j k n off p q wh wh':Nat}{V V' W W' w w5:World}{a:Option Addr}{fv u v:Value}{acc acc' bs:List UInt8}{lim r:Int}{s:Src}
section
open Go.RowKit Go.Lib
def szU(b:UInt8):Nat:=firstT b.toNat%8
def loU(b:UInt8):Nat:=accLo (firstT b.toNat/16)
def hiU(b:UInt8):Nat:=accHi (firstT b.toNat/16)
def qu8:List UInt8->Bool
 |[]=>true
 |[b0]=>decide (2<=szU b0)
 |[b0,b1]=>decide (3<=szU b0/\loU b0<=b1.toNat/\b1.toNat<=hiU b0)
 |[b0,b1,b2]=>decide (4<=szU b0/\(loU b0<=b1.toNat/\b1.toNat<=hiU b0)/\128<=b2.toNat/\b2.toNat<=191)
 |_=>false
def qb7(l:List UInt8)(b:UInt8):Nat:=match l with
 |[]=>if szU b=0 then 2 else if szU b=1 then 0 else 1
 |[b0]=>if b.toNat<loU b0\/hiU b0<b.toNat then 0 else if szU b0=2 then 2 else 1
 |[b0,_]=>if b.toNat<128\/191<b.toNat then 0 else if szU b0=3 then 2 else 1
 |_=>if b.toNat<128\/191<b.toNat then 0 else 2
theorem qlq(b:UInt8):(szU b=0/\firstT b.toNat=240/\b.toNat<128)\/(szU b=1/\firstT b.toNat=241/\128<=b.toNat)\/(2<=szU b/\szU b<=4/\firstT b.toNat<240/\128<=b.toNat):=by
 unfold szU;have f:=firstT_cases b.toNat;have c:b.toNat<128->firstT b.toNat=240:=λh=>by unfold firstT;rw[kag h]
 have d:128<=b.toNat->firstT b.toNat≠240:=λh=>by
  unfold firstT;rw[kac (by omega)]
  repeat' split
  all_goals decide
 by_cases a:b.toNat<128
 ·left;have:=c a;exact⟨by rw[this],this,a⟩
 have e:=d (by omega);rcases f with h|h|h|h|h|h|h|h|h
 ·exact absurd h e
 ·right;left;exact⟨by rw[h],h,by omega⟩
 all_goals(right;right;rw[h];exact⟨by decide,by decide,by decide,by omega⟩)
theorem qiI{b:UInt8}(h:2<=szU b):szU b<=4/\firstT b.toNat<240/\128<=b.toNat:=by
 rcases qlq b with a|a|a
 ·omega
 ·omega
 exact a.2
theorem qt4(b:UInt8):qg6 b.toNat (firstT b.toNat) (szU b) (firstT b.toNat/16) (loU b) (hiU b):=qwJ _ _ rfl (by
 rcases firstT_cases b.toNat with h|h|h|h|h|h|h|h|h<;>rw[h]<;>decide)
def qb5(V:World)(g off n cap:Nat)(r:Bool):Prop:=Calls prog 209 #[.slice (some ⟨g,off,none⟩) n cap] V λe W'=>e=.returned (.bool r)/\Below V.heap.size V W'
def qdE(V:World)(g off n cap:Nat)(bad:Bool):Prop:=Calls prog 210 #[.slice (some ⟨g,off,none⟩) n cap] V λe W'=>∃ch sz,e=.returned (.tuple #[.int .i32 ch,.int .i64 sz])/\(ch==65533&&sz==1)=bad/\Below V.heap.size V W'
theorem qdr(h:Calls prog 209 #[.slice (some ⟨g,off,none⟩) n cap] V λe a=>e=.returned (.bool true)/\a=V):qb5 V g off n cap true :=
 h.mono λ_ _ ⟨b,c⟩=>⟨b,c▸kam _ _⟩
theorem qcm(f:128<=b0)(j:1<=n)(c:V.cell? ⟨g,off,none⟩=some (.int .u8 b0))(h:Calls prog 217 #[.slice (some ⟨g,off,none⟩) n cap] V λe a=>e=.returned (.tuple #[.int .i32 65533,.int .i64 1])/\Below V.heap.size V a):qdE V g off n cap true :=
 qdx V g off cap n b0 f j c (λb k a=>(b==65533&&k==1)=true/\Below V.heap.size V a) (h.mono λ_ _ ⟨i,d⟩=>⟨65533,1,i,by decide,d⟩)
theorem qvY(b:2<=k)(a:Int):(a==65533&&(k:Int)==1)=false:=by
 have:((k:Int)==1)=false:=by simp;omega
 rw[this,Bool.and_false]
theorem qrl(f:2<=k)(d:128<=b0)(i:1<=n)(c:V.cell? ⟨g,off,none⟩=some (.int .u8 b0))(h:Calls prog 217 #[.slice (some ⟨g,off,none⟩) n cap] V λe b=>(∃a,e=.returned (.tuple #[.int .i32 a,.int .i64 k]))/\Below V.heap.size V b):qdE V g off n cap false :=
 qdx V g off cap n b0 d i c (λa j b=>(a==65533&&j==1)=false/\Below V.heap.size V b) (h.mono λ_ _ ⟨⟨a,he⟩,hB⟩=>⟨a,k,he,qvY f a,hB⟩)
theorem qsM(g off c:Nat)(l:List UInt8)(b:UInt8)(t:qu8 l=true)(V:World)(q:∀i (hi:i<(l++[b]).length),V.cell? ⟨g,off+i,none⟩=some (.int .u8 ((l++[b])[i]'hi).toNat))(h:U8 V):(qb7 l b=1->qb5 V g off (l.length+1) c false)/\(qb7 l b=0->qb5 V g off (l.length+1) c true/\qdE V g off (l.length+1) c true)/\(qb7 l b=2->qb5 V g off (l.length+1) c true/\qdE V g off (l.length+1) c false):=by
 match l,t with
 |[],_ =>
  have a:V.cell? ⟨g,off,none⟩=some (.int .u8 b.toNat):=q 0 (by simp);have f:=qt4 b;have d:=b.toNat_lt;unfold qb7;rcases qlq b with⟨v,u,k⟩|⟨v,u,k⟩|⟨v,u,k,n⟩
  ·rw[kag v];refine⟨by simp,by simp,λ_=>⟨qdr (qbW V g off 1 c _ _ _ _ _ _ f d (by decide) (by omega) (by decide) a h),?_⟩⟩;refine(qgd V g off c 1 b.toNat k (by decide) a).mono λ_ _ ⟨z,D⟩=>⟨b.toNat,1,z,?_,D▸kam _ _⟩
   have:((b.toNat:Int)==65533)=false:=by simp;omega
   rw[this,kdC]
  ·rw[kac (by omega),kag v];refine⟨by simp,λ_=>⟨qdr (qbW V g off 1 c _ _ _ _ _ _ f d (by decide) (by omega) (by decide) a h),?_⟩,by simp⟩;exact qcm k (kbk _ _) a ((qrG V g off c 1 _ u d (by decide) a h).mono λ_ _ ⟨z,D⟩=>⟨z,D▸kam _ _⟩)
  rw[kac (by omega),kac (by omega)];exact⟨λ_=>qkc V g off c _ _ _ _ _ _ f d (by omega) a h,by simp,by simp⟩
 |[b0],t =>
  have a:V.cell? ⟨g,off,none⟩=some (.int .u8 b0.toNat):=q 0 (by simp);have m:V.cell? ⟨g,off+1,none⟩=some (.int .u8 b.toNat):=q 1 (by simp);have f:=qt4 b0;have d:=b0.toNat_lt;have C:=kaq t;obtain⟨u,k,n⟩:=qiI C;have y:szU b0=2->qb5 V g off 2 c true:=λe=>qdr (qbW V g off 2 c _ _ _ _ _ _ f d (by decide) (by omega) (by decide) a h);unfold qb7;simp only[];by_cases q1:b.toNat<loU b0
  ·rw[kag (.inl q1)];refine⟨by simp,λ_=>?_,by simp⟩;by_cases j:szU b0=2
   ·exact⟨y j,qcm n (kbk _ _) a (qsH V g off c _ _ _ _ _ _ _ f d k a m h j q1)⟩
   exact⟨qm1 V g off c _ _ _ _ _ _ _ f d (by omega) a m h q1,qcm n (kbk _ _) a (qdJ V g off c 2 _ _ _ _ _ _ f d k a h (by decide) (by omega))⟩
  by_cases o:hiU b0<b.toNat
  ·rw[kag (.inr o)];refine⟨by simp,λ_=>?_,by simp⟩;by_cases j:szU b0=2
   ·exact⟨y j,qcm n (kbk _ _) a (qsv V g off c _ _ _ _ _ _ _ f d k a m h j q1 o)⟩
   exact⟨qmD V g off c _ _ _ _ _ _ _ f d (by omega) a m h q1 o,qcm n (kbk _ _) a (qdJ V g off c 2 _ _ _ _ _ _ f d k a h (by decide) (by omega))⟩
  rw[kac (by omega)];by_cases j:szU b0=2
  ·rw[kag j];exact⟨by simp,by simp,λ_=>⟨y j,qrl (by decide) n (kbk _ _) a (qtK V g off c _ _ _ _ _ _ _ f d k a m h j q1 o)⟩⟩
  rw[kac j];exact⟨λ_=>qlc V g off c _ _ _ _ _ _ _ f d (by omega) a m h q1 o,by simp,by simp⟩
 |[b0,b1],t =>
  have a:V.cell? ⟨g,off,none⟩=some (.int .u8 b0.toNat):=q 0 (by simp);have m:V.cell? ⟨g,off+1,none⟩=some (.int .u8 b1.toNat):=q 1 (by simp);have p:V.cell? ⟨g,off+2,none⟩=some (.int .u8 b.toNat):=q 2 (by simp);have f:=qt4 b0;have d:=b0.toNat_lt;obtain⟨C,E,F⟩:=kaq t;obtain⟨u,k,n⟩:=qiI (b:=b0) (by omega);have r:¬b1.toNat<loU b0:=by omega
  have s:¬hiU b0<b1.toNat:=by omega
  have y:szU b0=3->qb5 V g off 3 c true:=λe=>qdr (qbW V g off 3 c _ _ _ _ _ _ f d (by decide) (by omega) (by decide) a h);unfold qb7;simp only[];by_cases q1:b.toNat<128
  ·rw[kag (.inl q1)];refine⟨by simp,λ_=>?_,by simp⟩;by_cases j:szU b0=3
   ·exact⟨y j,qcm n (kbk _ _) a (qt1 V g off c _ _ _ _ _ _ _ _ f d k a m p h j r s q1)⟩
   exact⟨qka V g off c _ _ _ _ _ _ _ _ f d (by omega) a m p h r s q1,qcm n (kbk _ _) a (qdJ V g off c 3 _ _ _ _ _ _ f d k a h (by decide) (by omega))⟩
  by_cases o:191<b.toNat
  ·rw[kag (.inr o)];refine⟨by simp,λ_=>?_,by simp⟩;by_cases j:szU b0=3
   ·exact⟨y j,qcm n (kbk _ _) a (quh V g off c _ _ _ _ _ _ _ _ f d k a m p h j r s o)⟩
   exact⟨qjZ V g off c _ _ _ _ _ _ _ _ f d (by omega) a m p h r s q1 o,qcm n (kbk _ _) a (qdJ V g off c 3 _ _ _ _ _ _ f d k a h (by decide) (by omega))⟩
  rw[kac (by omega)];by_cases j:szU b0=3
  ·rw[kag j];exact⟨by simp,by simp,λ_=>⟨y j,qrl (by decide) n (kbk _ _) a (qst V g off c _ _ _ _ _ _ _ _ f d k a m p h j r s (by omega) (by omega))⟩⟩
  rw[kac j];exact⟨λ_=>qkd V g off c _ _ _ _ _ _ _ _ f d (by omega) a m p h r s q1 o,by simp,by simp⟩
 |[b0,b1,b2],t =>
  have a:V.cell? ⟨g,off,none⟩=some (.int .u8 b0.toNat):=q 0 (by simp);have m:V.cell? ⟨g,off+1,none⟩=some (.int .u8 b1.toNat):=q 1 (by simp);have p:V.cell? ⟨g,off+2,none⟩=some (.int .u8 b2.toNat):=q 2 (by simp);have x:V.cell? ⟨g,off+3,none⟩=some (.int .u8 b.toNat):=q 3 (by simp);have f:=qt4 b0;have d:=b0.toNat_lt;obtain⟨C,⟨E,F⟩,A,B⟩:=kaq t;obtain⟨u,k,n⟩:=qiI (b:=b0) (by omega);have w:szU b0=4:=by omega
  have r:¬b1.toNat<loU b0:=by omega
  have s:¬hiU b0<b1.toNat:=by omega
  have y:=qdr (qbW V g off 4 c _ _ _ _ _ _ f d (by decide) (by omega) (by decide) a h);unfold qb7;simp only[];by_cases q1:b.toNat<128
  ·rw[kag (.inl q1)];exact⟨by simp,λ_=>⟨y,qcm n (kbk _ _) a (qtm V g off c _ _ _ _ _ _ _ _ _ f d k a m p x h w r s A B q1)⟩,by simp⟩
  by_cases o:191<b.toNat
  ·rw[kag (.inr o)];exact⟨by simp,λ_=>⟨y,qcm n (kbk _ _) a (qsx V g off c _ _ _ _ _ _ _ _ _ f d k a m p x h w r s A B o)⟩,by simp⟩
  rw[kac (by omega)];exact⟨by simp,by simp,λ_=>⟨y,qrl (by decide) n (kbk _ _) a (que V g off c _ _ _ _ _ _ _ _ _ f d k a m p x h w r s A B (by omega) (by omega))⟩⟩

structure qcz(W:World)(p base:Nat)(bs:List UInt8)(wh:Nat):Prop where
 row:∃v,W.heap[p]?=some (.cells #[v,.int .i64 wh] 305)/\Own W base v bs
 lt:p<base
 le:wh<=bs.length
structure qdd(p base:Nat)(W W':World):Prop where
 os:W'.os=W.os
 tape:W'.tape=W.tape
 output:W'.output=W.output
 size:W.heap.size<=W'.heap.size
 block:∀k,k<base->k≠p->W'.heap[k]?=W.heap[k]?
theorem qdd.refl(p a:Nat)(W:World):qdd p a W W:=⟨rfl,rfl,rfl,kaf _,λ_ _ _=>rfl⟩
theorem qdd.trans{a b c:World}(h:qdd p base a b)(d:qdd p base b c):qdd p base a c :=
 ⟨d.os.trans h.os,d.tape.trans h.tape,d.output.trans h.output,kaj h.size d.size,λk e f=>(d.block k e f).trans (h.block k e f)⟩
theorem qdd.of_below(h:Below W.heap.size W W')(a:base<=W.heap.size):qdd p base W W' :=
 ⟨h.os,h.tape,h.output,h.size,λk b _=>h.block k (by omega)⟩
theorem qds{a b:Value}{t:TypeId}(c:w.heap[g]?=some (.cells #[a,b] t)):(w.setCell ⟨g,0,none⟩ v).heap[g]?=some (.cells #[v,b] t)/\(w.setCell ⟨g,1,none⟩ v).heap[g]?=some (.cells #[a,v] t):=by
 constructor
 ·rw[kdi w g 0 _ _ _ v c,kaA _ _ _ _ _ _ c];rfl
 rw[kdi w g 1 _ _ _ v c,kaA _ _ _ _ _ _ c];rfl
theorem qfB:qdd p base w (w.setCell ⟨p,j,none⟩ v) :=
 ⟨rfl,rfl,rfl,by simp[World.setCell],λk _ a=>kat _ _ _ _ (by simpa using a)⟩
theorem qew(h:Own w base v bs)(n:p<base):Own (w.setCell ⟨p,j,none⟩ u) base v bs:=by
 obtain⟨⟨d,a⟩,f,i⟩:=h;refine⟨⟨d,?_⟩,by simpa[World.setCell]using f,i⟩;rcases a with a|⟨g,b,c,e,l,m,k⟩
 ·exact .inl a
 exact .inr ⟨g,b,c,e,l,(kat _ _ _ _ (by simp;omega)).trans m,k⟩
theorem qcz.same(h:qcz W p base bs wh)(d:∀k,k<W.heap.size->k=p\/base<=k->W'.heap[k]?=W.heap[k]?)(q:W.heap.size<=W'.heap.size):qcz W' p base bs wh:=by
 obtain⟨v,f,⟨l,a⟩,o,m⟩:=h.row;refine⟨⟨v,(d p (ltA f) (.inl rfl)).trans f,⟨l,?_⟩,by omega,m⟩,h.lt,h.le⟩;rcases a with a|⟨g,i,j,e,b,c,n⟩
 ·exact .inl a
 exact .inr ⟨g,i,j,e,b,(d g (ltA c) (.inr b)).trans c,n⟩
theorem qcz.below(h:qcz W p base bs wh)(a:Below W.heap.size W W'):qcz W' p base bs wh:=h.same (λk b _=>a.block k b) a.size
theorem qcz.but(h:qcz W p base bs wh)(c:But b W W')(e:b<base)(f:b≠p):qcz W' p base bs wh:=h.same (λk d a=>c.block k d (by rcases a with a|a<;>omega)) c.size
theorem qgI(W:World)(p k:Nat)(bs:List UInt8)(b:Nat)(h:qcz W p k bs b):Calls prog 199 #[.pointer (some ⟨p,0,none⟩)] W λe j=>e=.returned (.bool (decide (b=bs.length)))/\Below W.heap.size W j:=by
 obtain⟨v,f,⟨r,d⟩,_,a,n,c,rfl⟩:=h.row;have m:n=bs.length:=by
  rcases d with⟨d,l⟩|⟨g,o,q,e,_⟩
  ·cases d;exact l.symm
  cases e;rfl
 subst m;have s:=qaa f 0;have t:=qaa f 1;have i:Hid (((b:Int)==(bs.length:Int))=decide (b=bs.length)):=by
  show _=_;by_cases e:b=bs.length
  ·simp[e]
  simp[e];omega
 go_enter func199,ntmps199;go_wp2
 go_quiet (fail)
 go_wp2;go_ret;refine⟨?_,qao W nq⟩;show Ending.returned (.bool _)=_;rw[i.out]
theorem qcN(h:Own W base (.slice (some ⟨g,0,none⟩) n cap) bs):(n=bs.length/\bs.length<=cap/\cap<=maxLen/\base<=g)/\∀j (a:j<bs.length),W.cell? ⟨g,j,none⟩=some (.int .u8 ((bs[j]'a).toNat:Int)):=by
 obtain⟨⟨r,b⟩,_,_⟩:=h;rcases b with⟨b,_⟩|⟨q,o,p,e,k,m,d,f,s,i⟩
 ·cases b
 cases e;refine⟨⟨rfl,d,f,k⟩,λj a=>?_⟩;rw[qaa m j,<-kbE];have c:=congrArg (λl=>l[j]?) i;simp only[kdI]at c;rw[kbF a,kbx,kab a]at c;exact c
theorem U8.keep(h:U8 W)(e:qdd p base W V)(j:7<p)(l:p<base):U8 V:=by
 have a:∀(g off:Nat) (v:Value),g<=7->W.cell? ⟨g,off,none⟩=some v->V.cell? ⟨g,off,none⟩=some v:=λg off v k f=>(kaN (w:=W) (e.block g (by omega) (by omega))).trans f;exact⟨λc d=>a _ _ _ (by decide) (h.1 c d),λi b=>⟨a _ _ _ (by decide) (h.2 i b).1,a _ _ _ (by decide) (h.2 i b).2⟩⟩
theorem qjX(h:qcz W p base bs wh):qcz (W.setCell ⟨p,1,none⟩ (.int .i64 bs.length)) p base bs bs.length:=by
 obtain⟨v,b,a⟩:=h.row;exact⟨⟨v,(qds b).2,qew a h.lt⟩,h.lt,kaf _⟩
structure qz7(W:World)(p base g cap:Nat)(bs:List UInt8)(wh:Nat)(V:World):Prop where
 keep:qdd p base W V
 gat:qcz V p base bs wh
 row:V.heap[p]?=some (.cells #[.slice (some ⟨g,0,none⟩) bs.length cap,.int .i64 wh] 305)
 cells:∀j (hj:j<bs.length),V.cell? ⟨g,j,none⟩=some (.int .u8 ((bs[j]'hj).toNat:Int))
 cap:bs.length<=cap/\cap<=maxLen
theorem q03{b:UInt8}(q:base<=W.heap.size)(e:p<base)(B:wh<=bs.length)(o:W.ownsRow base 5 1 (.slice a n c) bs.length (bs.map qax))(y:qax b=u)(x:w5.ownsRow base 5 1 (.slice (some ⟨g,0,none⟩) (bs.length+1) cap5) (bs.length+1) (bs.map qax++[u]))(r:(W.alloc (.cells #[u] 5)).grownBy w5 (Value.slice a n c).ownBlock)(l:w5.heap[p]?=some (.cells #[.slice a n c,.int .i64 wh] 305)):qz7 W p base g cap5 (bs++[b]) wh (w5.setCell ⟨p,0,none⟩ (.slice (some ⟨g,0,none⟩) (bs.length+1) cap5)):=by
 have d:=qa4 ((kam base W).alloc q _) (o.alloc _) r (by simp;omega);have f:Own w5 base (.slice (some ⟨g,0,none⟩) (bs.length+1) cap5) (bs++[b]):=⟨qbQ x y,by have:=d.size;omega,_,_,_,rfl⟩
 obtain⟨⟨z,c2,m,A⟩,cs⟩:=qcN f;have h:=qew (p:=p) (j:=0) (u:=.slice (some ⟨g,0,none⟩) (bs.length+1) cap5) f e;have t:(bs++[b]).length=bs.length+1:=by simp
 have i:=(qds (v:=.slice (some ⟨g,0,none⟩) (bs.length+1) cap5) l).1;refine⟨⟨d.os,d.tape,d.output,by simpa[World.setCell]using d.size,λk s w=>(kat _ _ _ _ (by simpa using w)).trans (d.block k s)⟩,⟨⟨_,i,h⟩,e,by omega⟩,by rw[t];exact i,(qcN h).2,⟨c2,m⟩⟩
theorem qrV(W:World)(p t:Nat)(bs:List UInt8)(d:Nat)(b:UInt8)(h:qcz W p t bs d)(hp:qu8 (bs.drop d)=true)(ht:U8 W)(h7:7<p)(hl:bs.length<=999999999):Calls prog 202 #[.pointer (some ⟨p,0,none⟩),.int .u8 b.toNat] W λe Z=>e=.returned (.bool (qb7 (bs.drop d) b != 0))/\qdd p t W Z/\qcz Z p t (bs++[b]) (if qb7 (bs.drop d) b=2 then bs.length+1 else d):=by
 obtain⟨D,G⟩:∃D,Hid ((qb7 (bs.drop d) b != 0)=D):=⟨_,show _=_ from rfl⟩
 obtain⟨E,H⟩:∃E,Hid ((if qb7 (bs.drop d) b=2 then bs.length+1 else d)=E):=⟨_,show _=_ from rfl⟩
 rw[G.out,H.out];obtain⟨i0,J,aj,ak,al⟩:=kaF Tryz.infoU8;obtain⟨ax,hr,ho,c,an,am,ao,rfl⟩:=h.row;have ad:=h.lt;have ab:=h.le;have hn:am=bs.length:=by
  rcases ho.2 with⟨w,h3⟩|⟨ar,ap,aq,e,_⟩
  ·cases w;exact h3.symm
  cases e;rfl
 subst hn;have N:=qab ho;have O:=qab hr;have HT:=qab ht;have C:=qaa hr 0;go_enter func202,ntmps202
 go_wp2_with(first
  |(at_builtin;refine kao _ rfl _ _ 27 rfl t 5 i0 (.int .u8 0) 1 1 underlying27 J aj ak al rfl (by decide) _ _ _ rfl (N.out.alloc _) ⟨W.heap.size,0,none⟩ 1 1 [.int .u8 b.toNat] rfl rfl (qag _ _ _) (λaw hu=>by simp at hu;subst hu;rfl) (by unfold maxLen;omega) (by omega) (by simp;omega) ?_;intro v' w5 ae n av;obtain⟨m,o,rfl⟩:=ownsRow_succ ae;have P:=qab ((n.block p (by have:=ltA O.out;simp;omega) (λe=>by have:=qbH N.out e.symm;omega)).trans ((kae _ _ _ (ltA O.out)).trans O.out));have C:=qaa P.out 0;have f0:=kaK w5 p 0 _ _ P.out))
 have f:=qab (q03 c ad ab N.out rfl ae n P.out);generalize w5.setCell ⟨p,0,none⟩ (.slice (some ⟨m,0,none⟩) (bs.length+1) o)=V at *;have C:=qaa f.out.row 0;have k1:=qaa f.out.row 1;have f1:=kaK V p 1 _ _ f.out.row;have ac:(bs++[b]).length=bs.length+1:=by simp
 rw[ac]at C k1;have Y:=f.out.cap;rw[ac]at Y;have au:=Y.1;have ag:=Y.2;unfold maxLen at ag;have ai:(bs.drop d).length+1=bs.length+1-d:=by rw[kaR];omega
 have z:Hid (∀X,Below V.heap.size V X->(qb7 (bs.drop d) b=1->qb5 X m d (bs.length+1-d) (o-d) false)/\(qb7 (bs.drop d) b=0->qb5 X m d (bs.length+1-d) (o-d) true/\qdE X m d (bs.length+1-d) (o-d) true)/\(qb7 (bs.drop d) b=2->qb5 X m d (bs.length+1-d) (o-d) true/\qdE X m d (bs.length+1-d) (o-d) false)):=by
  show∀X,_;intro X x;have v:(bs++[b]).drop d=bs.drop d++[b]:=kbW ab;have:=qsM m d (o-d) (bs.drop d) b hp X (λi J=>by
   have aa:d+i<(bs++[b]).length:=by
    rw[<-v,kaR]at J;omega
   have g:=f.out.cells (d+i) aa;have e:(bs.drop d++[b])[i]'J=(bs++[b])[d+i]'aa:=by
    simp only[<-v,kea]
   rw[e];exact(x.cell (p:=⟨m,d+i,none⟩) (kaI g)).trans g) ((HT.out.keep f.out.keep h7 ad).below x)
  rw[ai]at this;exact this
 have ah:qb7 (bs.drop d) b=0\/qb7 (bs.drop d) b=1\/qb7 (bs.drop d) b=2:=by
  unfold qb7
  repeat' split
  all_goals simp
 have M:=qab (kaj c f.out.keep.size)
 go_quiet (fail)
 have k:=qab (qao V nq);rcases ah with I|S|w
 ·have r:Hid (D=false):=by show _=_;rw[<-G.out,I];rfl
  have s:Hid (E=d):=by show _=_;rw[<-H.out,I];rfl
  have l:=((z.out _ k.out).2.1 I).1;have A:=λX x=>((z.out X x).2.1 I).2;unfold qb5 at l;unfold qdE at A
  go_wp2_with(first
   |(go_at_call 209;refine l.mono ?_;rintro e K ⟨rfl,B⟩;have j:=qab (k.out.trans (B.mono k.out.size));have R:=A K j.out)
   |(go_at_call 210;refine R.mono ?_;rintro e L ⟨a,sz,rfl,y,U⟩;have q:=qab (j.out.trans (U.mono j.out.size));rw[ka2]at y;obtain⟨u,af⟩:=y))
  go_ret;rw[r.out,s.out];exact⟨rfl,f.out.keep.trans (qdd.of_below q.out M.out),f.out.gat.below q.out⟩
 ·have r:Hid (D=true):=by show _=_;rw[<-G.out,S];rfl
  have s:Hid (E=d):=by show _=_;rw[<-H.out,S];rfl
  have l:=(z.out _ k.out).1 S;unfold qb5 at l
  go_wp2_with(first
   |(go_at_call 209;refine l.mono ?_;rintro e K ⟨rfl,B⟩;have j:=qab (k.out.trans (B.mono k.out.size))))
  go_ret;rw[r.out,s.out];exact⟨rfl,f.out.keep.trans (qdd.of_below j.out M.out),f.out.gat.below j.out⟩
 have r:Hid (D=true):=by show _=_;rw[<-G.out,w];rfl
 have s:Hid (E=bs.length+1):=by show _=_;rw[<-H.out,w];rfl
 have l:=((z.out _ k.out).2.2 w).1;have A:=λX x=>((z.out X x).2.2 w).2;unfold qb5 at l;unfold qdE at A
 go_wp2_with(first
  |(go_at_call 209;refine l.mono ?_;rintro e K ⟨rfl,B⟩;have j:=qab (k.out.trans (B.mono k.out.size));have R:=A K j.out))
 refine R.mono ?_;rintro e L ⟨a,sz,rfl,y,U⟩;have q:=qab (j.out.trans (U.mono j.out.size));have Q:=qab ((q.out.block p (ltA f.out.row)).trans f.out.row);have F:Hid (qdd p t W (L.setCell ⟨p,1,none⟩ (.int .i64 ((bs.length:Int)+1)))/\qcz (L.setCell ⟨p,1,none⟩ (.int .i64 ((bs.length:Int)+1))) p t (bs++[b]) (bs.length+1)):=by
  have T:=qjX (f.out.gat.below q.out);rw[show(bs++[b]).length=bs.length+1 by simp]at T;have e9:(((bs.length+1:Nat)):Int)=(bs.length:Int)+1:=by omega
  rw[e9]at T;exact⟨(f.out.keep.trans (qdd.of_below q.out M.out)).trans qfB,T⟩
 have C:=qaa Q.out 0;have k1:=qaa Q.out 1;have f1:=kaK L p 1 _ _ Q.out;rw[show(bs++[b]).length=bs.length+1 by simp]at C;cases u:(a==65533)
 ·clear y;go_wp2;go_ret;rw[r.out,s.out];exact⟨rfl,F.out.1,F.out.2⟩
 have af:(sz==1)=false:=by rw[u,kbB]at y;exact y
 go_wp2;go_ret;rw[r.out,s.out];exact⟨rfl,F.out.1,F.out.2⟩

def qbP(r:Int):List UInt8:=(encodeRuneZ r).map λx=>UInt8.ofNat x.toNat
theorem qqQ(x:Int)(a:0<=x)(b:x<=255):qax (UInt8.ofNat x.toNat)=.int .u8 x:=by
 unfold qax;rw[kbs,kaQ (by omega)];congr 1;omega
theorem qii(r:Int):runeCells r=(qbP r).map qax:=by
 have b:∀x∈encodeRuneZ r,0<=x/\x<=255:=by
  unfold encodeRuneZ
  repeat' split
  all_goals(intro x a;simp at a;omega)
 unfold runeCells qbP;rw[kcN];apply kdJ;intro x a;exact(qqQ x (b x a).1 (b x a).2).symm
theorem qcv(r:Int):1<=(qbP r).length/\(qbP r).length<=4:=by
 unfold qbP encodeRuneZ;rw[kaP]
 repeat' split
 all_goals simp
theorem qzJ{cs:List UInt8}{o:Obj}(r:base<=W.heap.size)(e:p<base)(B:wh<=bs.length)(q:W.ownsRow base 5 1 (.slice a n c) bs.length (bs.map qax))(x:w5.ownsRow base 5 1 (.slice (some ⟨g,0,none⟩) (bs.length+cs.length) cap5) (bs.length+cs.length) (bs.map qax++cs.map qax))(s:(W.alloc o).grownBy w5 (Value.slice a n c).ownBlock)(l:w5.heap[p]?=some (.cells #[.slice a n c,.int .i64 wh] 305)):qz7 W p base g cap5 (bs++cs) wh (w5.setCell ⟨p,0,none⟩ (.slice (some ⟨g,0,none⟩) (bs.length+cs.length) cap5)):=by
 have b:=qa4 ((kam base W).alloc r _) (q.alloc _) s (by simp;omega);have d:(bs++cs).length=bs.length+cs.length:=kaa;have f:Own w5 base (.slice (some ⟨g,0,none⟩) (bs.length+cs.length) cap5) (bs++cs):=⟨by rw[d,kaW];exact x,by have:=b.size;omega,_,_,_,rfl⟩
 obtain⟨⟨y,c2,m,z⟩,A⟩:=qcN f;have h:=qew (p:=p) (j:=0) (u:=.slice (some ⟨g,0,none⟩) (bs.length+cs.length) cap5) f e;have i:=(qds (v:=.slice (some ⟨g,0,none⟩) (bs.length+cs.length) cap5) l).1;refine⟨⟨b.os,b.tape,b.output,by simpa[World.setCell]using b.size,λk t w=>(kat _ _ _ _ (by simpa using w)).trans (b.block k t)⟩,⟨⟨_,i,h⟩,e,by omega⟩,by rw[d];exact i,(qcN h).2,⟨c2,m⟩⟩
theorem qfW(W:World)(p f:Nat)(bs:List UInt8)(t:Nat)(r:Int)(J : -2147483648<=r)(K:r<=2147483647)(h:qcz W p f bs t)(X:bs.length<=999999999):Calls prog 200 #[.pointer (some ⟨p,0,none⟩),.int .i32 r] W λe w=>e=.returned (.tuple #[])/\qdd p f W w/\qcz w p f (bs++qbP r) (bs++qbP r).length:=by
 obtain⟨v,j,i,A,a,n,c,rfl⟩:=h.row;have H:=h.lt;have G:=h.le;have I:n=bs.length:=by
  rcases i.2 with⟨E,F⟩|⟨g,Q,C,e,_⟩
  ·cases E;exact F.symm
  cases e;rfl
 subst I;have O:=qab i;have P:=qab j;have x:Calls prog 91 #[.slice a bs.length c,.int .i32 r] W λe s=>∃g b,e=.returned (.slice (some ⟨g,0,none⟩) (bs.length+(qbP r).length) b)/\Hid (qz7 W p f g b (bs++qbP r) t (s.setCell ⟨p,0,none⟩ (.slice (some ⟨g,0,none⟩) (bs.length+(qbP r).length) b)))/\Hid (s.heap[p]?=some (.cells #[.slice a bs.length c,.int .i64 t] 305)):=by
  refine(Any.utf8_AppendRune_plain Tryz.lays242 (by kernel_rfl) f (.slice a bs.length c) bs.length (bs.map qax) r J K W i (by omega) A).mono ?_;rintro e s ⟨v',rfl,q,o,B⟩;rw[qii,kaP]at q;have V:=(qcv r).1;rcases q.2 with⟨_,U⟩|⟨g,b,C,rfl,_⟩
  ·omega
  have z:=(B.block p (by have:=ltA j;simp;omega) (λe=>by have:=qbH i e.symm;omega)).trans ((kae _ _ _ (ltA j)).trans j);exact⟨g,b,rfl,qzJ A H G i q B z,z⟩
 have L:=qaa j 0;obtain⟨m,l⟩:∃m,(qbP r).length=m:=⟨_,rfl⟩
 have k:Hid ((bs++qbP r).length=bs.length+m/\m<=4):=⟨by rw[kaa,l],by rw[<-l];exact(qcv r).2⟩
 rw[l]at x;have Y:=k.out.2;go_enter func200,ntmps200
 go_wp2_with(first
  |(go_at_call 91;refine x.mono ?_;rintro e N ⟨T,b,rfl,d,u⟩;have L:=qaa u.out 0;have R:=kaK N p 0 _ _ u.out;have M:=qaa d.out.row 0;have S:=kaK _ p 1 _ _ d.out.row;have Z:=qaa d.out.row 1;rw[k.out.1]at M)
  )
 go_end0;refine⟨rfl,d.out.keep.trans qfB,?_⟩;have y:=qjX d.out.gat;have D:(((bs++qbP r).length:Nat):Int)=(bs.length:Int)+m:=by rw[k.out.1];omega
 rw[D]at y;exact y

theorem qpG{l:List UInt8}{c:UInt8}(a:qu8 l=true)(h:qb7 l c=1):qu8 (l++[c])=true:=by
 match l,a with
 |[],_ =>
  unfold qb7 at h;simp only[]at h;split at h
  ·cases h
  split at h
  ·cases h
  exact kax (by omega)
 |[b0],a =>
  have d:=kaq a;unfold qb7 at h;simp only[]at h;split at h
  ·cases h
  split at h
  ·cases h
  exact kax (by omega)
 |[b0,b1],a =>
  have d:=kaq a;have e:=qiI (b:=b0) (by omega);unfold qb7 at h;simp only[]at h;split at h
  ·cases h
  split at h
  ·cases h
  exact kax (by omega)
 |[b0,b1,b2],a =>
  unfold qb7 at h;simp only[]at h;split at h
  ·cases h
  cases h
def qcU(bs:List UInt8)(lim:Int):Nat->Nat->List UInt8->Nat->Except (Int×Int) (List UInt8×Nat)
 |0,p,_,_=>.error (9,p)
 |g+1,p,acc,wh=>match bs[p]? with
  |none=>.error (9,p)
  |some c=>if(p:Int)=lim then .error (8,p)else
   if c.toNat=34/\wh=acc.length then .ok (acc,p+1)else
   if c.toNat=92/\wh=acc.length then(match qlv bs lim (p+1)with
    |.error e=>.error e
    |.ok (r,q)=>qcU bs lim g q (acc++qbP r) (acc++qbP r).length)else
   if c.toNat<32 then .error (9,p)else if qb7 (acc.drop wh) c=0 then .error (9,p)else
   qcU bs lim g (p+1) (acc++[c]) (if qb7 (acc.drop wh) c=2 then acc.length+1 else wh)
theorem qoe(h:qfl bs lim p=.ok (r,q)):(0<=r/\r<=1114111)/\p+4<=q:=by
 unfold qfl at h;split at h
 ·cases h
 next x q1 hx =>
 obtain⟨a,d⟩:=qjF hx;split at h
 ·cases h
 split at h
 ·next hhi =>
  have b:=kaq (show decide (55296<=x/\x<=56319)=true from hhi);split at h
  ·cases h
  next q2 hr =>
  split at h
  ·cases h
  next y q3 hy =>
  obtain⟨e,f⟩:=qjF hy;split at h
  ·next hlo =>
   have c:=kaq (show decide (56320<=y/\y<=57343)=true from hlo);cases h;have:q1<=q2:=by
    unfold qaO at hr;split at hr
    ·cases hr
    split at hr
    ·cases hr
    split at hr
    ·unfold qaO at hr;split at hr
     ·cases hr
     split at hr
     ·cases hr
     split at hr
     ·unfold qaO at hr;cases hr;omega
     cases hr
    cases hr
   omega
  cases h
 cases h;simp at a;omega
theorem qls(h:qlv bs lim p=.ok (r,q)):(0<=r/\r<=1114111)/\p+1<=q:=by
 unfold qlv at h;split at h
 ·cases h
 split at h
 ·cases h
 repeat' split at h
 all_goals first
  |(cases h;omega)
  |(have:=qoe h;omega)
  |cases h
theorem qkh{wf:Nat}{c:UInt8}(d:wh<=acc.length)(e:qu8 (acc.drop wh)=true)(f:¬qb7 (acc.drop wh) c=0)(a:(if qb7 (acc.drop wh) c=2 then acc.length+1 else wh)=wf):qu8 ((acc++[c]).drop wf)=true:=by
 by_cases b:qb7 (acc.drop wh) c=2
 ·rw[kag b]at a;subst a;rw[kbA (by simp)];rfl
 rw[kac b]at a;subst a;rw[kbW d];refine qpG e ?_;have g:qb7 (acc.drop wh) c=0\/qb7 (acc.drop wh) c=1\/qb7 (acc.drop wh) c=2:=by
  unfold qb7
  repeat' split
  all_goals simp
 omega
theorem qht{Q:Exit->Act->World->Prop}{a:Act}(h:Q .ret a w):Exit.noGoto Q .ret a w:=h
structure qjK(W:World)(b:Nat)(s:Src)(p:Nat)(acc:List UInt8)(wh:Nat)(V:World):Prop where
 src:qad V b {s with pos:=p}
 but:But b W V
 box:V.heap[W.heap.size]?=some (.cells #[.pointer (some ⟨b,0,none⟩)] 114)
 gat:qcz V (W.heap.size+1) (W.heap.size+2) acc wh
theorem qjK.take(h:qjK W b s p acc wh V)(d:b<W.heap.size)(c:qad V' b {s with pos:=q})(a:But b V V'):qjK W b s q acc wh V' :=
 ⟨c,h.but.trans a,(a.block _ (ltA h.box) (by omega)).trans h.box,h.gat.but a (by omega) (by omega)⟩
theorem qjK.below(h:qjK W b s p acc wh V)(a:Below V.heap.size V V'):qjK W b s p acc wh V' :=
 ⟨h.src.below a,h.but.trans (But.of_below a),(a.block _ (ltA h.box)).trans h.box,h.gat.below a⟩
theorem qjK.keep(h:qjK W b s p acc wh V)(d:qad W b s)(a:qdd (W.heap.size+1) (W.heap.size+2) V V')(e:qcz V' (W.heap.size+1) (W.heap.size+2) acc' wh'):qjK W b s p acc' wh' V' :=
 ⟨d.same rfl rfl h.src (λk c=>a.block k (by omega) (by omega)),⟨a.os.trans h.but.os,a.tape.trans h.but.tape,a.output.trans h.but.output,kaj h.but.size a.size,λk c f=>(a.block k (by omega) (by omega)).trans (h.but.block k c f)⟩,(a.block _ (by omega) (by omega)).trans h.box,e⟩
theorem qm4:∀w:World,(convert 27 9 (.slice none 0 0)).run prog w=.ok (.string ⟨#[]⟩) w:=λw=>by kernel_rfl
theorem qf3(h:Own W base v bs):(convert 27 9 v).run prog W=.ok (.string ⟨bs.toArray⟩) W:=by
 have b:=h;obtain⟨⟨k,d⟩,l,m⟩:=h;rcases d with⟨rfl,c⟩|⟨g,a,i,rfl,n⟩
 ·have:bs=[]:=ka7 c;subst this;exact qm4 W
 refine kdy W 27 9 5 ⟨g,0,none⟩ a bs underlying27 underlying5 underlying9 ?_;intro j f;have e:(⟨g,0,none⟩:Addr).add j=⟨g,j,none⟩:=by by_cases h:j=0<;>simp[Addr.add,h]
 rw[e];exact(qcN b).2 j f
theorem qwy(h:qad W b s):qjK W b s s.pos [] 0 ((W.alloc (.cells #[.pointer (some ⟨b,0,none⟩)] 114)).alloc (.cells #[.slice none 0 0,.int .i64 0] 305)):=by
 have a:Below W.heap.size W ((W.alloc (.cells #[.pointer (some ⟨b,0,none⟩)] 114)).alloc (.cells #[.slice none 0 0,.int .i64 0] 305)):=(bwA).alloc (by simp) _;have c:=qac (W.alloc (.cells #[.pointer (some ⟨b,0,none⟩)] 114)) (.cells #[.slice none 0 0,.int .i64 0] 305);rw[kad]at c;refine⟨h.below a,But.of_below a,?_,⟨⟨_,c,?_⟩,by omega,kaf _⟩⟩
 ·have d:=qac W (.cells #[.pointer (some ⟨b,0,none⟩)] 114);exact(kae _ _ _ (by simp)).trans d
 refine⟨kaV _ _ _ _,?_,none,0,0,rfl⟩;simp
theorem qfD(W:World)(b:Nat)(s:Src)(h:qad W b s)(ht:U8 W)(h7:7<b)(ax:s.bs.length<=200000000):Calls prog 193 #[.agg #[.pointer (some ⟨b,0,none⟩)]] W (qbV W b s (λl:List UInt8=>.string ⟨l.toArray⟩) (qcU s.bs s.lim (s.bs.length+1-s.pos) s.pos [] 0)):=by
 have ak:=qab (qwy h);have P:=qab h;have Q:=qab ht;have C:=ltA h.row;have ar:=h.le;obtain⟨R,F⟩:∃R,Hid (qcU s.bs s.lim (s.bs.length+1-s.pos) s.pos [] 0=R):=⟨_,show _=_ from rfl⟩
 rw[F.out];go_enter func193,ntmps193;go_wp2;go_step3;go_wp2;go_step3;go_wp2;generalize(W.alloc (.cells #[.pointer (some ⟨b,0,none⟩)] 114)).alloc (.cells #[.slice none 0 0,.int .i64 0] 305)=W0 at *
 go_loopg[4,8] (s.bs.length+1-s.pos) (λg _ _ wr=>∃(p:Nat) (f:List UInt8) (j:Nat),Hid (s.bs.length+1<=p+g)/\Hid (p<=s.bs.length)/\Hid (f.length<=4*p)/\Hid (qu8 (f.drop j)=true)/\Hid (qjK W b s p f j wr)/\Hid (qcU s.bs s.lim g p f j=R))
 case atStart=>exact⟨s.pos,[],0,by show _<=_;omega,ar,by show 0<=_;omega,rfl,ak,F⟩
 case round =>
  obtain⟨p,f,j,hg,hp,M,af,m,F⟩:=hrel;obtain⟨g,rfl⟩:∃g,gk=g+1:=⟨gk-1,by have:=hg.out;have:=hp.out;omega⟩
  have t:=qaa m.out.box 0;have HU:Hid (∀V,But b W V->U8 V):=by
   show∀V,_;intro V B;have i:∀(q off:Nat) (aa:Value),q<=7->W.cell? ⟨q,off,none⟩=some aa->V.cell? ⟨q,off,none⟩=some aa:=λq off aa hq hv=>(kaN (w:=W) (B.block q (by omega) (by omega))).trans hv;exact⟨λc ao=>i _ _ _ (by decide) (Q.out.1 c ao),λag hi=>⟨i _ _ _ (by decide) (Q.out.2 ag hi).1,i _ _ _ (by decide) (Q.out.2 ag hi).2⟩⟩
  rcases qaT m.out.src with u|u|⟨c,u⟩
  ·have N:Hid (R=.error (9,(p:Int))):=by
    show _=_;rw[<-F.out,qcU,kaC (by have:p=s.bs.length:=u;omega)]
   have z:=qb0 _ b {s with pos:=p} m.out.src u
   go_wp2_with(first
    |(go_at_call 188;refine z.mono ?_;rintro e D ⟨hF,d⟩;obtain rfl:=hF))
   rw[N.out];exact⟨rfl,m.out.but.trans (But.of_below d),rfl⟩
  ·have N:Hid (R=.error (8,(p:Int))):=by
    show _=_;have h2:(p:Int)=s.lim:=u.2;have h3:p<s.bs.length:=u.1;rw[<-F.out,qcU,kab h3];simp only[];rw[kag h2]
   have z:=qbb _ b {s with pos:=p} m.out.src u
   go_wp2_with(first
    |(go_at_call 188;refine z.mono ?_;rintro e D ⟨hF,d⟩;obtain rfl:=hF))
   rw[N.out];exact⟨rfl,m.out.but.trans (But.of_below d),rfl⟩
  have ap:s.bs[p]?=some c:=u.1;have aq:¬(p:Int)=s.lim:=u.2;have ai:Hid (p<s.bs.length):=u.lt;have k:=F.out;rw[qcU,ap]at k;simp only[]at k;rw[kac aq]at k;have z:Calls prog 188 #[.pointer (some ⟨b,0,none⟩)] wr λe W'=>e=.returned (.int .u8 c.toNat)/\qad W' b {s with pos:=p+1}/\But b wr W':=qaw _ b {s with pos:=p} c m.out.src u;have A:=λV (B:qjK W b s (p+1) f j V)=>qgI V (W.heap.size+1) (W.heap.size+2) f j B.gat;have hC:(j=f.length/\c.toNat=34)\/(j=f.length/\c.toNat=92)\/(j=f.length/\c.toNat≠34/\c.toNat≠92)\/(j≠f.length/\c.toNat=34)\/(j≠f.length/\c.toNat=92)\/(j≠f.length/\c.toNat≠34/\c.toNat≠92):=by omega
  rcases hC with⟨y,H⟩|⟨y,I⟩|⟨y,H,I⟩|⟨y,H⟩|⟨y,I⟩|⟨y,H,I⟩
  ·rw[kax y]at A;rw[kag ⟨H,y⟩]at k;subst k;have U:((c.toNat:Int)==34)=true:=by simp;omega
   go_wp2_with(first
    |(go_at_call 188;refine z.mono ?_;rintro e D ⟨rfl,o,d⟩;have a:=qab (m.out.take C o d))
    |(go_at_call 199;refine(A _ a.out).mono ?_;rintro e E ⟨rfl,d⟩;have n:=qab (a.out.below d);obtain⟨v3,r3,o3⟩:=n.out.gat.row;obtain⟨_,_,a3,n3,c3,rfl⟩:=(show Own E _ _ _ from o3);have au:=qf3 o3;have k3:=qaa r3 0))
   refine qht ?_;go_ret;exact⟨n.out.but,rfl,n.out.src⟩
  ·rw[kax y]at A;rw[kac (λhh=>by omega),kag ⟨I,y⟩]at k;have U:=nec (c:=c) 34 (by omega);have ae:((c.toNat:Int)==92)=true:=by simp;omega
   have cE:=λV (B:qjK W b s (p+1) f j V)=>qh8 V b {s with pos:=p+1} B.src;rcases he:qlv s.bs s.lim (p+1)with⟨en,pl⟩|⟨r,q⟩
   ·rw[he]at k;have T:∀V,qjK W b s (p+1) f j V->Calls prog 201 #[.agg #[.pointer (some ⟨b,0,none⟩)]] V (qbV V b {s with pos:=p+1} (λx:Int=>.int .i32 x) (.error (en,pl))):=by rw[<-he];exact cE
    subst k
    go_wp2_with(first
     |(go_at_call 188;refine z.mono ?_;rintro e D ⟨rfl,o,d⟩;have a:=qab (m.out.take C o d);have t:=qaa a.out.box 0)
     |(go_at_call 199;refine(A _ a.out).mono ?_;rintro e E ⟨rfl,d⟩;have n:=qab (a.out.below d);have a:=n;have t:=qaa a.out.box 0)
     |(go_at_call 201;refine(T _ a.out).mono ?_;rintro e w5 ⟨d,hF⟩;obtain rfl:=hF))
    exact⟨rfl,a.out.but.trans d,rfl⟩
   rw[he]at k;simp only[]at k;have T:∀V,qjK W b s (p+1) f j V->Calls prog 201 #[.agg #[.pointer (some ⟨b,0,none⟩)]] V (qbV V b {s with pos:=p+1} (λx:Int=>.int .i32 x) (.ok (r,q))):=by rw[<-he];exact cE
   have v:=qls he;have av:=v.1.1;have aw:=v.1.2;have ab:=qab v.2;have O:=qab k;have cC:=λV (B:qjK W b s q f j V)=>qfW V (W.heap.size+1) (W.heap.size+2) f j r (by omega) (by omega) B.gat (by have:=M.out;have:=hp.out;omega);have aj:=qab ((qcv r).2)
   go_wp2_with(first
    |(go_at_call 188;refine z.mono ?_;rintro e D ⟨rfl,o,d⟩;have a:=qab (m.out.take C o d);have t:=qaa a.out.box 0)
    |(go_at_call 199;refine(A _ a.out).mono ?_;rintro e E ⟨rfl,d⟩;have n:=qab (a.out.below d);have a:=n;have t:=qaa a.out.box 0)
    |(go_at_call 201;refine(T _ a.out).mono ?_;rintro e w5 ⟨d,rfl,o⟩;have ac:=qab (a.out.take C o d))
    |(go_at_call 200;refine(cC _ ac.out).mono ?_;rintro e w6 ⟨rfl,an,am⟩;have ad:=qab (ac.out.keep P.out an am)))
   go_roundg g
   case measure=>omega
   case rel=>exact⟨q,f++qbP r,(f++qbP r).length,by show _<=_;have:=hg.out;have:=ab.out;omega,ad.out.src.le,by show _<=_;rw[kaa];have:=M.out;have:=ab.out;have:=aj.out;omega,by show _=_;rw[kcp];rfl,ad,O⟩
  all_goals
   first|rw[kax y]at A|rw[kaz y]at A
   first|have U:((c.toNat:Int)==34)=true:=(by simp;omega)|have U:=nec (c:=c) 34 (by omega)
   first|have ae:((c.toNat:Int)==92)=true:=(by simp;omega)|have ae:=nec (c:=c) 92 (by omega)
   rw[kac (λhh=>by omega),kac (λhh=>by omega)]at k;by_cases L:c.toNat<32
   ·rw[kag L]at k;subst k;have al:decide ((c.toNat:Int)<32)=true:=by simp;omega
    first
    |exact absurd L (by omega)
    |clear L
     try clear H
     try clear I
     go_wp2_with(first
      |(go_at_call 188;refine z.mono ?_;rintro e D ⟨rfl,o,d⟩;have a:=qab (m.out.take C o d);have t:=qaa a.out.box 0)
      |(go_at_call 199;refine(A _ a.out).mono ?_;rintro e E ⟨rfl,d⟩;have n:Hid (qjK W b s (p+1) f j E):=a.out.below d;have a:=n;have t:=qaa a.out.box 0)
      |(go_at_call 189;refine(qav _ b {s with pos:=p+1} _ a.out.src).mono ?_;rintro e w7 ⟨hF,rfl⟩;obtain rfl:=hF))
     exact⟨rfl,a.out.but,by show qan _ _ _;unfold qan qdB;simp⟩
   rw[kac L]at k;have al:decide ((c.toNat:Int)<32)=false:=by simp;omega
   try clear H
   try clear I
   obtain⟨wf,S⟩:∃wf,Hid ((if qb7 (f.drop j) c=2 then f.length+1 else j)=wf):=⟨_,show _=_ from rfl⟩
   have J:=λV (B:qjK W b s (p+1) f j V)=>qrV V (W.heap.size+1) (W.heap.size+2) f j c B.gat af.out (HU.out V B.but) (by omega) (by have:=M.out;have:=hp.out;omega);rw[S.out]at J;by_cases K:qb7 (f.drop j) c=0
   ·rw[kag K]at k;subst k;have Z:(qb7 (f.drop j) c != 0)=false:=by rw[K];rfl
    rw[Z]at J
    go_wp2_with(first
     |(go_at_call 188;refine z.mono ?_;rintro e D ⟨rfl,o,d⟩;have a:=qab (m.out.take C o d);have t:=qaa a.out.box 0)
     |(go_at_call 199;refine(A _ a.out).mono ?_;rintro e E ⟨rfl,d⟩;have n:=qab (a.out.below d);have a:=n;have t:=qaa a.out.box 0)
     |(go_at_call 202;refine(J _ a.out).mono ?_;rintro e w4 ⟨rfl,Y,X⟩;have G:=qab (a.out.keep P.out Y X);have t:=qaa G.out.box 0)
     |(go_at_call 189;refine(qav _ b {s with pos:=p+1} _ G.out.src).mono ?_;rintro e w7 ⟨hF,rfl⟩;obtain rfl:=hF))
    exact⟨rfl,G.out.but,by show qan _ _ _;unfold qan qdB;simp⟩
   rw[kac K,S.out]at k;have O:=qab k;have Z:(qb7 (f.drop j) c != 0)=true:=by simpa using K
   rw[Z]at J;have ah:=qab (qkh m.out.gat.le af.out K S.out)
   go_wp2_with(first
    |(go_at_call 188;refine z.mono ?_;rintro e D ⟨rfl,o,d⟩;have a:=qab (m.out.take C o d);have t:=qaa a.out.box 0)
    |(go_at_call 199;refine(A _ a.out).mono ?_;rintro e E ⟨rfl,d⟩;have n:=qab (a.out.below d);have a:=n;have t:=qaa a.out.box 0)
    |(go_at_call 202;refine(J _ a.out).mono ?_;rintro e w4 ⟨rfl,Y,X⟩;have G:=qab (a.out.keep P.out Y X);have t:=qaa G.out.box 0))
   go_roundg g
   case measure=>omega
   case rel=>exact⟨p+1,f++[c],wf,by show _<=_;have:=hg.out;omega,ai,by show _<=_;rw[kaa];have:=M.out;simp;omega,ah,G,O⟩

def qdm(bs:List UInt8)(lim:Int):Nat->Nat->List UInt8->Nat->Except (Int×Int) (List UInt8×Nat)
 |0,p,acc,wh=>if wh=acc.length then .ok (acc,p)else .error (9,(p:Int)-1)
 |k+1,p,acc,wh=>match bs[p]? with
  |none=>.error (9,p)
  |some c=>if(p:Int)=lim then .error (8,p)else if qb7 (acc.drop wh) c=0 then .error (9,p)else
   qdm bs lim k (p+1) (acc++[c]) (if qb7 (acc.drop wh) c=2 then acc.length+1 else wh)
structure qnU(W:World)(b:Nat)(fv:Value)(s:Src)(p:Nat)(acc:List UInt8)(wh:Nat)(V:World):Prop where
 src:qad V b {s with pos:=p}
 but:But b W V
 box:V.heap[W.heap.size]?=some (.cells #[.pointer (some ⟨b,0,none⟩),fv] 117)
 gat:qcz V (W.heap.size+1) (W.heap.size+2) acc wh
theorem qnU.take(h:qnU W b fv s p acc wh V)(d:b<W.heap.size)(c:qad V' b {s with pos:=q})(a:But b V V'):qnU W b fv s q acc wh V' :=
 ⟨c,h.but.trans a,(a.block _ (ltA h.box) (by omega)).trans h.box,h.gat.but a (by omega) (by omega)⟩
theorem qnU.below(h:qnU W b fv s p acc wh V)(a:Below V.heap.size V V'):qnU W b fv s p acc wh V' :=
 ⟨h.src.below a,h.but.trans (But.of_below a),(a.block _ (ltA h.box)).trans h.box,h.gat.below a⟩
theorem qnU.keep(h:qnU W b fv s p acc wh V)(d:qad W b s)(a:qdd (W.heap.size+1) (W.heap.size+2) V V')(e:qcz V' (W.heap.size+1) (W.heap.size+2) acc' wh'):qnU W b fv s p acc' wh' V' :=
 ⟨d.same rfl rfl h.src (λk c=>a.block k (by omega) (by omega)),⟨a.os.trans h.but.os,a.tape.trans h.but.tape,a.output.trans h.but.output,kaj h.but.size a.size,λk c f=>(a.block k (by omega) (by omega)).trans (h.but.block k c f)⟩,(a.block _ (by omega) (by omega)).trans h.box,e⟩
theorem qwG(a:Value)(h:qad W b s):qnU W b a s s.pos [] 0 ((W.alloc (.cells #[.pointer (some ⟨b,0,none⟩),a] 117)).alloc (.cells #[.slice none 0 0,.int .i64 0] 305)):=by
 have c:Below W.heap.size W ((W.alloc (.cells #[.pointer (some ⟨b,0,none⟩),a] 117)).alloc (.cells #[.slice none 0 0,.int .i64 0] 305)):=(bwA).alloc (by simp) _;have d:=qac (W.alloc (.cells #[.pointer (some ⟨b,0,none⟩),a] 117)) (.cells #[.slice none 0 0,.int .i64 0] 305);rw[kad]at d;refine⟨h.below c,But.of_below c,?_,⟨⟨_,d,?_⟩,by omega,kaf _⟩⟩
 ·have e:=qac W (.cells #[.pointer (some ⟨b,0,none⟩),a] 117);exact(kae _ _ _ (by simp)).trans e
 refine⟨kaV _ _ _ _,?_,none,0,0,rfl⟩;simp
theorem qeF(W:World)(b:Nat)(s:Src)(f n:Nat)(hn:n<18446744073709551616)(h:qad W b s)(ht:U8 W)(h7:7<b)(ak:s.bs.length<=200000000):Calls prog 223 #[.agg #[.pointer (some ⟨b,0,none⟩),.func (.func f) #[] #[]],.int .u64 n] W (qhy W b s (λl:List UInt8=>.string ⟨l.toArray⟩) (qdm s.bs s.lim n s.pos [] 0)):=by
 have U:Hid (qnU W b (.func (.func f) #[] #[]) s s.pos [] 0 ((W.alloc (.cells #[.pointer (some ⟨b,0,none⟩),.func (.func f) #[] #[]] 117)).alloc (.cells #[.slice none 0 0,.int .i64 0] 305))):=qwG _ h;have T:=qab h;have J:=qab ht;have Z:=ltA h.row;have ag:=h.le;obtain⟨R,t⟩:∃R,Hid (qdm s.bs s.lim n s.pos [] 0=R):=⟨_,show _=_ from rfl⟩
 rw[t.out];clear h ht;go_enter func223,ntmps223;go_wp2;generalize(W.alloc (.cells #[.pointer (some ⟨b,0,none⟩),.func (.func f) #[] #[]] 117)).alloc (.cells #[.slice none 0 0,.int .i64 0] 305)=W0 at *
 go_loopg[7] n (λg ah wr=>∃(k p:Nat) (d:List UInt8) (r:Nat),ah=.int .u64 k/\Hid (k+g=n)/\Hid (p<=s.bs.length)/\Hid (d.length<=p)/\Hid (qu8 (d.drop r)=true)/\Hid (qnU W b (.func (.func f) #[] #[]) s p d r wr)/\Hid (qdm s.bs s.lim g p d r=R))
 case atStart=>exact⟨0,s.pos,[],0,rfl,by show _=_;omega,ag,by show 0<=_;omega,rfl,U,t⟩
 case round =>
  clear U t;obtain⟨k,p,d,r,rfl,G,hp,Y,i,a,t⟩:=hrel;have H:=qaa a.out.box 0;have HU:Hid (∀V,But b W V->U8 V):=by
   show∀V,_;intro V F;have P:∀(q off:Nat) (v:Value),q<=7->W.cell? ⟨q,off,none⟩=some v->V.cell? ⟨q,off,none⟩=some v:=λq off v hq hv=>(kaN (w:=W) (F.block q (by omega) (by omega))).trans hv;exact⟨λc ad=>P _ _ _ (by decide) (J.out.1 c ad),λaa z=>⟨P _ _ _ (by decide) (J.out.2 aa z).1,P _ _ _ (by decide) (J.out.2 aa z).2⟩⟩
  cases gk with
  |zero =>
   have hk:k=n:=by have:=G.out;omega
   subst hk;have o:=t.out;rw[qdm]at o;have A:=qgI wr (W.heap.size+1) (W.heap.size+2) d r a.out.gat;clear t G;by_cases B:r=d.length
   ·rw[kag B]at o;subst o;rw[kax B]at A;clear B
    go_wp2_with(first
     |(go_at_call 199;refine A.mono ?_;clear A H;rintro e w3 ⟨rfl,j⟩;have u:=qab (a.out.below j);clear a j;obtain⟨v3,r3,o3⟩:=u.out.gat.row;obtain⟨_,_,a3,n3,c3,rfl⟩:=(show Own w3 _ _ _ from o3);have ai:=qf3 o3;have k3:=qaa r3 0))
    go_ret;exact⟨u.out.but,rfl,u.out.src⟩
   rw[kac B]at o;subst o;rw[kaz B]at A;clear B
   go_wp2_with(first
    |(go_at_call 199;refine A.mono ?_;clear A H;rintro e w3 ⟨rfl,j⟩;have u:=qab (a.out.below j);clear a j;have H:=qaa u.out.box 0)
    |(go_at_call 189;refine(qav _ b {s with pos:=p} _ u.out.src).mono ?_;rintro e w7 ⟨hF,rfl⟩;obtain rfl:=hF))
   exact⟨rfl,u.out.but,rfl,_,u.out.src⟩
  |succ g =>
   have aj:k<n:=by have:=G.out;omega
   have e1:decide ((k:Int)<(n:Int))=true:=by simp;omega
   have e2:decide (k<n)=true:=by simp;omega
   rcases qaT a.out.src with m|m|⟨c,m⟩
   ·have I:Hid (R=.error (9,(p:Int))):=by
     show _=_;rw[<-t.out,qdm,kaC (by have:p=s.bs.length:=m;omega)]
    have x:=qb0 _ b {s with pos:=p} a.out.src m;clear t m
    go_wp2_with(first
     |(go_at_call 188;refine x.mono ?_;clear x;rintro e Q ⟨hF,j⟩;obtain rfl:=hF))
    rw[I.out];exact⟨rfl,a.out.but.trans (But.of_below j),rfl,_,a.out.src.below j⟩
   ·have I:Hid (R=.error (8,(p:Int))):=by
     show _=_;have h2:(p:Int)=s.lim:=m.2;have h3:p<s.bs.length:=m.1;rw[<-t.out,qdm,kab h3];simp only[];rw[kag h2]
    have x:=qbb _ b {s with pos:=p} a.out.src m;clear t m
    go_wp2_with(first
     |(go_at_call 188;refine x.mono ?_;rintro e Q ⟨hF,j⟩;obtain rfl:=hF))
    rw[I.out];exact⟨rfl,a.out.but.trans (But.of_below j),rfl,_,a.out.src.below j⟩
   have ae:s.bs[p]?=some c:=m.1;have af:¬(p:Int)=s.lim:=m.2;have ac:Hid (p<s.bs.length):=m.lt;have o:=t.out;rw[qdm,ae]at o;simp only[]at o;rw[kac af]at o;have x:Calls prog 188 #[.pointer (some ⟨b,0,none⟩)] wr λe X=>e=.returned (.int .u8 c.toNat)/\qad X b {s with pos:=p+1}/\But b wr X:=qaw _ b {s with pos:=p} c a.out.src m;obtain⟨S,K⟩:∃S,Hid ((if qb7 (d.drop r) c=2 then d.length+1 else r)=S):=⟨_,show _=_ from rfl⟩
   have D:=λV (F:qnU W b (.func (.func f) #[] #[]) s (p+1) d r V)=>qrV V (W.heap.size+1) (W.heap.size+2) d r c F.gat i.out (HU.out V F.but) (by omega) (by have:=Y.out;have:=hp.out;omega);rw[K.out]at D;by_cases E:qb7 (d.drop r) c=0
   ·rw[kag E]at o;subst o;have O:(qb7 (d.drop r) c != 0)=false:=by rw[E];rfl
    rw[O]at D
    go_wp2_with(first
     |(go_at_call 188;refine x.mono ?_;rintro e Q ⟨rfl,N,j⟩;have C:=qab (a.out.take Z N j))
     |(go_at_call 202;refine(D _ C.out).mono ?_;rintro e w4 ⟨rfl,M,L⟩;have y:=qab (C.out.keep T.out M L);have H:=qaa y.out.box 0)
     |(go_at_call 189;refine(qav _ b {s with pos:=p+1} _ y.out.src).mono ?_;rintro e w7 ⟨hF,rfl⟩;obtain rfl:=hF))
    exact⟨rfl,y.out.but,by show qan _ _ _;unfold qan qdB;simp,_,y.out.src⟩
   rw[kac E,K.out]at o;have HN:=qab o;have O:(qb7 (d.drop r) c != 0)=true:=by simpa using E
   rw[O]at D;have ab:=qab (qkh a.out.gat.le i.out E K.out)
   go_wp2_with(first
    |(go_at_call 188;refine x.mono ?_;rintro e Q ⟨rfl,N,j⟩;have C:=qab (a.out.take Z N j))
    |(go_at_call 202;refine(D _ C.out).mono ?_;rintro e w4 ⟨rfl,M,L⟩;have y:=qab (C.out.keep T.out M L)))
   go_roundg g
   case measure=>omega
   case rel=>exact⟨k+1,p+1,d++[c],S,by go_num,by show _=_;have:=G.out;omega,ac,by show _<=_;rw[kaa];have:=Y.out;simp;omega,ab,y,HN⟩

end
end Go.Proofs.YtmajcjammmjimaaGreatDoor
