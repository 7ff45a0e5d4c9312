import Derived.Lib.RuneBytes
import Derived.Laws.IdiomStrings
import Derived.Test.YtcokgepdckkjdaaGreatDoorRq05
import Derived.Test.YtcokgepdckkjdaaGreatDoorRq04
import Derived.Test.YtcokgepdckkjdaaGreatDoorRq09
set_option maxRecDepth 100000
set_option maxHeartbeats 8000000
namespace Go.Proofs.YtcokgepdckkjdaaGreatDoor
open Go.Proofs.Tryz
variable {b b0 base c cap cap5 g j k n off p q wh:Nat}{V V' W W' w w5:World}{a:Option Addr}{u v:Value}{acc bs:List UInt8}{lim r:Int}{s:Src}
section
open Go.RowKit Go.Lib
def szU (b:UInt8):Nat:=firstT b.toNat%8
def loU (b:UInt8):Nat:=accLo (firstT b.toNat / 16)
def hiU (b:UInt8):Nat:=accHi (firstT b.toNat / 16)
def qst:List UInt8->Bool
 |[]=>true
 |[b0]=>decide (2<=szU b0)
 |[b0,b1]=>decide (3<=szU b0/\loU b0<=b1.toNat/\b1.toNat<=hiU b0)
 |[b0,b1,b2]=>decide (4<=szU b0/\(loU b0<=b1.toNat/\b1.toNat<=hiU b0)/\128<=b2.toNat/\b2.toNat<=191)
 |_=>false
def qc1 (l:List UInt8)(b:UInt8):Nat:=match l with
 |[]=>if szU b=0 then 2 else if szU b=1 then 0 else 1
 |[b0]=>if b.toNat<loU b0\/hiU b0<b.toNat then 0 else if szU b0=2 then 2 else 1
 |[b0,_]=>if b.toNat<128\/191<b.toNat then 0 else if szU b0=3 then 2 else 1
 |_=>if b.toNat<128\/191<b.toNat then 0 else 2
theorem qjB (b:UInt8):(szU b=0/\firstT b.toNat=240/\b.toNat<128)\/(szU b=1/\firstT b.toNat=241/\128<=b.toNat)\/(2<=szU b/\szU b<=4/\firstT b.toNat<240/\128<=b.toNat):=by
 unfold szU;have f:=firstT_cases b.toNat;have c:b.toNat<128->firstT b.toNat=240:=fun h=>by unfold firstT;rw[if_pos h]
 have d:128<=b.toNat->firstT b.toNat≠240:=fun h=>by
  unfold firstT;rw[if_neg (by omega)]
  repeat' split
  all_goals decide
 by_cases a:b.toNat<128
 ·left;have:=c a;exact⟨by rw[this],this,a⟩
 have e:=d (by omega);rcases f with h|h|h|h|h|h|h|h|h
 ·exact absurd h e
 ·right;left;exact⟨by rw[h],h,by omega⟩
 all_goals (right;right;rw[h];exact⟨by decide,by decide,by decide,by omega⟩)
theorem qhF {b:UInt8}(h:2<=szU b):szU b<=4/\firstT b.toNat<240/\128<=b.toNat:=by
 rcases qjB b with a|a|a
 ·omega
 ·omega
 exact a.2
theorem qrU (b:UInt8):qgl b.toNat (firstT b.toNat) (szU b) (firstT b.toNat / 16) (loU b) (hiU b):=qtH _ _ rfl (by
 rcases firstT_cases b.toNat with h|h|h|h|h|h|h|h|h<;>rw[h]<;>decide)
def qbq (V:World)(g off n cap:Nat)(r:Bool):Prop:=Calls prog 247 #[.slice (some ⟨g,off,none⟩) n cap] V fun e W'=>e=.returned (.bool r)/\Below V.heap.size V W'
def qdp (V:World)(g off n cap:Nat)(bad:Bool):Prop:=Calls prog 248 #[.slice (some ⟨g,off,none⟩) n cap] V fun e W'=>∃ch sz,e=.returned (.tuple #[.int .i32 ch,.int .i64 sz])/\(ch==65533&&sz==1)=bad/\Below V.heap.size V W'
theorem qdc (h:Calls prog 247 #[.slice (some ⟨g,off,none⟩) n cap] V fun e a=>e=.returned (.bool true)/\a=V):qbq V g off n cap true :=
 h.mono fun _ _ ⟨b,c⟩=>⟨b,c▸Below.refl _ _⟩
theorem qcc (f:128<=b0)(j:1<=n)(c:V.cell? ⟨g,off,none⟩=some (.int .u8 b0))(h:Calls prog 255 #[.slice (some ⟨g,off,none⟩) n cap] V fun e a=>e=.returned (.tuple #[.int .i32 65533,.int .i64 1])/\Below V.heap.size V a):qdp V g off n cap true :=
 qde V g off cap n b0 f j c (fun b k a=>(b==65533&&k==1)=true/\Below V.heap.size V a) (h.mono fun _ _ ⟨i,d⟩=>⟨65533,1,i,by decide,d⟩)
theorem qtv (b:2<=k)(a:Int):(a==65533&&(k:Int)==1)=false:=by
 have:((k:Int)==1)=false:=by simp;omega
 rw[this,Bool.and_false]
theorem qoi (f:2<=k)(d:128<=b0)(i:1<=n)(c:V.cell? ⟨g,off,none⟩=some (.int .u8 b0))(h:Calls prog 255 #[.slice (some ⟨g,off,none⟩) n cap] V fun e b=>(∃a,e=.returned (.tuple #[.int .i32 a,.int .i64 k]))/\Below V.heap.size V b):qdp V g off n cap false :=
 qde V g off cap n b0 d i c (fun a j b=>(a==65533&&j==1)=false/\Below V.heap.size V b) (h.mono fun _ _ ⟨⟨a,he⟩,hB⟩=>⟨a,k,he,qtv f a,hB⟩)
theorem qrd (g off c:Nat)(l:List UInt8)(b:UInt8)(t:qst l=true)(V:World)(q:∀i (hi:i<(l++[b]).length),V.cell? ⟨g,off+i,none⟩=some (.int .u8 ((l++[b])[i]'hi).toNat))(h:U8 V):(qc1 l b=1->qbq V g off (l.length+1) c false)/\(qc1 l b=0->qbq V g off (l.length+1) c true/\qdp V g off (l.length+1) c true)/\(qc1 l b=2->qbq V g off (l.length+1) c true/\qdp V g off (l.length+1) c false):=by
 match l,t with
 |[],_ =>
  have a:V.cell? ⟨g,off,none⟩=some (.int .u8 b.toNat):=q 0 (by simp);have f:=qrU b;have d:=b.toNat_lt;unfold qc1;rcases qjB b with ⟨v,u,k⟩|⟨v,u,k⟩|⟨v,u,k,n⟩
  ·rw[if_pos v];refine⟨by simp,by simp,fun _=>⟨qdc (qbK V g off 1 c _ _ _ _ _ _ f d (by decide) (by omega) (by decide) a h),?_⟩⟩;refine(qff V g off c 1 b.toNat k (by decide) a).mono fun _ _ ⟨z,D⟩=>⟨b.toNat,1,z,?_,D▸Below.refl _ _⟩
   have:((b.toNat:Int)==65533)=false:=by simp;omega
   rw[this,Bool.false_and]
  ·rw[if_neg (by omega),if_pos v];refine⟨by simp,fun _=>⟨qdc (qbK V g off 1 c _ _ _ _ _ _ f d (by decide) (by omega) (by decide) a h),?_⟩,by simp⟩;exact qcc k (Nat.le_add_left _ _) a ((qoB V g off c 1 _ u d (by decide) a h).mono fun _ _ ⟨z,D⟩=>⟨z,D▸Below.refl _ _⟩)
  rw[if_neg (by omega),if_neg (by omega)];exact⟨fun _=>qiR V g off c _ _ _ _ _ _ f d (by omega) a h,by simp,by simp⟩
 |[b0],t =>
  have a:V.cell? ⟨g,off,none⟩=some (.int .u8 b0.toNat):=q 0 (by simp);have m:V.cell? ⟨g,off+1,none⟩=some (.int .u8 b.toNat):=q 1 (by simp);have f:=qrU b0;have d:=b0.toNat_lt;have C:=of_decide_eq_true t;obtain⟨u,k,n⟩:=qhF C;have y:szU b0=2->qbq V g off 2 c true:=fun e=>qdc (qbK V g off 2 c _ _ _ _ _ _ f d (by decide) (by omega) (by decide) a h);unfold qc1;simp only[];by_cases q1:b.toNat<loU b0
  ·rw[if_pos (.inl q1)];refine⟨by simp,fun _ => ?_,by simp⟩;by_cases j:szU b0=2
   ·exact⟨y j,qcc n (Nat.le_add_left _ _) a (qq4 V g off c _ _ _ _ _ _ _ f d k a m h j q1)⟩
   exact⟨qk7 V g off c _ _ _ _ _ _ _ f d (by omega) a m h q1,qcc n (Nat.le_add_left _ _) a (qd0 V g off c 2 _ _ _ _ _ _ f d k a h (by decide) (by omega))⟩
  by_cases o:hiU b0<b.toNat
  ·rw[if_pos (.inr o)];refine⟨by simp,fun _ => ?_,by simp⟩;by_cases j:szU b0=2
   ·exact⟨y j,qcc n (Nat.le_add_left _ _) a (qrJ V g off c _ _ _ _ _ _ _ f d k a m h j q1 o)⟩
   exact⟨qk8 V g off c _ _ _ _ _ _ _ f d (by omega) a m h q1 o,qcc n (Nat.le_add_left _ _) a (qd0 V g off c 2 _ _ _ _ _ _ f d k a h (by decide) (by omega))⟩
  rw[if_neg (by omega)];by_cases j:szU b0=2
  ·rw[if_pos j];exact⟨by simp,by simp,fun _=>⟨y j,qoi (by decide) n (Nat.le_add_left _ _) a (qrw V g off c _ _ _ _ _ _ _ f d k a m h j q1 o)⟩⟩
  rw[if_neg j];exact⟨fun _=>qjT V g off c _ _ _ _ _ _ _ f d (by omega) a m h q1 o,by simp,by simp⟩
 |[b0,b1],t =>
  have a:V.cell? ⟨g,off,none⟩=some (.int .u8 b0.toNat):=q 0 (by simp);have m:V.cell? ⟨g,off+1,none⟩=some (.int .u8 b1.toNat):=q 1 (by simp);have p:V.cell? ⟨g,off+2,none⟩=some (.int .u8 b.toNat):=q 2 (by simp);have f:=qrU b0;have d:=b0.toNat_lt;obtain⟨C,E,F⟩:=of_decide_eq_true t;obtain⟨u,k,n⟩:=qhF (b:=b0) (by omega);have r:¬b1.toNat<loU b0:=by omega
  have s:¬hiU b0<b1.toNat:=by omega
  have y:szU b0=3->qbq V g off 3 c true:=fun e=>qdc (qbK V g off 3 c _ _ _ _ _ _ f d (by decide) (by omega) (by decide) a h);unfold qc1;simp only[];by_cases q1:b.toNat<128
  ·rw[if_pos (.inl q1)];refine⟨by simp,fun _ => ?_,by simp⟩;by_cases j:szU b0=3
   ·exact⟨y j,qcc n (Nat.le_add_left _ _) a (qqM V g off c _ _ _ _ _ _ _ _ f d k a m p h j r s q1)⟩
   exact⟨qjj V g off c _ _ _ _ _ _ _ _ f d (by omega) a m p h r s q1,qcc n (Nat.le_add_left _ _) a (qd0 V g off c 3 _ _ _ _ _ _ f d k a h (by decide) (by omega))⟩
  by_cases o:191<b.toNat
  ·rw[if_pos (.inr o)];refine⟨by simp,fun _ => ?_,by simp⟩;by_cases j:szU b0=3
   ·exact⟨y j,qcc n (Nat.le_add_left _ _) a (qq9 V g off c _ _ _ _ _ _ _ _ f d k a m p h j r s o)⟩
   exact⟨qj5 V g off c _ _ _ _ _ _ _ _ f d (by omega) a m p h r s q1 o,qcc n (Nat.le_add_left _ _) a (qd0 V g off c 3 _ _ _ _ _ _ f d k a h (by decide) (by omega))⟩
  rw[if_neg (by omega)];by_cases j:szU b0=3
  ·rw[if_pos j];exact⟨by simp,by simp,fun _=>⟨y j,qoi (by decide) n (Nat.le_add_left _ _) a (qq1 V g off c _ _ _ _ _ _ _ _ f d k a m p h j r s (by omega) (by omega))⟩⟩
  rw[if_neg j];exact⟨fun _=>qj8 V g off c _ _ _ _ _ _ _ _ f d (by omega) a m p h r s q1 o,by simp,by simp⟩
 |[b0,b1,b2],t =>
  have a:V.cell? ⟨g,off,none⟩=some (.int .u8 b0.toNat):=q 0 (by simp);have m:V.cell? ⟨g,off+1,none⟩=some (.int .u8 b1.toNat):=q 1 (by simp);have p:V.cell? ⟨g,off+2,none⟩=some (.int .u8 b2.toNat):=q 2 (by simp);have x:V.cell? ⟨g,off+3,none⟩=some (.int .u8 b.toNat):=q 3 (by simp);have f:=qrU b0;have d:=b0.toNat_lt;obtain⟨C,⟨E,F⟩,A,B⟩:=of_decide_eq_true t;obtain⟨u,k,n⟩:=qhF (b:=b0) (by omega);have w:szU b0=4:=by omega
  have r:¬b1.toNat<loU b0:=by omega
  have s:¬hiU b0<b1.toNat:=by omega
  have y:=qdc (qbK V g off 4 c _ _ _ _ _ _ f d (by decide) (by omega) (by decide) a h);unfold qc1;simp only[];by_cases q1:b.toNat<128
  ·rw[if_pos (.inl q1)];exact⟨by simp,fun _=>⟨y,qcc n (Nat.le_add_left _ _) a (qqE V g off c _ _ _ _ _ _ _ _ _ f d k a m p x h w r s A B q1)⟩,by simp⟩
  by_cases o:191<b.toNat
  ·rw[if_pos (.inr o)];exact⟨by simp,fun _=>⟨y,qcc n (Nat.le_add_left _ _) a (qrn V g off c _ _ _ _ _ _ _ _ _ f d k a m p x h w r s A B o)⟩,by simp⟩
  rw[if_neg (by omega)];exact⟨by simp,by simp,fun _=>⟨y,qoi (by decide) n (Nat.le_add_left _ _) a (qqR V g off c _ _ _ _ _ _ _ _ _ f d k a m p x h w r s A B (by omega) (by omega))⟩⟩

structure qck (W:World)(p base:Nat)(bs:List UInt8)(wh:Nat):Prop where
 row:∃v,W.heap[p]? = some (.cells #[v,.int .i64 wh] 340)/\Own W base v bs
 lt:p<base
 le:wh<=bs.length
structure qcH (p base:Nat)(W W':World):Prop where
 os:W'.os=W.os
 tape:W'.tape=W.tape
 output:W'.output=W.output
 size:W.heap.size<=W'.heap.size
 block:∀k,k<base->k≠p->W'.heap[k]? = W.heap[k]?
theorem qcH.refl (p a:Nat)(W:World):qcH p a W W:=⟨rfl,rfl,rfl,Nat.le_refl _,fun _ _ _=>rfl⟩
theorem qcH.trans {a b c:World}(h:qcH p base a b)(d:qcH p base b c):qcH p base a c :=
 ⟨d.os.trans h.os,d.tape.trans h.tape,d.output.trans h.output,Nat.le_trans h.size d.size,fun k e f=>(d.block k e f).trans (h.block k e f)⟩
theorem qcH.of_below (h:Below W.heap.size W W')(a:base<=W.heap.size):qcH p base W W' :=
 ⟨h.os,h.tape,h.output,h.size,fun k b _=>h.block k (by omega)⟩
theorem qdr {a b:Value}{t:TypeId}(c:w.heap[g]? = some (.cells #[a,b] t)):(w.setCell ⟨g,0,none⟩ v).heap[g]? = some (.cells #[v,b] t)/\(w.setCell ⟨g,1,none⟩ v).heap[g]? = some (.cells #[a,v] t):=by
 constructor
 ·rw[setCell_eq_setRow w g 0 _ _ _ v c,setRow_heap _ _ _ _ _ _ c];rfl
 rw[setCell_eq_setRow w g 1 _ _ _ v c,setRow_heap _ _ _ _ _ _ c];rfl
theorem qeZ:qcH p base w (w.setCell ⟨p,j,none⟩ v) :=
 ⟨rfl,rfl,rfl,by simp[World.setCell],fun k _ a=>heap_setCell_other _ _ _ _ (by simpa using a)⟩
theorem qdS (h:Own w base v bs)(n:p<base):Own (w.setCell ⟨p,j,none⟩ u) base v bs:=by
 obtain⟨⟨d,a⟩,f,i⟩:=h;refine⟨⟨d,?_⟩,by simpa [World.setCell] using f,i⟩;rcases a with a|⟨g,b,c,e,l,m,k⟩
 ·exact .inl a
 exact .inr ⟨g,b,c,e,l,(heap_setCell_other _ _ _ _ (by simp;omega)).trans m,k⟩
theorem qck.same (h:qck W p base bs wh)(d:∀k,k<W.heap.size->k=p\/base<=k->W'.heap[k]? = W.heap[k]?)(q:W.heap.size<=W'.heap.size):qck W' p base bs wh:=by
 obtain⟨v,f,⟨l,a⟩,o,m⟩:=h.row;refine⟨⟨v,(d p (ltA f) (.inl rfl)).trans f,⟨l,?_⟩,by omega,m⟩,h.lt,h.le⟩;rcases a with a|⟨g,i,j,e,b,c,n⟩
 ·exact .inl a
 exact .inr ⟨g,i,j,e,b,(d g (ltA c) (.inr b)).trans c,n⟩
theorem qck.below (h:qck W p base bs wh)(a:Below W.heap.size W W'):qck W' p base bs wh:=h.same (fun k b _=>a.block k b) a.size
theorem qck.but (h:qck W p base bs wh)(c:But b W W')(e:b<base)(f:b≠p):qck W' p base bs wh:=h.same (fun k d a=>c.block k d (by rcases a with a|a<;>omega)) c.size
theorem qgq (W:World)(p k:Nat)(bs:List UInt8)(b:Nat)(h:qck W p k bs b):Calls prog 237 #[.pointer (some ⟨p,0,none⟩)] W fun e j=>e=.returned (.bool (decide (b=bs.length)))/\Below W.heap.size W j:=by
 obtain⟨v,f,⟨r,d⟩,_,a,n,c,rfl⟩:=h.row;have m:n=bs.length:=by
  rcases d with ⟨d,l⟩|⟨g,o,q,e,_⟩
  ·cases d;exact l.symm
  cases e;rfl
 subst m;have s:=qab f 0;have t:=qab f 1;have i:Hid (((b:Int)==(bs.length:Int))=decide (b=bs.length)):=by
  show _=_;by_cases e:b=bs.length
  ·simp[e]
  simp[e];omega
 go_enter func237,ntmps237;go_wp2
 go_quiet (fail)
 go_wp2;go_ret;refine⟨?_,qam W nq⟩;show Ending.returned (.bool _)=_;rw[i.out]
theorem qcB (h:Own W base (.slice (some ⟨g,0,none⟩) n cap) bs):(n=bs.length/\bs.length<=cap/\cap<=maxLen/\base<=g)/\∀j (a:j<bs.length),W.cell? ⟨g,j,none⟩=some (.int .u8 ((bs[j]'a).toNat:Int)):=by
 obtain⟨⟨r,b⟩,_,_⟩:=h;rcases b with ⟨b,_⟩|⟨q,o,p,e,k,m,d,f,s,i⟩
 ·cases b
 cases e;refine⟨⟨rfl,d,f,k⟩,fun j a => ?_⟩;rw[qab m j,<-Array.getElem?_toList];have c:=congrArg (fun l=>l[j]?) i;simp only[Nat.mul_one] at c;rw[List.getElem?_take_of_lt a,List.getElem?_map,List.getElem?_eq_getElem a] at c;exact c
theorem U8.keep (h:U8 W)(e:qcH p base W V)(j:7<p)(l:p<base):U8 V:=by
 have a:∀(g off:Nat) (v:Value),g<=7->W.cell? ⟨g,off,none⟩=some v->V.cell? ⟨g,off,none⟩=some v:=fun g off v k f=>(World.cell?_of_block (w:=W) (e.block g (by omega) (by omega))).trans f;exact⟨fun c d=>a _ _ _ (by decide) (h.1 c d),fun i b=>⟨a _ _ _ (by decide) (h.2 i b).1,a _ _ _ (by decide) (h.2 i b).2⟩⟩
theorem qj9 (h:qck W p base bs wh):qck (W.setCell ⟨p,1,none⟩ (.int .i64 bs.length)) p base bs bs.length:=by
 obtain⟨v,b,a⟩:=h.row;exact⟨⟨v,(qdr b).2,qdS a h.lt⟩,h.lt,Nat.le_refl _⟩
structure qxt (W:World)(p base g cap:Nat)(bs:List UInt8)(wh:Nat)(V:World):Prop where
 keep:qcH p base W V
 gat:qck V p base bs wh
 row:V.heap[p]? = some (.cells #[.slice (some ⟨g,0,none⟩) bs.length cap,.int .i64 wh] 340)
 cells:∀j (hj:j<bs.length),V.cell? ⟨g,j,none⟩=some (.int .u8 ((bs[j]'hj).toNat:Int))
 cap:bs.length<=cap/\cap<=maxLen
theorem qx4 {b:UInt8}(q:base<=W.heap.size)(e:p<base)(B:wh<=bs.length)(o:W.ownsRow base 5 1 (.slice a n c) bs.length (bs.map qav))(y:qav b=u)(x:w5.ownsRow base 5 1 (.slice (some ⟨g,0,none⟩) (bs.length+1) cap5) (bs.length+1) (bs.map qav++[u]))(r:(W.alloc (.cells #[u] 5)).grownBy w5 (Value.slice a n c).ownBlock)(l:w5.heap[p]? = some (.cells #[.slice a n c,.int .i64 wh] 340)):qxt W p base g cap5 (bs++[b]) wh (w5.setCell ⟨p,0,none⟩ (.slice (some ⟨g,0,none⟩) (bs.length+1) cap5)):=by
 have d:=qaz ((Below.refl base W).alloc q _) (o.alloc _) r (by simp;omega);have f:Own w5 base (.slice (some ⟨g,0,none⟩) (bs.length+1) cap5) (bs++[b]):=⟨qbG x y,by have:=d.size;omega,_,_,_,rfl⟩
 obtain⟨⟨z,c2,m,A⟩,cs⟩:=qcB f;have h:=qdS (p:=p) (j:=0) (u:=.slice (some ⟨g,0,none⟩) (bs.length+1) cap5) f e;have t:(bs++[b]).length=bs.length+1:=by simp
 have i:=(qdr (v:=.slice (some ⟨g,0,none⟩) (bs.length+1) cap5) l).1;refine⟨⟨d.os,d.tape,d.output,by simpa [World.setCell] using d.size,fun k s w=>(heap_setCell_other _ _ _ _ (by simpa using w)).trans (d.block k s)⟩,⟨⟨_,i,h⟩,e,by omega⟩,by rw[t];exact i,(qcB h).2,⟨c2,m⟩⟩
theorem qp8 (W:World)(p t:Nat)(bs:List UInt8)(d:Nat)(b:UInt8)(h:qck W p t bs d)(hp:qst (bs.drop d)=true)(ht:U8 W)(h7:7<p)(hl:bs.length<=999999999):Calls prog 240 #[.pointer (some ⟨p,0,none⟩),.int .u8 b.toNat] W fun e Y=>e=.returned (.bool (qc1 (bs.drop d) b != 0))/\qcH p t W Y/\qck Y p t (bs++[b]) (if qc1 (bs.drop d) b=2 then bs.length+1 else d):=by
 obtain⟨D,G⟩:∃D,Hid ((qc1 (bs.drop d) b != 0)=D):=⟨_,show _=_ from rfl⟩
 obtain⟨E,H⟩:∃E,Hid ((if qc1 (bs.drop d) b=2 then bs.length+1 else d)=E):=⟨_,show _=_ from rfl⟩
 rw[G.out,H.out];obtain⟨i0,J,ai,aj,ak⟩:=info_parts Tryz.infoU8;obtain⟨aw,hr,ho,a,am,al,an,rfl⟩:=h.row;have ac:=h.lt;have aa:=h.le;have hn:al=bs.length:=by
  rcases ho.2 with ⟨w,h3⟩|⟨aq,ao,ap,e,_⟩
  ·cases w;exact h3.symm
  cases e;rfl
 subst hn;have M:=qaa ho;have N:=qaa hr;have HT:=qaa ht;have C:=qab hr 0;go_enter func240,ntmps240
 go_wp2_with (first
  |(at_builtin;refine wpList_append_own _ rfl _ _ 66 rfl t 5 i0 (.int .u8 0) 1 1 underlying66 J ai aj ak rfl (by decide) _ _ _ rfl (M.out.alloc _) ⟨W.heap.size,0,none⟩ 1 1 [.int .u8 b.toNat] rfl rfl (qag _ _ _) (fun av hu=>by simp at hu;subst hu;rfl) (by unfold maxLen;omega) (by omega) (by simp;omega) ?_;intro v' w5 ad v au;obtain⟨m,o,rfl⟩:=ownsRow_succ ad;have O:=qaa ((v.block p (by have:=ltA N.out;simp;omega) (fun e=>by have:=qbA M.out e.symm;omega)).trans ((Below.heap_alloc _ _ _ (ltA N.out)).trans N.out));have C:=qab O.out 0;have f0:=frozen_of_row w5 p 0 _ _ O.out))
 have f:=qaa (qx4 a ac aa M.out rfl ad v O.out);generalize w5.setCell ⟨p,0,none⟩ (.slice (some ⟨m,0,none⟩) (bs.length+1) o)=V at *;have C:=qab f.out.row 0;have k1:=qab f.out.row 1;have f1:=frozen_of_row V p 1 _ _ f.out.row;have ab:(bs++[b]).length=bs.length+1:=by simp
 rw[ab] at C k1;have U:=f.out.cap;rw[ab] at U;have ar:=U.1;have af:=U.2;unfold maxLen at af;have ah:(bs.drop d).length+1=bs.length+1-d:=by rw[List.length_drop];omega
 have z:Hid (∀X,Below V.heap.size V X->(qc1 (bs.drop d) b=1->qbq X m d (bs.length+1-d) (o-d) false)/\(qc1 (bs.drop d) b=0->qbq X m d (bs.length+1-d) (o-d) true/\qdp X m d (bs.length+1-d) (o-d) true)/\(qc1 (bs.drop d) b=2->qbq X m d (bs.length+1-d) (o-d) true/\qdp X m d (bs.length+1-d) (o-d) false)):=by
  show ∀X,_;intro X x;have u:(bs++[b]).drop d=bs.drop d++[b]:=List.drop_append_of_le_length aa;have:=qrd m d (o-d) (bs.drop d) b hp X (fun i J=>by
   have n:d+i<(bs++[b]).length:=by
    rw[<-u,List.length_drop] at J;omega
   have c:=f.out.cells (d+i) n;have e:(bs.drop d++[b])[i]'J=(bs++[b])[d+i]'n:=by
    simp only[<-u,List.getElem_drop]
   rw[e];exact(x.cell (p:=⟨m,d+i,none⟩) (block_lt_of_cell c)).trans c) ((HT.out.keep f.out.keep h7 ac).below x)
  rw[ah] at this;exact this
 have ag:qc1 (bs.drop d) b=0\/qc1 (bs.drop d) b=1\/qc1 (bs.drop d) b=2:=by
  unfold qc1
  repeat' split
  all_goals simp
 have L:=qaa (Nat.le_trans a f.out.keep.size)
 go_quiet (fail)
 have k:=qaa (qam V nq);rcases ag with I|R|w
 ·have r:Hid (D=false):=by show _=_;rw[<-G.out,I];rfl
  have s:Hid (E=d):=by show _=_;rw[<-H.out,I];rfl
  have l:=((z.out _ k.out).2.1 I).1;have A:=fun X x=>((z.out X x).2.1 I).2;unfold qbq at l;unfold qdp at A
  go_wp2_with (first
   |(go_at_call 247;refine l.mono ?_;rintro e K ⟨rfl,B⟩;have j:=qaa (k.out.trans (B.mono k.out.size));have Q:=A K j.out)
   |(go_at_call 248;refine Q.mono ?_;rintro e w8 ⟨Z,sz,rfl,y,T⟩;have q:=qaa (j.out.trans (T.mono j.out.size));rw[Bool.and_eq_true] at y;obtain⟨g,ae⟩:=y))
  go_ret;rw[r.out,s.out];exact⟨rfl,f.out.keep.trans (qcH.of_below q.out L.out),f.out.gat.below q.out⟩
 ·have r:Hid (D=true):=by show _=_;rw[<-G.out,R];rfl
  have s:Hid (E=d):=by show _=_;rw[<-H.out,R];rfl
  have l:=(z.out _ k.out).1 R;unfold qbq at l
  go_wp2_with (first
   |(go_at_call 247;refine l.mono ?_;rintro e K ⟨rfl,B⟩;have j:=qaa (k.out.trans (B.mono k.out.size))))
  go_ret;rw[r.out,s.out];exact⟨rfl,f.out.keep.trans (qcH.of_below j.out L.out),f.out.gat.below j.out⟩
 have r:Hid (D=true):=by show _=_;rw[<-G.out,w];rfl
 have s:Hid (E=bs.length+1):=by show _=_;rw[<-H.out,w];rfl
 have l:=((z.out _ k.out).2.2 w).1;have A:=fun X x=>((z.out X x).2.2 w).2;unfold qbq at l;unfold qdp at A
 go_wp2_with (first
  |(go_at_call 247;refine l.mono ?_;rintro e K ⟨rfl,B⟩;have j:=qaa (k.out.trans (B.mono k.out.size));have Q:=A K j.out))
 refine Q.mono ?_;rintro e w8 ⟨Z,sz,rfl,y,T⟩;have q:=qaa (j.out.trans (T.mono j.out.size));have P:=qaa ((q.out.block p (ltA f.out.row)).trans f.out.row);have F:Hid (qcH p t W (w8.setCell ⟨p,1,none⟩ (.int .i64 ((bs.length:Int)+1)))/\qck (w8.setCell ⟨p,1,none⟩ (.int .i64 ((bs.length:Int)+1))) p t (bs++[b]) (bs.length+1)):=by
  have S:=qj9 (f.out.gat.below q.out);rw[show(bs++[b]).length=bs.length+1 by simp] at S;have e9:(((bs.length+1:Nat)):Int)=(bs.length:Int)+1:=by omega
  rw[e9] at S;exact⟨(f.out.keep.trans (qcH.of_below q.out L.out)).trans qeZ,S⟩
 have C:=qab P.out 0;have k1:=qab P.out 1;have f1:=frozen_of_row w8 p 1 _ _ P.out;rw[show(bs++[b]).length=bs.length+1 by simp] at C;cases g:(Z==65533)
 ·clear y;go_wp2;go_ret;rw[r.out,s.out];exact⟨rfl,F.out.1,F.out.2⟩
 have ae:(sz==1)=false:=by rw[g,Bool.true_and] at y;exact y
 go_wp2;go_ret;rw[r.out,s.out];exact⟨rfl,F.out.1,F.out.2⟩

def qcD (r:Int):List UInt8:=(encodeRuneZ r).map fun x=>UInt8.ofNat x.toNat
theorem qop (x:Int)(a:0<=x)(b:x<=255):qav (UInt8.ofNat x.toNat)=.int .u8 x:=by
 unfold qav;rw[UInt8.toNat_ofNat',Nat.mod_eq_of_lt (by omega)];congr 1;omega
theorem qhx (r:Int):runeCells r=(qcD r).map qav:=by
 have b:∀x∈encodeRuneZ r,0<=x/\x<=255:=by
  unfold encodeRuneZ
  repeat' split
  all_goals (intro x a;simp at a;omega)
 unfold runeCells qcD;rw[List.map_map];apply List.map_congr_left;intro x a;exact(qop x (b x a).1 (b x a).2).symm
theorem qcg (r:Int):1<=(qcD r).length/\(qcD r).length<=4:=by
 unfold qcD encodeRuneZ;rw[List.length_map]
 repeat' split
 all_goals simp
theorem qxg {cs:List UInt8}{o:Obj}(r:base<=W.heap.size)(e:p<base)(B:wh<=bs.length)(q:W.ownsRow base 5 1 (.slice a n c) bs.length (bs.map qav))(x:w5.ownsRow base 5 1 (.slice (some ⟨g,0,none⟩) (bs.length+cs.length) cap5) (bs.length+cs.length) (bs.map qav++cs.map qav))(s:(W.alloc o).grownBy w5 (Value.slice a n c).ownBlock)(l:w5.heap[p]? = some (.cells #[.slice a n c,.int .i64 wh] 340)):qxt W p base g cap5 (bs++cs) wh (w5.setCell ⟨p,0,none⟩ (.slice (some ⟨g,0,none⟩) (bs.length+cs.length) cap5)):=by
 have b:=qaz ((Below.refl base W).alloc r _) (q.alloc _) s (by simp;omega);have d:(bs++cs).length=bs.length+cs.length:=List.length_append;have f:Own w5 base (.slice (some ⟨g,0,none⟩) (bs.length+cs.length) cap5) (bs++cs):=⟨by rw[d,List.map_append];exact x,by have:=b.size;omega,_,_,_,rfl⟩
 obtain⟨⟨y,c2,m,z⟩,A⟩:=qcB f;have h:=qdS (p:=p) (j:=0) (u:=.slice (some ⟨g,0,none⟩) (bs.length+cs.length) cap5) f e;have i:=(qdr (v:=.slice (some ⟨g,0,none⟩) (bs.length+cs.length) cap5) l).1;refine⟨⟨b.os,b.tape,b.output,by simpa [World.setCell] using b.size,fun k t w=>(heap_setCell_other _ _ _ _ (by simpa using w)).trans (b.block k t)⟩,⟨⟨_,i,h⟩,e,by omega⟩,by rw[d];exact i,(qcB h).2,⟨c2,m⟩⟩
theorem qfd (W:World)(p f:Nat)(bs:List UInt8)(t:Nat)(r:Int)(J : -2147483648<=r)(K:r<=2147483647)(h:qck W p f bs t)(X:bs.length<=999999999):Calls prog 238 #[.pointer (some ⟨p,0,none⟩),.int .i32 r] W fun e w=>e=.returned (.tuple #[])/\qcH p f W w/\qck w p f (bs++qcD r) (bs++qcD r).length:=by
 obtain⟨v,j,i,A,a,n,c,rfl⟩:=h.row;have H:=h.lt;have G:=h.le;have I:n=bs.length:=by
  rcases i.2 with ⟨E,F⟩|⟨g,Q,C,e,_⟩
  ·cases E;exact F.symm
  cases e;rfl
 subst I;have O:=qaa i;have P:=qaa j;have x:Calls prog 167 #[.slice a bs.length c,.int .i32 r] W fun e s=>∃g b,e=.returned (.slice (some ⟨g,0,none⟩) (bs.length+(qcD r).length) b)/\Hid (qxt W p f g b (bs++qcD r) t (s.setCell ⟨p,0,none⟩ (.slice (some ⟨g,0,none⟩) (bs.length+(qcD r).length) b)))/\Hid (s.heap[p]? = some (.cells #[.slice a bs.length c,.int .i64 t] 340)):=by
  refine(Any.utf8_AppendRune_plain Tryz.lays242 (by kernel_rfl) f (.slice a bs.length c) bs.length (bs.map qav) r J K W i (by omega) A).mono ?_;rintro e s ⟨v',rfl,q,o,B⟩;rw[qhx,List.length_map] at q;have V:=(qcg r).1;rcases q.2 with ⟨_,U⟩|⟨g,b,C,rfl,_⟩
  ·omega
  have z:=(B.block p (by have:=ltA j;simp;omega) (fun e=>by have:=qbA i e.symm;omega)).trans ((Below.heap_alloc _ _ _ (ltA j)).trans j);exact⟨g,b,rfl,qxg A H G i q B z,z⟩
 have L:=qab j 0;obtain⟨m,l⟩:∃m,(qcD r).length=m:=⟨_,rfl⟩
 have k:Hid ((bs++qcD r).length=bs.length+m/\m<=4):=⟨by rw[List.length_append,l],by rw[<-l];exact(qcg r).2⟩
 rw[l] at x;have Y:=k.out.2;go_enter func238,ntmps238
 go_wp2_with (first
  |(go_at_call 167;refine x.mono ?_;rintro e N ⟨T,b,rfl,d,u⟩;have L:=qab u.out 0;have R:=frozen_of_row N p 0 _ _ u.out;have M:=qab d.out.row 0;have S:=frozen_of_row _ p 1 _ _ d.out.row;have Z:=qab d.out.row 1;rw[k.out.1] at M)
  )
 go_end0;refine⟨rfl,d.out.keep.trans qeZ,?_⟩;have y:=qj9 d.out.gat;have D:(((bs++qcD r).length:Nat):Int)=(bs.length:Int)+m:=by rw[k.out.1];omega
 rw[D] at y;exact y

theorem qo8 {l:List UInt8}{c:UInt8}(a:qst l=true)(h:qc1 l c=1):qst (l++[c])=true:=by
 match l,a with
 |[],_ =>
  unfold qc1 at h;simp only[] at h;split at h
  ·cases h
  split at h
  ·cases h
  exact decide_eq_true (by omega)
 |[b0],a =>
  have d:=of_decide_eq_true a;unfold qc1 at h;simp only[] at h;split at h
  ·cases h
  split at h
  ·cases h
  exact decide_eq_true (by omega)
 |[b0,b1],a =>
  have d:=of_decide_eq_true a;have e:=qhF (b:=b0) (by omega);unfold qc1 at h;simp only[] at h;split at h
  ·cases h
  split at h
  ·cases h
  exact decide_eq_true (by omega)
 |[b0,b1,b2],a =>
  unfold qc1 at h;simp only[] at h;split at h
  ·cases h
  cases h
def qfe (bs:List UInt8)(lim:Int):Nat->Nat->List UInt8->Nat->Except (Int×Int) (List UInt8×Nat)
 |0,p,_,_=>.error (9,p)
 |g+1,p,acc,wh=>match bs[p]? with
  |none=>.error (9,p)
  |some c=>if (p:Int)=lim then .error (8,p) else
   if c.toNat=34/\wh=acc.length then .ok (acc,p+1) else
   if c.toNat=92/\wh=acc.length then (match qnj bs lim (p+1) with
    |.error e=>.error e
    |.ok (r,q)=>qfe bs lim g q (acc++qcD r) (acc++qcD r).length) else
   if c.toNat<32 then .error (9,p) else if qc1 (acc.drop wh) c=0 then .error (9,p) else
   qfe bs lim g (p+1) (acc++[c]) (if qc1 (acc.drop wh) c=2 then acc.length+1 else wh)
theorem qmU (h:qgy bs lim p=.ok (r,q)):(0<=r/\r<=1114111)/\p+4<=q:=by
 unfold qgy at h;split at h
 ·cases h
 next x q1 hx =>
 obtain⟨a,d⟩:=qi9 hx;split at h
 ·cases h
 split at h
 ·next hhi =>
  have b:=of_decide_eq_true (show decide (55296<=x/\x<=56319)=true from hhi);split at h
  ·cases h
  next q2 hr =>
  split at h
  ·cases h
  next y q3 hy =>
  obtain⟨e,f⟩:=qi9 hy;split at h
  ·next hlo =>
   have c:=of_decide_eq_true (show decide (56320<=y/\y<=57343)=true from hlo);cases h;have:q1<=q2:=by
    unfold qaT at hr;split at hr
    ·cases hr
    split at hr
    ·cases hr
    split at hr
    ·unfold qaT at hr;split at hr
     ·cases hr
     split at hr
     ·cases hr
     split at hr
     ·unfold qaT at hr;cases hr;omega
     cases hr
    cases hr
   omega
  cases h
 cases h;simp at a;omega
theorem qjf (h:qnj bs lim p=.ok (r,q)):(0<=r/\r<=1114111)/\p+1<=q:=by
 unfold qnj at h;split at h
 ·cases h
 split at h
 ·cases h
 repeat' split at h
 all_goals first
  |(cases h;omega)
  |(have:=qmU h;omega)
  |cases h
theorem qja {wf:Nat}{c:UInt8}(d:wh<=acc.length)(e:qst (acc.drop wh)=true)(f:¬qc1 (acc.drop wh) c=0)(a:(if qc1 (acc.drop wh) c=2 then acc.length+1 else wh)=wf):qst ((acc++[c]).drop wf)=true:=by
 by_cases b:qc1 (acc.drop wh) c=2
 ·rw[if_pos b] at a;subst a;rw[List.drop_eq_nil_of_le (by simp)];rfl
 rw[if_neg b] at a;subst a;rw[List.drop_append_of_le_length d];refine qo8 e ?_;have g:qc1 (acc.drop wh) c=0\/qc1 (acc.drop wh) c=1\/qc1 (acc.drop wh) c=2:=by
  unfold qc1
  repeat' split
  all_goals simp
 omega
theorem qfO {Q:Exit->Act->World->Prop}{a:Act}(h:Q .ret a w):Exit.noGoto Q .ret a w:=h
structure qiK (W:World)(b:Nat)(s:Src)(p:Nat)(acc:List UInt8)(wh:Nat)(V:World):Prop where
 src:qad V b {s with pos:=p}
 but:But b W V
 box:V.heap[W.heap.size]? = some (.cells #[.pointer (some ⟨b,0,none⟩)] 213)
 gat:qck V (W.heap.size+1) (W.heap.size+2) acc wh
theorem qiK.take (h:qiK W b s p acc wh V)(d:b<W.heap.size)(c:qad V' b {s with pos:=q})(a:But b V V'):qiK W b s q acc wh V' :=
 ⟨c,h.but.trans a,(a.block _ (ltA h.box) (by omega)).trans h.box,h.gat.but a (by omega) (by omega)⟩
theorem qiK.below (h:qiK W b s p acc wh V)(a:Below V.heap.size V V'):qiK W b s p acc wh V' :=
 ⟨h.src.below a,h.but.trans (But.of_below a),(a.block _ (ltA h.box)).trans h.box,h.gat.below a⟩
theorem qiK.keep {acc':List UInt8}{wh':Nat}(h:qiK W b s p acc wh V)(d:qad W b s)(a:qcH (W.heap.size+1) (W.heap.size+2) V V')(e:qck V' (W.heap.size+1) (W.heap.size+2) acc' wh'):qiK W b s p acc' wh' V' :=
 ⟨d.same rfl rfl h.src (fun k c=>a.block k (by omega) (by omega)),⟨a.os.trans h.but.os,a.tape.trans h.but.tape,a.output.trans h.but.output,Nat.le_trans h.but.size a.size,fun k c f=>(a.block k (by omega) (by omega)).trans (h.but.block k c f)⟩,(a.block _ (by omega) (by omega)).trans h.box,e⟩
theorem qle:∀w:World,(convert 66 9 (.slice none 0 0)).run prog w=.ok (.string ⟨#[]⟩) w:=fun w=>by kernel_rfl
theorem qkU (h:Own W base v bs):(convert 66 9 v).run prog W=.ok (.string ⟨bs.toArray⟩) W:=by
 have b:=h;obtain⟨⟨k,d⟩,l,m⟩:=h;rcases d with ⟨rfl,c⟩|⟨g,a,i,rfl,n⟩
 ·have:bs=[]:=List.eq_nil_of_length_eq_zero c;subst this;exact qle W
 refine run_convert_bytes_back W 66 9 5 ⟨g,0,none⟩ a bs underlying66 underlying5 underlying9 ?_;intro j f;have e:(⟨g,0,none⟩:Addr).add j=⟨g,j,none⟩:=by by_cases h:j=0<;>simp[Addr.add,h]
 rw[e];exact(qcB b).2 j f
theorem qtN (h:qad W b s):qiK W b s s.pos [] 0 ((W.alloc (.cells #[.pointer (some ⟨b,0,none⟩)] 213)).alloc (.cells #[.slice none 0 0,.int .i64 0] 340)):=by
 have a:Below W.heap.size W ((W.alloc (.cells #[.pointer (some ⟨b,0,none⟩)] 213)).alloc (.cells #[.slice none 0 0,.int .i64 0] 340)):=(bwA).alloc (by simp) _;have c:=qac (W.alloc (.cells #[.pointer (some ⟨b,0,none⟩)] 213)) (.cells #[.slice none 0 0,.int .i64 0] 340);rw[World.size_alloc] at c;refine⟨h.below a,But.of_below a,?_,⟨⟨_,c,?_⟩,by omega,Nat.le_refl _⟩⟩
 ·have d:=qac W (.cells #[.pointer (some ⟨b,0,none⟩)] 213);exact(Below.heap_alloc _ _ _ (by simp)).trans d
 refine⟨World.ownsRow_nil _ _ _ _,?_,none,0,0,rfl⟩;simp
theorem qeQ (W:World)(b:Nat)(s:Src)(h:qad W b s)(ht:U8 W)(h7:7<b)(ax:s.bs.length<=200000000):Calls prog 231 #[.agg #[.pointer (some ⟨b,0,none⟩)]] W (qbJ W b s (fun l:List UInt8=>.string ⟨l.toArray⟩) (qfe s.bs s.lim (s.bs.length+1-s.pos) s.pos [] 0)):=by
 have ak:=qaa (qtN h);have P:=qaa h;have Q:=qaa ht;have C:=ltA h.row;have ar:=h.le;obtain⟨R,F⟩:∃R,Hid (qfe s.bs s.lim (s.bs.length+1-s.pos) s.pos [] 0=R):=⟨_,show _=_ from rfl⟩
 rw[F.out];go_enter func231,ntmps231;go_wp2;go_step3;go_wp2;go_step3;go_wp2;generalize (W.alloc (.cells #[.pointer (some ⟨b,0,none⟩)] 213)).alloc (.cells #[.slice none 0 0,.int .i64 0] 340)=W0 at *
 go_loopg [4,8] (s.bs.length+1-s.pos) (fun g _ _ wr=>∃(p:Nat) (f:List UInt8) (j:Nat),Hid (s.bs.length+1<=p+g)/\Hid (p<=s.bs.length)/\Hid (f.length<=4*p)/\Hid (qst (f.drop j)=true)/\Hid (qiK W b s p f j wr)/\Hid (qfe s.bs s.lim g p f j=R))
 case atStart=>exact⟨s.pos,[],0,by show _<=_;omega,ar,by show 0<=_;omega,rfl,ak,F⟩
 case round =>
  obtain⟨p,f,j,hg,hp,M,af,m,F⟩:=hrel;obtain⟨g,rfl⟩:∃g,gk=g+1:=⟨gk-1,by have:=hg.out;have:=hp.out;omega⟩
  have t:=qab m.out.box 0;have HU:Hid (∀V,But b W V->U8 V):=by
   show ∀V,_;intro V B;have i:∀(q off:Nat) (aa:Value),q<=7->W.cell? ⟨q,off,none⟩=some aa->V.cell? ⟨q,off,none⟩=some aa:=fun q off aa hq hv=>(World.cell?_of_block (w:=W) (B.block q (by omega) (by omega))).trans hv;exact⟨fun c ao=>i _ _ _ (by decide) (Q.out.1 c ao),fun ag hi=>⟨i _ _ _ (by decide) (Q.out.2 ag hi).1,i _ _ _ (by decide) (Q.out.2 ag hi).2⟩⟩
  rcases qaM m.out.src with u|u|⟨c,u⟩
  ·have N:Hid (R=.error (9,(p:Int))):=by
    show _=_;rw[<-F.out,qfe,List.getElem?_eq_none (by have:p=s.bs.length:=u;omega)]
   have z:=qbm _ b {s with pos:=p} m.out.src u
   go_wp2_with (first
    |(go_at_call 226;refine z.mono ?_;rintro e D ⟨hF,d⟩;obtain rfl:=hF))
   rw[N.out];exact⟨rfl,m.out.but.trans (But.of_below d),rfl⟩
  ·have N:Hid (R=.error (8,(p:Int))):=by
    show _=_;have h2:(p:Int)=s.lim:=u.2;have h3:p<s.bs.length:=u.1;rw[<-F.out,qfe,List.getElem?_eq_getElem h3];simp only[];rw[if_pos h2]
   have z:=qaP _ b {s with pos:=p} m.out.src u
   go_wp2_with (first
    |(go_at_call 226;refine z.mono ?_;rintro e D ⟨hF,d⟩;obtain rfl:=hF))
   rw[N.out];exact⟨rfl,m.out.but.trans (But.of_below d),rfl⟩
  have ap:s.bs[p]? = some c:=u.1;have aq:¬(p:Int)=s.lim:=u.2;have ai:Hid (p<s.bs.length):=u.lt;have k:=F.out;rw[qfe,ap] at k;simp only[] at k;rw[if_neg aq] at k;have z:Calls prog 226 #[.pointer (some ⟨b,0,none⟩)] wr fun e W'=>e=.returned (.int .u8 c.toNat)/\qad W' b {s with pos:=p+1}/\But b wr W':=qau _ b {s with pos:=p} c m.out.src u;have A:=fun V (B:qiK W b s (p+1) f j V)=>qgq V (W.heap.size+1) (W.heap.size+2) f j B.gat;have hC:(j=f.length/\c.toNat=34)\/(j=f.length/\c.toNat=92)\/(j=f.length/\c.toNat≠34/\c.toNat≠92)\/(j≠f.length/\c.toNat=34)\/(j≠f.length/\c.toNat=92)\/(j≠f.length/\c.toNat≠34/\c.toNat≠92):=by omega
  rcases hC with ⟨y,H⟩|⟨y,I⟩|⟨y,H,I⟩|⟨y,H⟩|⟨y,I⟩|⟨y,H,I⟩
  ·rw[decide_eq_true y] at A;rw[if_pos ⟨H,y⟩] at k;subst k;have U:((c.toNat:Int)==34)=true:=by simp;omega
   go_wp2_with (first
    |(go_at_call 226;refine z.mono ?_;rintro e D ⟨rfl,o,d⟩;have a:=qaa (m.out.take C o d))
    |(go_at_call 237;refine(A _ a.out).mono ?_;rintro e E ⟨rfl,d⟩;have n:=qaa (a.out.below d);obtain⟨v3,r3,o3⟩:=n.out.gat.row;obtain⟨_,_,a3,n3,c3,rfl⟩:=(show Own E _ _ _ from o3);have au:=qkU o3;have k3:=qab r3 0))
   refine qfO ?_;go_ret;exact⟨n.out.but,rfl,n.out.src⟩
  ·rw[decide_eq_true y] at A;rw[if_neg (fun hh=>by omega),if_pos ⟨I,y⟩] at k;have U:=nec (c:=c) 34 (by omega);have ae:((c.toNat:Int)==92)=true:=by simp;omega
   have cE:=fun V (B:qiK W b s (p+1) f j V)=>qgJ V b {s with pos:=p+1} B.src;rcases he:qnj s.bs s.lim (p+1) with ⟨en,pl⟩|⟨r,q⟩
   ·rw[he] at k;have T:∀V,qiK W b s (p+1) f j V->Calls prog 239 #[.agg #[.pointer (some ⟨b,0,none⟩)]] V (qbJ V b {s with pos:=p+1} (fun x:Int=>.int .i32 x) (.error (en,pl))):=by rw[<-he];exact cE
    subst k
    go_wp2_with (first
     |(go_at_call 226;refine z.mono ?_;rintro e D ⟨rfl,o,d⟩;have a:=qaa (m.out.take C o d);have t:=qab a.out.box 0)
     |(go_at_call 237;refine(A _ a.out).mono ?_;rintro e E ⟨rfl,d⟩;have n:=qaa (a.out.below d);have a:=n;have t:=qab a.out.box 0)
     |(go_at_call 239;refine(T _ a.out).mono ?_;rintro e w5 ⟨d,hF⟩;obtain rfl:=hF))
    exact⟨rfl,a.out.but.trans d,rfl⟩
   rw[he] at k;simp only[] at k;have T:∀V,qiK W b s (p+1) f j V->Calls prog 239 #[.agg #[.pointer (some ⟨b,0,none⟩)]] V (qbJ V b {s with pos:=p+1} (fun x:Int=>.int .i32 x) (.ok (r,q))):=by rw[<-he];exact cE
   have v:=qjf he;have av:=v.1.1;have aw:=v.1.2;have ab:=qaa v.2;have O:=qaa k;have cC:=fun V (B:qiK W b s q f j V)=>qfd V (W.heap.size+1) (W.heap.size+2) f j r (by omega) (by omega) B.gat (by have:=M.out;have:=hp.out;omega);have aj:=qaa ((qcg r).2)
   go_wp2_with (first
    |(go_at_call 226;refine z.mono ?_;rintro e D ⟨rfl,o,d⟩;have a:=qaa (m.out.take C o d);have t:=qab a.out.box 0)
    |(go_at_call 237;refine(A _ a.out).mono ?_;rintro e E ⟨rfl,d⟩;have n:=qaa (a.out.below d);have a:=n;have t:=qab a.out.box 0)
    |(go_at_call 239;refine(T _ a.out).mono ?_;rintro e w5 ⟨d,rfl,o⟩;have ac:=qaa (a.out.take C o d))
    |(go_at_call 238;refine(cC _ ac.out).mono ?_;rintro e w6 ⟨rfl,an,am⟩;have ad:=qaa (ac.out.keep P.out an am)))
   go_roundg g
   case measure=>omega
   case rel=>exact⟨q,f++qcD r,(f++qcD r).length,by show _<=_;have:=hg.out;have:=ab.out;omega,ad.out.src.le,by show _<=_;rw[List.length_append];have:=M.out;have:=ab.out;have:=aj.out;omega,by show _=_;rw[List.drop_length];rfl,ad,O⟩
  all_goals
   first|rw[decide_eq_true y] at A|rw[decide_eq_false y] at A
   first|have U:((c.toNat:Int)==34)=true:=(by simp;omega)|have U:=nec (c:=c) 34 (by omega)
   first|have ae:((c.toNat:Int)==92)=true:=(by simp;omega)|have ae:=nec (c:=c) 92 (by omega)
   rw[if_neg (fun hh=>by omega),if_neg (fun hh=>by omega)] at k;by_cases L:c.toNat<32
   ·rw[if_pos L] at k;subst k;have al:decide ((c.toNat:Int)<32)=true:=by simp;omega
    first
    |exact absurd L (by omega)
    |clear L
     try clear H
     try clear I
     go_wp2_with (first
      |(go_at_call 226;refine z.mono ?_;rintro e D ⟨rfl,o,d⟩;have a:=qaa (m.out.take C o d);have t:=qab a.out.box 0)
      |(go_at_call 237;refine(A _ a.out).mono ?_;rintro e E ⟨rfl,d⟩;have n:Hid (qiK W b s (p+1) f j E):=a.out.below d;have a:=n;have t:=qab a.out.box 0)
      |(go_at_call 227;refine(qat _ b {s with pos:=p+1} _ a.out.src).mono ?_;rintro e w7 ⟨hF,rfl⟩;obtain rfl:=hF))
     exact⟨rfl,a.out.but,by show qao _ _ _;unfold qao qeh;simp⟩
   rw[if_neg L] at k;have al:decide ((c.toNat:Int)<32)=false:=by simp;omega
   try clear H
   try clear I
   obtain⟨wf,S⟩:∃wf,Hid ((if qc1 (f.drop j) c=2 then f.length+1 else j)=wf):=⟨_,show _=_ from rfl⟩
   have J:=fun V (B:qiK W b s (p+1) f j V)=>qp8 V (W.heap.size+1) (W.heap.size+2) f j c B.gat af.out (HU.out V B.but) (by omega) (by have:=M.out;have:=hp.out;omega);rw[S.out] at J;by_cases K:qc1 (f.drop j) c=0
   ·rw[if_pos K] at k;subst k;have Z:(qc1 (f.drop j) c != 0)=false:=by rw[K];rfl
    rw[Z] at J
    go_wp2_with (first
     |(go_at_call 226;refine z.mono ?_;rintro e D ⟨rfl,o,d⟩;have a:=qaa (m.out.take C o d);have t:=qab a.out.box 0)
     |(go_at_call 237;refine(A _ a.out).mono ?_;rintro e E ⟨rfl,d⟩;have n:=qaa (a.out.below d);have a:=n;have t:=qab a.out.box 0)
     |(go_at_call 240;refine(J _ a.out).mono ?_;rintro e w4 ⟨rfl,Y,X⟩;have G:=qaa (a.out.keep P.out Y X);have t:=qab G.out.box 0)
     |(go_at_call 227;refine(qat _ b {s with pos:=p+1} _ G.out.src).mono ?_;rintro e w7 ⟨hF,rfl⟩;obtain rfl:=hF))
    exact⟨rfl,G.out.but,by show qao _ _ _;unfold qao qeh;simp⟩
   rw[if_neg K,S.out] at k;have O:=qaa k;have Z:(qc1 (f.drop j) c != 0)=true:=by simpa using K
   rw[Z] at J;have ah:=qaa (qja m.out.gat.le af.out K S.out)
   go_wp2_with (first
    |(go_at_call 226;refine z.mono ?_;rintro e D ⟨rfl,o,d⟩;have a:=qaa (m.out.take C o d);have t:=qab a.out.box 0)
    |(go_at_call 237;refine(A _ a.out).mono ?_;rintro e E ⟨rfl,d⟩;have n:=qaa (a.out.below d);have a:=n;have t:=qab a.out.box 0)
    |(go_at_call 240;refine(J _ a.out).mono ?_;rintro e w4 ⟨rfl,Y,X⟩;have G:=qaa (a.out.keep P.out Y X);have t:=qab G.out.box 0))
   go_roundg g
   case measure=>omega
   case rel=>exact⟨p+1,f++[c],wf,by show _<=_;have:=hg.out;omega,ai,by show _<=_;rw[List.length_append];have:=M.out;simp;omega,ah,G,O⟩

end
end Go.Proofs.YtcokgepdckkjdaaGreatDoor
