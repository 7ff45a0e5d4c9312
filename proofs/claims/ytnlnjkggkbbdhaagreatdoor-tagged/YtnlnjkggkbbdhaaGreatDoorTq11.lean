import Derived.Lib.RuneBytes
import Derived.Laws.IdiomStrings
import Derived.Test.YtnlnjkggkbbdhaaGreatDoorTq08
import Derived.Test.YtnlnjkggkbbdhaaGreatDoorTq07
set_option maxRecDepth 100000
set_option maxHeartbeats 8000000
set_option linter.all false
namespace Go.Proofs.YtnlnjkggkbbdhaaGreatDoor
open Go.Proofs.Tryz
open Go.Value renaming int->I,slice->G
open Option renaming some->U,none->Y
open Go.IntKind renaming i64->K
open Go renaming World->O
open Go.Obj renaming cells->E
open Go.Proofs.Tryz renaming prog->X
open Go.Value renaming pointer->A8,string->A9,tuple->Aa,agg->Ab,bool->Ac,iface->Ad
open Go.Ending renaming returned->Af
open Go renaming World->Ak,Value->Al,Calls->Am
variable{b b0 base cap cap5 j off p q wh wh':Nat}{V V' W W' w w5:O}{c:UInt8}{u:Al}{acc acc' bs:A1}{lim r:Int}{ds:List (DataW Unit)}
section
open Go.RowKit Go.Lib
def Ea(b:UInt8):Nat:=firstT b.toNat%8
def L2(b:UInt8):Nat:=accLo (firstT b.toNat/16)
def L3(b:UInt8):Nat:=accHi (firstT b.toNat/16)
def L4:A1->Bool
 |[]=>true
 |[b0]=>decide (2<=Ea b0)
 |[b0,b1]=>decide (3<=Ea b0/\L2 b0<=b1.toNat/\b1.toNat<=L3 b0)
 |[b0,b1,b2]=>decide (4<=Ea b0/\(L2 b0<=b1.toNat/\b1.toNat<=L3 b0)/\128<=b2.toNat/\b2.toNat<=191)
 |_=>false
def Cw(l:A1)(b:UInt8):Nat:=match l with
 |[]=>if Ea b=0 then 2 else if Ea b=1 then 0 else 1
 |[b0]=>if b.toNat<L2 b0\/L3 b0<b.toNat then 0 else if Ea b0=2 then 2 else 1
 |[b0,_]=>if b.toNat<128\/191<b.toNat then 0 else if Ea b0=3 then 2 else 1
 |_=>if b.toNat<128\/191<b.toNat then 0 else 2
def XJ(b:UInt8):(Ea b=0/\firstT b.toNat=240/\b.toNat<128)\/(Ea b=1/\firstT b.toNat=241/\128<=b.toNat)\/(2<=Ea b/\Ea b<=4/\firstT b.toNat<240/\128<=b.toNat):=by
 unfold Ea;have f:=firstT_cases b.toNat;have c:b.toNat<128->firstT b.toNat=240:=λh=>by unfold firstT;rw[BA h]
 have d:128<=b.toNat->firstT b.toNat≠240:=λh=>by
  unfold firstT;rw[Bz J]
  repeat' split
  all_goals decide
 by_cases a:b.toNat<128
 ·left;have:=c a;exact⟨by rw[this],this,a⟩
 have e:=d J;rcases f with h|h|h|h|h|h|h|h|h
 ·exact absurd h e
 ·right;left;exact⟨by rw[h],h,J⟩
 all_goals(right;right;rw[h];exact⟨Ay,Ay,Ay,J⟩)
def QP{b:UInt8}(h:2<=Ea b):Ea b<=4/\firstT b.toNat<240/\128<=b.toNat:=by
 rcases XJ b with a|a|a
 ·omega
 ·omega
 exact a.2
def QQ(b:UInt8):Fe b.toNat (firstT b.toNat) (Ea b) (firstT b.toNat/16) (L2 b) (L3 b):=iQ _ _ rfl (by
 rcases firstT_cases b.toNat with h|h|h|h|h|h|h|h|h<;>rw[h]<;>decide)
def Jo(V:Ak)(g off n cap:Nat)(r:Bool):Prop:=Am prog 247 #[.slice (some ⟨g,off,none⟩) n cap] V λe W'=>e=Af (Ac r)/\A0 V W'
def LR(V:Ak)(g off n cap:Nat)(bad:Bool):Prop:=Am prog 248 #[.slice (some ⟨g,off,none⟩) n cap] V λe W'=>∃ch sz,e=Af (Aa #[.int .i32 ch,.int .i64 sz])/\(ch==65533&&sz==1)=bad/\A0 V W'
def P0{g n:Nat}(h:Am X 247 #[G (U ⟨g,off,Y⟩) n cap] V λe a=>e=Af (Ac true)/\a=V):Jo V g off n cap true :=
 h.mono λ_ _ ⟨b,c⟩=>⟨b,c▸C5 _ _⟩
def JP{g n:Nat}(hb:128<=b0)(i:1<=n)(c:V.cell? ⟨g,off,Y⟩=U (I .u8 b0))(h:Am X 255 #[G (U ⟨g,off,Y⟩) n cap] V λe a=>e=Af (Aa #[I .i32 65533,I K 1])/\A0 V a):LR V g off n cap true :=
 XI V g off cap n b0 hb i c (λb j a=>(b==65533&&j==1)=true/\A0 V a) (h.mono λ_ _ ⟨f,d⟩=>⟨65533,1,f,Ay,d⟩)
def jb{k:Nat}(b:2<=k)(a:Int):(a==65533&&(k:Int)==1)=false:=by
 have:((k:Int)==1)=false:=Ax
 rw[this,Qm]
def Tz{g n k:Nat}(d:2<=k)(hb:128<=b0)(f:1<=n)(c:V.cell? ⟨g,off,Y⟩=U (I .u8 b0))(h:Am X 255 #[G (U ⟨g,off,Y⟩) n cap] V λe b=>(∃a,e=Af (Aa #[I .i32 a,I K k]))/\A0 V b):LR V g off n cap false :=
 XI V g off cap n b0 hb f c (λa i b=>(a==65533&&i==1)=false/\A0 V b) (h.mono λ_ _ ⟨⟨a,he⟩,hB⟩=>⟨a,k,he,jb d a,hB⟩)
def jc(g off c:Nat)(l:A1)(b:UInt8)(t:L4 l=true)(V:O)(q:∀i (hi:i<(l++[b]).length),V.cell? ⟨g,off+i,Y⟩=U (I .u8 ((l++[b])[i]'hi).toNat))(h:U8 V):(Cw l b=1->Jo V g off (l.length+1) c false)/\(Cw l b=0->Jo V g off (l.length+1) c true/\LR V g off (l.length+1) c true)/\(Cw l b=2->Jo V g off (l.length+1) c true/\LR V g off (l.length+1) c false):=by
 match l,t with
 |[],_ =>
  have a:V.cell? ⟨g,off,Y⟩=U (I .u8 b.toNat):=q 0 Az;have f:=QQ b;have d:=b.toNat_lt;unfold Cw;rcases XJ b with⟨v,u,k⟩|⟨v,u,k⟩|⟨v,u,k,n⟩
  ·rw[BA v];refine⟨Az,Az,λ_=>⟨P0 (OZ V g off 1 c _ _ _ _ _ _ f d Ay J Ay a h),?_⟩⟩;refine(ja V g off c 1 b.toNat k Ay a).mono λ_ _ ⟨z,D⟩=>⟨b.toNat,1,z,?_,D▸C5 _ _⟩
   have:((b.toNat:Int)==65533)=false:=Ax
   rw[this,Qk]
  ·rw[Bz J,BA v];refine⟨Az,λ_=>⟨P0 (OZ V g off 1 c _ _ _ _ _ _ f d Ay J Ay a h),?_⟩,Az⟩;exact JP k (I6 _ _) a ((j9 V g off c 1 _ u d Ay a h).mono λ_ _ ⟨z,D⟩=>⟨z,D▸C5 _ _⟩)
  rw[Bz J,Bz J];exact⟨λ_=>iR V g off c _ _ _ _ _ _ f d J a h,Az,Az⟩
 |[b0],t =>
  have a:V.cell? ⟨g,off,Y⟩=U (I .u8 b0.toNat):=q 0 Az;have m:V.cell? ⟨g,off+1,Y⟩=U (I .u8 b.toNat):=q 1 Az;have f:=QQ b0;have d:=b0.toNat_lt;have C:=CD t;obtain⟨u,k,n⟩:=QP C;have y:Ea b0=2->Jo V g off 2 c true:=λe=>P0 (OZ V g off 2 c _ _ _ _ _ _ f d Ay J Ay a h);unfold Cw;simp only[];by_cases q1:b.toNat<L2 b0
  ·rw[BA (.inl q1)];refine⟨Az,λ_=>?_,Az⟩;by_cases j:Ea b0=2
   ·exact⟨y j,JP n (I6 _ _) a (iY V g off c _ _ _ _ _ _ _ f d k a m h j q1)⟩
   exact⟨iS V g off c _ _ _ _ _ _ _ f d J a m h q1,JP n (I6 _ _) a (QO V g off c 2 _ _ _ _ _ _ f d k a h Ay J)⟩
  by_cases o:L3 b0<b.toNat
  ·rw[BA (.inr o)];refine⟨Az,λ_=>?_,Az⟩;by_cases j:Ea b0=2
   ·exact⟨y j,JP n (I6 _ _) a (iZ V g off c _ _ _ _ _ _ _ f d k a m h j q1 o)⟩
   exact⟨iT V g off c _ _ _ _ _ _ _ f d J a m h q1 o,JP n (I6 _ _) a (QO V g off c 2 _ _ _ _ _ _ f d k a h Ay J)⟩
  rw[Bz J];by_cases j:Ea b0=2
  ·rw[BA j];exact⟨Az,Az,λ_=>⟨y j,Tz Ay n (I6 _ _) a (j2 V g off c _ _ _ _ _ _ _ f d k a m h j q1 o)⟩⟩
  rw[Bz j];exact⟨λ_=>iU V g off c _ _ _ _ _ _ _ f d J a m h q1 o,Az,Az⟩
 |[b0,b1],t =>
  have a:V.cell? ⟨g,off,Y⟩=U (I .u8 b0.toNat):=q 0 Az;have m:V.cell? ⟨g,off+1,Y⟩=U (I .u8 b1.toNat):=q 1 Az;have p:V.cell? ⟨g,off+2,Y⟩=U (I .u8 b.toNat):=q 2 Az;have f:=QQ b0;have d:=b0.toNat_lt;obtain⟨C,F,H⟩:=CD t;obtain⟨u,k,n⟩:=QP (b:=b0) J;have r:¬b1.toNat<L2 b0:=J
  have s:¬L3 b0<b1.toNat:=J
  have y:Ea b0=3->Jo V g off 3 c true:=λe=>P0 (OZ V g off 3 c _ _ _ _ _ _ f d Ay J Ay a h);unfold Cw;simp only[];by_cases q1:b.toNat<128
  ·rw[BA (.inl q1)];refine⟨Az,λ_=>?_,Az⟩;by_cases j:Ea b0=3
   ·exact⟨y j,JP n (I6 _ _) a (j3 V g off c _ _ _ _ _ _ _ _ f d k a m p h j r s q1)⟩
   exact⟨iV V g off c _ _ _ _ _ _ _ _ f d J a m p h r s q1,JP n (I6 _ _) a (QO V g off c 3 _ _ _ _ _ _ f d k a h Ay J)⟩
  by_cases o:191<b.toNat
  ·rw[BA (.inr o)];refine⟨Az,λ_=>?_,Az⟩;by_cases j:Ea b0=3
   ·exact⟨y j,JP n (I6 _ _) a (j4 V g off c _ _ _ _ _ _ _ _ f d k a m p h j r s o)⟩
   exact⟨iW V g off c _ _ _ _ _ _ _ _ f d J a m p h r s q1 o,JP n (I6 _ _) a (QO V g off c 3 _ _ _ _ _ _ f d k a h Ay J)⟩
  rw[Bz J];by_cases j:Ea b0=3
  ·rw[BA j];exact⟨Az,Az,λ_=>⟨y j,Tz Ay n (I6 _ _) a (j5 V g off c _ _ _ _ _ _ _ _ f d k a m p h j r s J J)⟩⟩
  rw[Bz j];exact⟨λ_=>iX V g off c _ _ _ _ _ _ _ _ f d J a m p h r s q1 o,Az,Az⟩
 |[b0,b1,b2],t =>
  have a:V.cell? ⟨g,off,Y⟩=U (I .u8 b0.toNat):=q 0 Az;have m:V.cell? ⟨g,off+1,Y⟩=U (I .u8 b1.toNat):=q 1 Az;have p:V.cell? ⟨g,off+2,Y⟩=U (I .u8 b2.toNat):=q 2 Az;have x:V.cell? ⟨g,off+3,Y⟩=U (I .u8 b.toNat):=q 3 Az;have f:=QQ b0;have d:=b0.toNat_lt;obtain⟨C,⟨F,H⟩,A,B⟩:=CD t;obtain⟨u,k,n⟩:=QP (b:=b0) J;have w:Ea b0=4:=J
  have r:¬b1.toNat<L2 b0:=J
  have s:¬L3 b0<b1.toNat:=J
  have y:=P0 (OZ V g off 4 c _ _ _ _ _ _ f d Ay J Ay a h);unfold Cw;simp only[];by_cases q1:b.toNat<128
  ·rw[BA (.inl q1)];exact⟨Az,λ_=>⟨y,JP n (I6 _ _) a (j6 V g off c _ _ _ _ _ _ _ _ _ f d k a m p x h w r s A B q1)⟩,Az⟩
  by_cases o:191<b.toNat
  ·rw[BA (.inr o)];exact⟨Az,λ_=>⟨y,JP n (I6 _ _) a (j7 V g off c _ _ _ _ _ _ _ _ _ f d k a m p x h w r s A B o)⟩,Az⟩
  rw[Bz J];exact⟨Az,Az,λ_=>⟨y,Tz Ay n (I6 _ _) a (j8 V g off c _ _ _ _ _ _ _ _ _ f d k a m p x h w r s A B J J)⟩⟩
structure Fu(W:World)(p base:Nat)(bs:A1)(wh:Nat):Prop where
 row:∃v,W.heap[p]?=some (.cells #[v,.int .i64 wh] 341)/\BG W base v bs
 lt:p<base
 le:wh<=bs.length
structure Gg(p base:Nat)(W W':World):Prop where
 os:W'.os=W.os
 tape:W'.tape=W.tape
 output:W'.output=W.output
 size:W.heap.size<=W'.heap.size
 block:∀k,k<base->k≠p->W'.heap[k]?=W.heap[k]?
def Gg.refl(p a:Nat)(W:O):Gg p a W W:=⟨rfl,rfl,rfl,BM _,λ_ _ _=>rfl⟩
def Gg.trans{a b c:O}(h:Gg p base a b)(d:Gg p base b c):Gg p base a c :=
 ⟨d.os.trans h.os,d.tape.trans h.tape,d.output.trans h.output,C7 h.size d.size,λk e f=>(d.block k e f).trans (h.block k e f)⟩
def Gg.of_below(h:A0 W W')(hb:base<=W.heap.size):Gg p base W W' :=
 ⟨h.os,h.tape,h.output,h.size,λk a _=>h.block k J⟩
def TA{g:Nat}{a b v:Al}{t:TypeId}(c:w.heap[g]?=U (E #[a,b] t)):(w.setCell ⟨g,0,Y⟩ v).heap[g]?=U (E #[v,b] t)/\(w.setCell ⟨g,1,Y⟩ v).heap[g]?=U (E #[a,v] t):=by
 constructor
 ·rw[SG w g 0 _ _ _ v c,Ca _ _ _ _ _ _ c];rfl
 rw[SG w g 1 _ _ _ v c,Ca _ _ _ _ _ _ c];rfl
def XK{v:Al}:Gg p base w (w.setCell ⟨p,j,Y⟩ v) :=
 ⟨rfl,rfl,rfl,AJ,λk _ a=>CP _ _ _ _ AO⟩
def TB{v:Al}(h:BG w base v bs)(n:p<base):BG (w.setCell ⟨p,j,Y⟩ u) base v bs:=by
 obtain⟨⟨d,a⟩,f,i⟩:=h;refine⟨⟨d,?_⟩,by simpa[World.setCell]using f,i⟩;rcases a with a|⟨g,b,c,e,l,m,k⟩
 ·exact .inl a
 exact .inr ⟨g,b,c,e,l,(CP _ _ _ _ Ax).trans m,k⟩
def Fu.same(h:Fu W p base bs wh)(d:∀k,k<W.heap.size->k=p\/base<=k->W'.heap[k]?=W.heap[k]?)(q:W.heap.size<=W'.heap.size):Fu W' p base bs wh:=by
 obtain⟨v,f,⟨l,a⟩,o,m⟩:=h.row;refine⟨⟨v,(d p (BC f) (.inl Z)).trans f,⟨l,?_⟩,J,m⟩,h.lt,h.le⟩;rcases a with a|⟨g,i,j,e,b,c,n⟩
 ·exact .inl a
 exact .inr ⟨g,i,j,e,b,(d g (BC c) (.inr b)).trans c,n⟩
def Fu.below(h:Fu W p base bs wh)(hb:A0 W W'):Fu W' p base bs wh:=h.same (λk a _=>hb.block k a) hb.size
def Fu.but(h:Fu W p base bs wh)(hb:BF b W W')(d:b<base)(e:b≠p):Fu W' p base bs wh:=h.same (λk c a=>hb.block k c (by rcases a with a|a<;>omega)) hb.size
def XL(W:O)(p k:Nat)(bs:A1)(b:Nat)(h:Fu W p k bs b):Am X 237 #[A8 (U ⟨p,0,Y⟩)] W λe j=>e=Af (Ac (decide (b=bs.length)))/\A0 W j:=by
 obtain⟨v,f,⟨r,d⟩,_,a,n,c,rfl⟩:=h.row;have m:n=bs.length:=by
  rcases d with⟨d,l⟩|⟨g,o,q,e,_⟩
  ·cases d;exact l.symm
  cases e;rfl
 subst m;have s:=BB f 0;have t:=BB f 1;have i:Hid (((b:Int)==(bs.length:Int))=decide (b=bs.length)):=by
  show _=_;by_cases e:b=bs.length
  ·simp[e]
  simp[e];omega
 go_enter func237,ntmps237;go_wp2
 go_quiet (fail)
 go_wp2;go_ret;refine⟨?_,F9 W nq⟩;show Ending.returned (Ac _)=_;rw[i.out]
def NI{g n:Nat}(h:BG W base (G (U ⟨g,0,Y⟩) n cap) bs):(n=bs.length/\bs.length<=cap/\cap<=maxLen/\base<=g)/\∀j (a:j<bs.length),W.cell? ⟨g,j,Y⟩=U (I .u8 ((bs[j]'a).toNat:Int)):=by
 obtain⟨⟨r,b⟩,_,_⟩:=h;rcases b with⟨b,_⟩|⟨q,o,p,e,k,m,d,f,s,i⟩
 ·cases b
 cases e;refine⟨⟨Z,d,f,k⟩,λj a=>?_⟩;rw[BB m j,<-Ka];have c:=congrArg (λl=>l[j]?) i;simp only[Qr]at c;rw[KM a,Jc,C6 a]at c;exact c
def U8.keep(h:U8 W)(e:Gg p base W V)(j:7<p)(l:p<base):U8 V:=by
 have a:∀(g off:Nat) (v:Al),g<=7->W.cell? ⟨g,off,Y⟩=U v->V.cell? ⟨g,off,Y⟩=U v:=λg off v k f=>(Im (w:=W) (e.block g J J)).trans f;exact⟨λc d=>a _ _ _ Ay (h.1 c d),λi b=>⟨a _ _ _ Ay (h.2 i b).1,a _ _ _ Ay (h.2 i b).2⟩⟩
def XM(h:Fu W p base bs wh):Fu (W.setCell ⟨p,1,Y⟩ (I K bs.length)) p base bs bs.length:=by
 obtain⟨v,b,a⟩:=h.row;exact⟨⟨v,(TA b).2,TB a h.lt⟩,h.lt,BM _⟩
structure TC(W:World)(p base g cap:Nat)(bs:A1)(wh:Nat)(V:World):Prop where
 keep:Gg p base W V
 gat:Fu V p base bs wh
 row:V.heap[p]?=some (.cells #[.slice (some ⟨g,0,none⟩) bs.length cap,.int .i64 wh] 341)
 cells:∀j (hj:j<bs.length),V.cell? ⟨g,j,none⟩=some (.int .u8 ((bs[j]'hj).toNat:Int))
 cap:bs.length<=cap/\cap<=maxLen
def jd{g c n:Nat}{a:A4}{b:UInt8}(hb:base<=W.heap.size)(e:p<base)(A:wh<=bs.length)(o:W.ownsRow base 5 1 (G a n c) bs.length (bs.map Cg))(x:Cg b=u)(w:w5.ownsRow base 5 1 (G (U ⟨g,0,Y⟩) (bs.length+1) cap5) (bs.length+1) (bs.map Cg++[u]))(q:(W.alloc (E #[u] 5)).grownBy w5 (Value.slice a n c).ownBlock)(l:w5.heap[p]?=U (E #[G a n c,I K wh] 341)):TC W p base g cap5 (bs++[b]) wh (w5.setCell ⟨p,0,Y⟩ (G (U ⟨g,0,Y⟩) (bs.length+1) cap5)):=by
 have d:=Jl ((C5 base W).alloc hb _) (o.alloc _) q Ax;have f:BG w5 base (G (U ⟨g,0,Y⟩) (bs.length+1) cap5) (bs++[b]):=⟨LP w x,Ao d.size,_,_,_,Z⟩
 obtain⟨⟨y,c2,m,z⟩,cs⟩:=NI f;have h:=TB (p:=p) (j:=0) (u:=G (U ⟨g,0,Y⟩) (bs.length+1) cap5) f e;have s:(bs++[b]).length=bs.length+1:=Az
 have i:=(TA (v:=G (U ⟨g,0,Y⟩) (bs.length+1) cap5) l).1;refine⟨⟨d.os,d.tape,d.output,by simpa[World.setCell]using d.size,λk r t=>(CP _ _ _ _ Bm).trans (d.block k r)⟩,⟨⟨_,i,h⟩,e,J⟩,by rw[s];exact i,(NI h).2,⟨c2,m⟩⟩
def XN(W:O)(p z:Nat)(bs:A1)(d:Nat)(b:UInt8)(h:Fu W p z bs d)(hp:L4 (bs.drop d)=true)(ht:U8 W)(h7:7<p)(hl:bs.length<=999999999):Am X 240 #[A8 (U ⟨p,0,Y⟩),I .u8 b.toNat] W λe W'=>e=Af (Ac (Cw (bs.drop d) b != 0))/\Gg p z W W'/\Fu W' p z (bs++[b]) (if Cw (bs.drop d) b=2 then bs.length+1 else d):=by
 obtain⟨D,L⟩:∃D,Hid ((Cw (bs.drop d) b != 0)=D):=⟨_,show _=_ from rfl⟩
 obtain⟨F,N⟩:∃F,Hid ((if Cw (bs.drop d) b=2 then bs.length+1 else d)=F):=⟨_,show _=_ from rfl⟩
 rw[L.out,N.out];obtain⟨i0,hi,ay,az,a0⟩:=DZ Tryz.infoU8;obtain⟨a1,hr,ho,hb,ap,ao,aq,rfl⟩:=h.row;have ai:=h.lt;have ag:=h.le;have hn:ao=bs.length:=by
  rcases ho.2 with⟨u,h3⟩|⟨av,ar,au,e,_⟩
  ·cases u;exact h3.symm
  cases e;rfl
 subst hn;have S:=T ho;have a:=T hr;have HT:=T ht;have C:=BB hr 0;go_enter func240,ntmps240
 go_wp2_with(first
  |(at_builtin;refine Dh b.toNat S ?_;intro v' w5 aj ae ax;obtain⟨o,q,rfl⟩:=ownsRow_succ aj;have c:=T ((ae.block p (As (BC a)) (λe=>Ao (Fa S e.symm))).trans ((BT _ _ _ (BC a)).trans a));have C:=BB c 0;have f0:=Dx w5 p 0 _ _ c))
 have f:=T (jd hb ai ag S Z aj ae c);generalize w5.setCell ⟨p,0,Y⟩ (G (U ⟨o,0,Y⟩) (bs.length+1) q)=V at *;have C:=BB f.row 0;have k1:=BB f.row 1;have f1:=Dx V p 1 _ _ f.row;have ah:(bs++[b]).length=bs.length+1:=Az
 rw[ah]at C k1;have ab:=f.cap;rw[ah]at ab;have aw:=ab.1;have al:=ab.2;unfold maxLen at al;have an:(bs.drop d).length+1=bs.length+1-d:=by rw[Eb];omega
 have y:Hid (∀j,A0 V j->(Cw (bs.drop d) b=1->Jo j o d (bs.length+1-d) (q-d) false)/\(Cw (bs.drop d) b=0->Jo j o d (bs.length+1-d) (q-d) true/\LR j o d (bs.length+1-d) (q-d) true)/\(Cw (bs.drop d) b=2->Jo j o d (bs.length+1-d) (q-d) true/\LR j o d (bs.length+1-d) (q-d) false)):=by
  show∀j,_;intro j w;have ad:(bs++[b]).drop d=bs.drop d++[b]:=Ot ag;have:=jc o d (q-d) (bs.drop d) b hp j (λi hi=>by
   have af:d+i<(bs++[b]).length:=by
    rw[<-ad,Eb]at hi;omega
   have hc:=f.cells (d+i) af;have e:(bs.drop d++[b])[i]'hi=(bs++[b])[d+i]'af:=by
    simp only[<-ad,List.getElem_drop]
   rw[e];exact(w.cell (p:=⟨o,d+i,Y⟩) (G8 hc)).trans hc) ((HT.keep f.keep h7 ai).below w)
  rw[an]at this;exact this
 have am:Cw (bs.drop d) b=0\/Cw (bs.drop d) b=1\/Cw (bs.drop d) b=2:=by
  unfold Cw
  repeat' split
  all_goals simp
 have R:=T (C7 hb f.keep.size)
 go_quiet (fail)
 have l:=T (F9 V nq);rcases am with P|n|u
 ·have s:Hid (D=false):=by show _=_;rw[<-L.out,P];rfl
  have t:Hid (F=d):=by show _=_;rw[<-N.out,P];rfl
  have m:=((y.out _ l).2.1 P).1;have A:=λj w=>((y.out j w).2.1 P).2;unfold Jo at m;unfold LR at A
  go_wp2_with(first
   |(go_at_call 247;refine m.mono ?_;rintro e Q ⟨rfl,B⟩;have k:=T (l.trans (B.mono l.size));have v:=A Q k)
   |(go_at_call 248;refine v.mono ?_;rintro e w8 ⟨ch,sz,rfl,x,aa⟩;have r:=T (k.trans (aa.mono k.size));rw[Dw]at x;obtain⟨ac,ak⟩:=x))
  go_ret;rw[s.out,t.out];exact⟨Z,f.keep.trans (Gg.of_below r R),f.gat.below r⟩
 ·have s:Hid (D=true):=by show _=_;rw[<-L.out,n];rfl
  have t:Hid (F=d):=by show _=_;rw[<-N.out,n];rfl
  have m:=(y.out _ l).1 n;unfold Jo at m
  go_wp2_with(first
   |(go_at_call 247;refine m.mono ?_;rintro e Q ⟨rfl,B⟩;have k:=T (l.trans (B.mono l.size))))
  go_ret;rw[s.out,t.out];exact⟨Z,f.keep.trans (Gg.of_below k R),f.gat.below k⟩
 have s:Hid (D=true):=by show _=_;rw[<-L.out,u];rfl
 have t:Hid (F=bs.length+1):=by show _=_;rw[<-N.out,u];rfl
 have m:=((y.out _ l).2.2 u).1;have A:=λj w=>((y.out j w).2.2 u).2;unfold Jo at m;unfold LR at A
 go_wp2_with(first
  |(go_at_call 247;refine m.mono ?_;rintro e Q ⟨rfl,B⟩;have k:=T (l.trans (B.mono l.size));have v:=A Q k))
 refine v.mono ?_;rintro e w8 ⟨ch,sz,rfl,x,aa⟩;have r:=T (k.trans (aa.mono k.size));have g:=T ((r.block p (BC f.row)).trans f.row);have H:Hid (Gg p z W (w8.setCell ⟨p,1,Y⟩ (I K ((bs.length:Int)+1)))/\Fu (w8.setCell ⟨p,1,Y⟩ (I K ((bs.length:Int)+1))) p z (bs++[b]) (bs.length+1)):=by
  have h9:=XM (f.gat.below r);rw[show(bs++[b]).length=bs.length+1 by simp]at h9;have e9:(((bs.length+1:Nat)):Int)=(bs.length:Int)+1:=J
  rw[e9]at h9;exact⟨(f.keep.trans (Gg.of_below r R)).trans XK,h9⟩
 have C:=BB g 0;have k1:=BB g 1;have f1:=Dx w8 p 1 _ _ g;rw[show(bs++[b]).length=bs.length+1 by simp]at C;cases ac:(ch==65533)
 ·clear x;go_wp2;go_ret;rw[s.out,t.out];exact⟨Z,H.1,H.2⟩
 have ak:(sz==1)=false:=by rw[ac,GS]at x;exact x
 go_wp2;go_ret;rw[s.out,t.out];exact⟨Z,H.1,H.2⟩
def Du(r:Int):A1:=(encodeRuneZ r).map λx=>UInt8.ofNat x.toNat
def je(x:Int)(a:0<=x)(b:x<=255):Cg (UInt8.ofNat x.toNat)=I .u8 x:=by
 unfold Cg;rw[JF,FC J];congr 1;omega
def TD(r:Int):runeCells r=(Du r).map Cg:=by
 have b:∀x∈encodeRuneZ r,0<=x/\x<=255:=by
  unfold encodeRuneZ
  repeat' split
  all_goals(intro x a;simp at a;omega)
 unfold runeCells Du;rw[OJ];apply Wu;intro x a;exact(je x (b x a).1 (b x a).2).symm
def NJ(r:Int):1<=(Du r).length/\(Du r).length<=4:=by
 unfold Du encodeRuneZ;rw[Eo]
 repeat' split
 all_goals simp
def jf{g c n:Nat}{a:A4}{cs:A1}{o:Obj}(hb:base<=W.heap.size)(e:p<base)(A:wh<=bs.length)(q:W.ownsRow base 5 1 (G a n c) bs.length (bs.map Cg))(w:w5.ownsRow base 5 1 (G (U ⟨g,0,Y⟩) (bs.length+cs.length) cap5) (bs.length+cs.length) (bs.map Cg++cs.map Cg))(r:(W.alloc o).grownBy w5 (Value.slice a n c).ownBlock)(l:w5.heap[p]?=U (E #[G a n c,I K wh] 341)):TC W p base g cap5 (bs++cs) wh (w5.setCell ⟨p,0,Y⟩ (G (U ⟨g,0,Y⟩) (bs.length+cs.length) cap5)):=by
 have b:=Jl ((C5 base W).alloc hb _) (q.alloc _) r Ax;have d:(bs++cs).length=bs.length+cs.length:=BK;have f:BG w5 base (G (U ⟨g,0,Y⟩) (bs.length+cs.length) cap5) (bs++cs):=⟨by rw[d,G9];exact w,Ao b.size,_,_,_,Z⟩
 obtain⟨⟨x,c2,m,y⟩,z⟩:=NI f;have h:=TB (p:=p) (j:=0) (u:=G (U ⟨g,0,Y⟩) (bs.length+cs.length) cap5) f e;have i:=(TA (v:=G (U ⟨g,0,Y⟩) (bs.length+cs.length) cap5) l).1;refine⟨⟨b.os,b.tape,b.output,by simpa[World.setCell]using b.size,λk s t=>(CP _ _ _ _ Bm).trans (b.block k s)⟩,⟨⟨_,i,h⟩,e,J⟩,by rw[d];exact i,(NI h).2,⟨c2,m⟩⟩
def jg(W:O)(p f:Nat)(bs:A1)(t:Nat)(r:Int)(Q : -2147483648<=r)(R:r<=2147483647)(h:Fu W p f bs t)(hl:bs.length<=999999999):Am X 238 #[A8 (U ⟨p,0,Y⟩),I .i32 r] W λe w=>e=Af (Aa #[])/\Gg p f W w/\Fu w p f (bs++Du r) (bs++Du r).length:=by
 obtain⟨ad,j,i,A,a,n,c,rfl⟩:=h.row;have N:=h.lt;have L:=h.le;have P:n=bs.length:=by
  rcases i.2 with⟨F,H⟩|⟨g,v,C,e,_⟩
  ·cases F;exact H.symm
  cases e;rfl
 subst P;have HO:=T i;have HR:=T j;have x:Am X 131 #[G a bs.length c,I .i32 r] W λe s=>∃g b,e=Af (G (U ⟨g,0,Y⟩) (bs.length+(Du r).length) b)/\Hid (TC W p f g b (bs++Du r) t (s.setCell ⟨p,0,Y⟩ (G (U ⟨g,0,Y⟩) (bs.length+(Du r).length) b)))/\Hid (s.heap[p]?=U (E #[G a bs.length c,I K t] 341)):=by
  refine(Any.utf8_AppendRune_plain Tryz.lays242 M f (G a bs.length c) bs.length (bs.map Cg) r Q R W i J A).mono ?_;rintro e s ⟨v',rfl,q,ac,B⟩;rw[TD,Eo]at q;have hk:=(NJ r).1;rcases q.2 with⟨_,h0⟩|⟨g,b,C,rfl,_⟩
  ·omega
  have z:=(B.block p (As (BC j)) (λe=>Ao (Fa i e.symm))).trans ((BT _ _ _ (BC j)).trans j);exact⟨g,b,Z,jf A N L i q B z,z⟩
 have S:=BB j 0;obtain⟨m,l⟩:∃m,(Du r).length=m:=⟨_,rfl⟩
 have k:Hid ((bs++Du r).length=bs.length+m/\m<=4):=⟨by rw[BK,l],by rw[<-l];exact(NJ r).2⟩
 rw[l]at x;have aa:=k.2;go_enter func238,ntmps238
 go_wp2_with(first
  |(go_at_call 131;refine x.mono ?_;rintro e o ⟨g5,b,rfl,d,u⟩;have S:=BB u 0;have f0:=Dx o p 0 _ _ u;have V:=BB d.row 0;have f6:=Dx _ p 1 _ _ d.row;have ab:=BB d.row 1;rw[k.1]at V)
  )
 go_end0;refine⟨Z,d.keep.trans XK,?_⟩;have y:=XM d.gat;have D:(((bs++Du r).length:Nat):Int)=(bs.length:Int)+m:=by rw[k.1];omega
 rw[D]at y;exact y
def jY{l:A1}(a:L4 l=true)(h:Cw l c=1):L4 (l++[c])=true:=by
 match l,a with
 |[],_ =>
  unfold Cw at h;simp only[]at h;split at h
  ·cases h
  split at h
  ·cases h
  exact CH J
 |[b0],a =>
  have d:=CD a;unfold Cw at h;simp only[]at h;split at h
  ·cases h
  split at h
  ·cases h
  exact CH J
 |[b0,b1],a =>
  have d:=CD a;have e:=QP (b:=b0) J;unfold Cw at h;simp only[]at h;split at h
  ·cases h
  split at h
  ·cases h
  exact CH J
 |[b0,b1,b2],a =>
  unfold Cw at h;simp only[]at h;split at h
  ·cases h
  cases h
def Ct(bs:A1)(lim:Int):Nat->Nat->A1->Nat->A5 A1
 |0,p,_,_=>.error (9,p)
 |g+1,p,acc,wh=>match bs[p]? with
  |none=>.error (9,p)
  |some c=>if(p:Int)=lim then .error (8,p)else
   if c.toNat=34/\wh=acc.length then .ok (acc,p+1)else
   if c.toNat=92/\wh=acc.length then(match Fw bs lim (p+1)with
    |.error e=>.error e
    |.ok (r,q)=>Ct bs lim g q (acc++Du r) (acc++Du r).length)else
   if c.toNat<32 then .error (9,p)else if Cw (acc.drop wh) c=0 then .error (9,p)else
   Ct bs lim g (p+1) (acc++[c]) (if Cw (acc.drop wh) c=2 then acc.length+1 else wh)
def jZ(h:FU bs lim p=.ok (r,q)):(0<=r/\r<=1114111)/\p+4<=q:=by
 unfold FU at h;split at h
 ·cases h
 next x q1 hx =>
 obtain⟨a,d⟩:=QV hx;split at h
 ·cases h
 split at h
 ·next hhi =>
  have b:=CD (show decide (55296<=x/\x<=56319)=true from hhi);split at h
  ·cases h
  next q2 hr =>
  split at h
  ·cases h
  next y q3 hy =>
  obtain⟨e,f⟩:=QV hy;split at h
  ·next hlo =>
   have c:=CD (show decide (56320<=y/\y<=57343)=true from hlo);cases h;have:q1<=q2:=by
    unfold Ci at hr;split at hr
    ·cases hr
    split at hr
    ·cases hr
    split at hr
    ·unfold Ci at hr;split at hr
     ·cases hr
     split at hr
     ·cases hr
     split at hr
     ·unfold Ci at hr;cases hr;omega
     cases hr
    cases hr
   omega
  cases h
 cases h;simp at a;omega
def TN(h:Fw bs lim p=.ok (r,q)):(0<=r/\r<=1114111)/\p+1<=q:=by
 unfold Fw at h;split at h
 ·cases h
 split at h
 ·cases h
 repeat' split at h
 all_goals first
  |(cases h;omega)
  |(have:=jZ h;omega)
  |cases h
def Y9{wf:Nat}(d:wh<=acc.length)(e:L4 (acc.drop wh)=true)(f:¬Cw (acc.drop wh) c=0)(a:(if Cw (acc.drop wh) c=2 then acc.length+1 else wh)=wf):L4 ((acc++[c]).drop wf)=true:=by
 by_cases b:Cw (acc.drop wh) c=2
 ·rw[BA b]at a;subst a;rw[K9 Az];rfl
 rw[Bz b]at a;subst a;rw[Ot d];refine jY e ?_;have g:Cw (acc.drop wh) c=0\/Cw (acc.drop wh) c=1\/Cw (acc.drop wh) c=2:=by
  unfold Cw
  repeat' split
  all_goals simp
 omega
def P3{Q:Exit->Act->O->Prop}{a:Act}(h:Q .ret a w):Exit.noGoto Q .ret a w:=h
structure GF(W:World)(b:Nat)(s:BO)(p:Nat)(acc:A1)(wh:Nat)(V:World):Prop where
 src:BD V b {s with pos:=p}
 but:BF b W V
 box:V.heap[W.heap.size]?=some (.cells #[.pointer (some ⟨b,0,none⟩)] 147)
 gat:Fu V (W.heap.size+1) (W.heap.size+2) acc wh
def GF.take{s:BO}(h:GF W b s p acc wh V)(hb:b<W.heap.size)(c:BD V' b {s with pos:=q})(a:BF b V V'):GF W b s q acc wh V' :=
 ⟨c,h.but.trans a,(a.block _ (BC h.box) J).trans h.box,h.gat.but a J J⟩
def GF.below{s:BO}(h:GF W b s p acc wh V)(a:A0 V V'):GF W b s p acc wh V' :=
 ⟨h.src.below a,h.but.trans (BF.of_below a),(a.block _ (BC h.box)).trans h.box,h.gat.below a⟩
def GF.keep{s:BO}(h:GF W b s p acc wh V)(d:BD W b s)(a:Gg (W.heap.size+1) (W.heap.size+2) V V')(e:Fu V' (W.heap.size+1) (W.heap.size+2) acc' wh'):GF W b s p acc' wh' V' :=
 ⟨d.same rfl rfl h.src (λk c=>a.block k J J),⟨a.os.trans h.but.os,a.tape.trans h.but.tape,a.output.trans h.but.output,C7 h.but.size a.size,λk c f=>(a.block k J J).trans (h.but.block k c f)⟩,(a.block _ J J).trans h.box,e⟩
def TO:∀w:O,(convert 38 9 (G Y 0 0)).run X w=.ok (A9 ⟨#[]⟩) w:=λw=>M
def P4{v:Al}(h:BG W base v bs):(convert 38 9 v).run X W=.ok (A9 ⟨bs.toArray⟩) W:=by
 have b:=h;obtain⟨⟨k,d⟩,l,m⟩:=h;rcases d with⟨rfl,c⟩|⟨g,a,i,rfl,n⟩
 ·have:bs=[]:=J9 c;subst this;exact TO W
 refine Sw W 38 9 5 ⟨g,0,Y⟩ a bs underlying38 underlying5 underlying9 ?_;intro j f;have e:(⟨g,0,Y⟩:Addr).add j=⟨g,j,Y⟩:=AX
 rw[e];exact(NI b).2 j f
def ke{s:BO}(h:BD W b s):GF W b s s.pos [] 0 ((W.alloc (E #[A8 (U ⟨b,0,Y⟩)] 147)).alloc (E #[G Y 0 0,I K 0] 341)):=by
 have a:A0 W ((W.alloc (E #[A8 (U ⟨b,0,Y⟩)] 147)).alloc (E #[G Y 0 0,I K 0] 341)):=(BN).alloc Az _;have c:=BI (W.alloc (E #[A8 (U ⟨b,0,Y⟩)] 147)) (E #[G Y 0 0,I K 0] 341);rw[BU]at c;refine⟨h.below a,BF.of_below a,?_,⟨⟨_,c,?_⟩,J,BM _⟩⟩
 ·have d:=BI W (E #[A8 (U ⟨b,0,Y⟩)] 147);exact(BT _ _ _ Az).trans d
 refine⟨FQ _ _ _ _,?_,Y,0,0,Z⟩;simp
def Ya(W:O)(b:Nat)(s:BO)(h:BD W b s)(ht:U8 W)(h7:7<b)(a6:s.bs.length<=200000000):Am X 231 #[Ab #[A8 (U ⟨b,0,Y⟩)]] W (ED W b s (λl:A1=>A9 ⟨l.toArray⟩) (Ct s.bs s.lim (s.bs.length+1-s.pos) s.pos [] 0)):=by
 have au:=T (ke h);have aa:=T h;have HT:=T ht;have C:=BC h.row;have a1:=h.le;obtain⟨R,H⟩:∃R,Hid (Ct s.bs s.lim (s.bs.length+1-s.pos) s.pos [] 0=R):=⟨_,show _=_ from rfl⟩
 rw[H.out];go_enter func231,ntmps231;go_wp2;go_step3;go_wp2;go_step3;go_wp2;generalize(W.alloc (E #[A8 (U ⟨b,0,Y⟩)] 147)).alloc (E #[G Y 0 0,I K 0] 341)=W0 at *
 go_loopg[4,8] (s.bs.length+1-s.pos) (λg _ _ wr=>∃(p:Nat) (f:A1) (j:Nat),Hid (s.bs.length+1<=p+g)/\Hid (p<=s.bs.length)/\Hid (f.length<=4*p)/\Hid (L4 (f.drop j)=true)/\Hid (GF W b s p f j wr)/\Hid (Ct s.bs s.lim g p f j=R))
 case atStart=>exact⟨s.pos,[],0,AL,a1,kfy,rfl,au,H⟩
 case round =>
  obtain⟨p,f,j,hg,hp,v,an,m,H⟩:=hrel;obtain⟨g,rfl⟩:∃g,gk=g+1:=⟨gk-1,keN⟩
  have t:=BB m.box 0;have HU:Hid (∀V,BF b W V->U8 V):=by
   show∀V,_;intro V B;have hc:∀(q off:Nat) (ai:Al),q<=7->W.cell? ⟨q,off,Y⟩=U ai->V.cell? ⟨q,off,Y⟩=U ai:=λq off ai hq hv=>(Im (w:=W) (B.block q J J)).trans hv;exact⟨λc ay=>hc _ _ _ Ay (HT.1 c ay),λao hi=>⟨hc _ _ _ Ay (HT.2 ao hi).1,hc _ _ _ Ay (HT.2 ao hi).2⟩⟩
  rcases Is m.src with u|u|⟨c,u⟩
  ·have HE:Hid (R=.error (9,(p:Int))):=by
    show _=_;rw[<-H.out,Ct,Dz (by have:p=s.bs.length:=u;omega)]
   have z:=IQ _ b {s with pos:=p} m.src u
   go_wp2_with(first
    |(go_at_call 226;refine z.mono ?_;rintro e D ⟨hF,d⟩;obtain rfl:=hF))
   rw[HE.out];exact⟨Z,m.but.trans (BF.of_below d),Z⟩
  ·have HE:Hid (R=.error (8,(p:Int))):=by
    show _=_;have h2:(p:Int)=s.lim:=u.2;have h3:p<s.bs.length:=u.1;rw[<-H.out,Ct,C6 h3];simp only[];rw[BA h2]
   have z:=IR _ b {s with pos:=p} m.src u
   go_wp2_with(first
    |(go_at_call 226;refine z.mono ?_;rintro e D ⟨hF,d⟩;obtain rfl:=hF))
   rw[HE.out];exact⟨Z,m.but.trans (BF.of_below d),Z⟩
  have az:s.bs[p]?=U c:=u.1;have a0:¬(p:Int)=s.lim:=u.2;have aq:Hid (p<s.bs.length):=u.lt;have k:=H.out;rw[Ct,az]at k;simp only[]at k;rw[Bz a0]at k;have z:Am X 226 #[A8 (U ⟨b,0,Y⟩)] wr λe W'=>e=Af (I .u8 c.toNat)/\BD W' b {s with pos:=p+1}/\BF b wr W':=Ep _ b {s with pos:=p} c m.src u;have A:=λV (B:GF W b s (p+1) f j V)=>XL V (W.heap.size+1) (W.heap.size+2) f j B.gat;have hC:(j=f.length/\c.toNat=34)\/(j=f.length/\c.toNat=92)\/(j=f.length/\c.toNat≠34/\c.toNat≠92)\/(j≠f.length/\c.toNat=34)\/(j≠f.length/\c.toNat=92)\/(j≠f.length/\c.toNat≠34/\c.toNat≠92):=J
  rcases hC with⟨y,N⟩|⟨y,P⟩|⟨y,N,P⟩|⟨y,N⟩|⟨y,P⟩|⟨y,N,P⟩
  ·rw[CH y]at A;rw[BA ⟨N,y⟩]at k;subst k;have ad:((c.toNat:Int)==34)=true:=Ax
   go_wp2_with(first
    |(go_at_call 226;refine z.mono ?_;rintro e D ⟨rfl,o,d⟩;have a:=T (m.take C o d))
    |(go_at_call 237;refine(A _ a).mono ?_;rintro e F ⟨rfl,d⟩;have n:=T (a.below d);obtain⟨v3,r3,o3⟩:=n.gat.row;obtain⟨_,_,a3,n3,c3,rfl⟩:=(show BG F _ _ _ from o3);have a2:=P4 o3;have k3:=BB r3 0))
   refine P3 ?_;go_ret;exact⟨n.but,Z,n.src⟩
  ·rw[CH y]at A;rw[Bz (λhh=>J),BA ⟨P,y⟩]at k;have ad:=BS (c:=c) 34 J;have am:((c.toNat:Int)==92)=true:=Ax
   have cE:=λV (B:GF W b s (p+1) f j V)=>jX V b {s with pos:=p+1} B.src;rcases he:Fw s.bs s.lim (p+1)with⟨en,pl⟩|⟨r,q⟩
   ·rw[he]at k;have ac:∀V,GF W b s (p+1) f j V->Am X 239 #[Ab #[A8 (U ⟨b,0,Y⟩)]] V (ED V b {s with pos:=p+1} (λx:Int=>I .i32 x) (.error (en,pl))):=by rw[<-he];exact cE
    subst k
    go_wp2_with(first
     |(go_at_call 226;refine z.mono ?_;rintro e D ⟨rfl,o,d⟩;have a:=T (m.take C o d);have t:=BB a.box 0)
     |(go_at_call 237;refine(A _ a).mono ?_;rintro e F ⟨rfl,d⟩;have n:=T (a.below d);have a:=n;have t:=BB a.box 0)
     |(go_at_call 239;refine(ac _ a).mono ?_;rintro e w5 ⟨d,hF⟩;obtain rfl:=hF))
    exact⟨Z,a.but.trans d,Z⟩
   rw[he]at k;simp only[]at k;have ac:∀V,GF W b s (p+1) f j V->Am X 239 #[Ab #[A8 (U ⟨b,0,Y⟩)]] V (ED V b {s with pos:=p+1} (λx:Int=>I .i32 x) (.ok (r,q))):=by rw[<-he];exact cE
   have ah:=TN he;have a4:=ah.1.1;have a5:=ah.1.2;have aj:=T ah.2;have HN:=T k;have cC:=λV (B:GF W b s q f j V)=>jg V (W.heap.size+1) (W.heap.size+2) f j r J J B.gat (Aq v.out hp.out);have ar:=T ((NJ r).2)
   go_wp2_with(first
    |(go_at_call 226;refine z.mono ?_;rintro e D ⟨rfl,o,d⟩;have a:=T (m.take C o d);have t:=BB a.box 0)
    |(go_at_call 237;refine(A _ a).mono ?_;rintro e F ⟨rfl,d⟩;have n:=T (a.below d);have a:=n;have t:=BB a.box 0)
    |(go_at_call 239;refine(ac _ a).mono ?_;rintro e w5 ⟨d,rfl,o⟩;have ak:=T (a.take C o d))
    |(go_at_call 238;refine(cC _ ak).mono ?_;rintro e w6 ⟨rfl,ax,aw⟩;have al:=T (ak.keep aa ax aw)))
   go_roundg g
   case measure=>omega
   case rel=>exact⟨q,f++Du r,(f++Du r).length,by show _<=_;have:=hg.out;have:=aj.out;omega,al.src.le,by show _<=_;rw[BK];have:=v.out;have:=aj.out;have:=ar.out;omega,by show _=_;rw[KR];rfl,al,HN⟩
  all_goals
   first|rw[CH y]at A|rw[CO y]at A
   first|have ad:((c.toNat:Int)==34)=true:=Ax|have ad:=BS (c:=c) 34 J
   first|have am:((c.toNat:Int)==92)=true:=Ax|have am:=BS (c:=c) 92 J
   rw[Bz (λhh=>J),Bz (λhh=>J)]at k;by_cases i:c.toNat<32
   ·rw[BA i]at k;subst k;have av:decide ((c.toNat:Int)<32)=true:=Ax
    first
    |exact absurd i J
    |clear i
     try clear N
     try clear P
     go_wp2_with(first
      |(go_at_call 226;refine z.mono ?_;rintro e D ⟨rfl,o,d⟩;have a:=T (m.take C o d);have t:=BB a.box 0)
      |(go_at_call 237;refine(A _ a).mono ?_;rintro e F ⟨rfl,d⟩;have n:Hid (GF W b s (p+1) f j F):=a.below d;have a:=n;have t:=BB a.box 0)
      |(go_at_call 227;refine(EX _ b {s with pos:=p+1} _ a.src).mono ?_;rintro e w7 ⟨hF,rfl⟩;obtain rfl:=hF))
     exact⟨Z,a.but,AZ⟩
   rw[Bz i]at k;have av:decide ((c.toNat:Int)<32)=false:=Ax
   try clear N
   try clear P
   obtain⟨wf,ab⟩:∃wf,Hid ((if Cw (f.drop j) c=2 then f.length+1 else j)=wf):=⟨_,show _=_ from rfl⟩
   have Q:=λV (B:GF W b s (p+1) f j V)=>XN V (W.heap.size+1) (W.heap.size+2) f j c B.gat an.out (HU V B.but) J (Aq v.out hp.out);rw[ab.out]at Q;by_cases S:Cw (f.drop j) c=0
   ·rw[BA S]at k;subst k;have ag:(Cw (f.drop j) c != 0)=false:=by rw[S];rfl
    rw[ag]at Q
    go_wp2_with(first
     |(go_at_call 226;refine z.mono ?_;rintro e D ⟨rfl,o,d⟩;have a:=T (m.take C o d);have t:=BB a.box 0)
     |(go_at_call 237;refine(A _ a).mono ?_;rintro e F ⟨rfl,d⟩;have n:=T (a.below d);have a:=n;have t:=BB a.box 0)
     |(go_at_call 240;refine(Q _ a).mono ?_;rintro e w4 ⟨rfl,af,ae⟩;have L:=T (a.keep aa af ae);have t:=BB L.box 0)
     |(go_at_call 227;refine(EX _ b {s with pos:=p+1} _ L.src).mono ?_;rintro e w7 ⟨hF,rfl⟩;obtain rfl:=hF))
    exact⟨Z,L.but,AZ⟩
   rw[Bz S,ab.out]at k;have HN:=T k;have ag:(Cw (f.drop j) c != 0)=true:=by simpa using S
   rw[ag]at Q;have ap:=T (Y9 m.gat.le an.out S ab)
   go_wp2_with(first
    |(go_at_call 226;refine z.mono ?_;rintro e D ⟨rfl,o,d⟩;have a:=T (m.take C o d);have t:=BB a.box 0)
    |(go_at_call 237;refine(A _ a).mono ?_;rintro e F ⟨rfl,d⟩;have n:=T (a.below d);have a:=n;have t:=BB a.box 0)
    |(go_at_call 240;refine(Q _ a).mono ?_;rintro e w4 ⟨rfl,af,ae⟩;have L:=T (a.keep aa af ae);have t:=BB L.box 0))
   go_roundg g
   case measure=>omega
   case rel=>exact⟨p+1,f++[c],wf,ke5,aq,by show _<=_;rw[BK];have:=v.out;simp;omega,ap,L,HN⟩
def Dr(bs:A1)(lim:Int):Nat->Nat->A1->Nat->A5 A1
 |0,p,acc,wh=>if wh=acc.length then .ok (acc,p)else .error (9,(p:Int)-1)
 |k+1,p,acc,wh=>match bs[p]? with
  |none=>.error (9,p)
  |some c=>if(p:Int)=lim then .error (8,p)else if Cw (acc.drop wh) c=0 then .error (9,p)else
   Dr bs lim k (p+1) (acc++[c]) (if Cw (acc.drop wh) c=2 then acc.length+1 else wh)
structure IV(W:World)(b:Nat)(fv:Value)(s:BO)(p:Nat)(acc:A1)(wh:Nat)(V:World):Prop where
 src:BD V b {s with pos:=p}
 but:BF b W V
 box:V.heap[W.heap.size]?=some (.cells #[.pointer (some ⟨b,0,none⟩),fv] 150)
 gat:Fu V (W.heap.size+1) (W.heap.size+2) acc wh
def IV.take{fv:Al}{s:BO}(h:IV W b fv s p acc wh V)(hb:b<W.heap.size)(c:BD V' b {s with pos:=q})(a:BF b V V'):IV W b fv s q acc wh V' :=
 ⟨c,h.but.trans a,(a.block _ (BC h.box) J).trans h.box,h.gat.but a J J⟩
def IV.below{fv:Al}{s:BO}(h:IV W b fv s p acc wh V)(a:A0 V V'):IV W b fv s p acc wh V' :=
 ⟨h.src.below a,h.but.trans (BF.of_below a),(a.block _ (BC h.box)).trans h.box,h.gat.below a⟩
def IV.keep{fv:Al}{s:BO}(h:IV W b fv s p acc wh V)(d:BD W b s)(a:Gg (W.heap.size+1) (W.heap.size+2) V V')(e:Fu V' (W.heap.size+1) (W.heap.size+2) acc' wh'):IV W b fv s p acc' wh' V' :=
 ⟨d.same rfl rfl h.src (λk c=>a.block k J J),⟨a.os.trans h.but.os,a.tape.trans h.but.tape,a.output.trans h.but.output,C7 h.but.size a.size,λk c f=>(a.block k J J).trans (h.but.block k c f)⟩,(a.block _ J J).trans h.box,e⟩
def kg{s:BO}(a:Al)(h:BD W b s):IV W b a s s.pos [] 0 ((W.alloc (E #[A8 (U ⟨b,0,Y⟩),a] 150)).alloc (E #[G Y 0 0,I K 0] 341)):=by
 have c:A0 W ((W.alloc (E #[A8 (U ⟨b,0,Y⟩),a] 150)).alloc (E #[G Y 0 0,I K 0] 341)):=(BN).alloc Az _;have d:=BI (W.alloc (E #[A8 (U ⟨b,0,Y⟩),a] 150)) (E #[G Y 0 0,I K 0] 341);rw[BU]at d;refine⟨h.below c,BF.of_below c,?_,⟨⟨_,d,?_⟩,J,BM _⟩⟩
 ·have e:=BI W (E #[A8 (U ⟨b,0,Y⟩),a] 150);exact(BT _ _ _ Az).trans e
 refine⟨FQ _ _ _ _,?_,Y,0,0,Z⟩;simp
def Yb(W:O)(b:Nat)(s:BO)(f n:Nat)(hn:n<18446744073709551616)(h:BD W b s)(ht:U8 W)(h7:7<b)(ap:s.bs.length<=200000000):Am X 261 #[Ab #[A8 (U ⟨b,0,Y⟩),.func (.func f) #[] #[]],I .u64 n] W (MB W b s (λl:A1=>A9 ⟨l.toArray⟩) (Dr s.bs s.lim n s.pos [] 0)):=by
 have ac:Hid (IV W b (.func (.func f) #[] #[]) s s.pos [] 0 ((W.alloc (E #[A8 (U ⟨b,0,Y⟩),.func (.func f) #[] #[]] 150)).alloc (E #[G Y 0 0,I K 0] 341))):=kg _ h;have ab:=T h;have Q:=T ht;have ad:=BC h.row;have al:=h.le;obtain⟨R,t⟩:∃R,Hid (Dr s.bs s.lim n s.pos [] 0=R):=⟨_,show _=_ from rfl⟩
 rw[t.out];clear h ht;go_enter func261,ntmps261;go_wp2;generalize(W.alloc (E #[A8 (U ⟨b,0,Y⟩),.func (.func f) #[] #[]] 150)).alloc (E #[G Y 0 0,I K 0] 341)=W0 at *
 go_loopg[7] n (λg am wr=>∃(k p:Nat) (d:A1) (r:Nat),am=I .u64 k/\Hid (k+g=n)/\Hid (p<=s.bs.length)/\Hid (d.length<=p)/\Hid (L4 (d.drop r)=true)/\Hid (IV W b (.func (.func f) #[] #[]) s p d r wr)/\Hid (Dr s.bs s.lim g p d r=R))
 case atStart=>exact⟨0,s.pos,[],0,rfl,AD,al,kfy,rfl,ac,t⟩
 case round =>
  clear ac t;obtain⟨k,p,d,r,rfl,L,hp,ha,ae,a,t⟩:=hrel;have N:=BB a.box 0;have HU:Hid (∀V,BF b W V->U8 V):=by
   show∀V,_;intro V H;have hc:∀(q off:Nat) (aa:Al),q<=7->W.cell? ⟨q,off,Y⟩=U aa->V.cell? ⟨q,off,Y⟩=U aa:=λq off aa hq hv=>(Im (w:=W) (H.block q J J)).trans hv;exact⟨λc ai=>hc _ _ _ Ay (Q.1 c ai),λaf hi=>⟨hc _ _ _ Ay (Q.2 af hi).1,hc _ _ _ Ay (Q.2 af hi).2⟩⟩
  cases gk with
  |zero =>
   have hk:k=n:=Ao L.out
   subst hk;have o:=t.out;rw[Dr]at o;have A:=XL wr (W.heap.size+1) (W.heap.size+2) d r a.gat;clear t L;by_cases B:r=d.length
   ·rw[BA B]at o;subst o;rw[CH B]at A;clear B
    go_wp2_with(first
     |(go_at_call 237;refine A.mono ?_;clear A N;rintro e w3 ⟨rfl,j⟩;have u:=T (a.below j);clear a j;obtain⟨v3,r3,o3⟩:=u.gat.row;obtain⟨_,_,a3,n3,c3,rfl⟩:=(show BG w3 _ _ _ from o3);have an:=P4 o3;have k3:=BB r3 0))
    go_ret;exact⟨u.but,Z,u.src⟩
   rw[Bz B]at o;subst o;rw[CO B]at A;clear B
   go_wp2_with(first
    |(go_at_call 237;refine A.mono ?_;clear A N;rintro e w3 ⟨rfl,j⟩;have u:=T (a.below j);clear a j;have N:=BB u.box 0)
    |(go_at_call 227;refine(EX _ b {s with pos:=p} _ u.src).mono ?_;rintro e w7 ⟨hF,rfl⟩;obtain rfl:=hF))
   exact⟨Z,u.but,Z,_,u.src⟩
  |succ g =>
   have ao:k<n:=Ao L.out
   have e1:decide ((k:Int)<(n:Int))=true:=Ax
   have e2:decide (k<n)=true:=Ax
   rcases Is a.src with m|m|⟨c,m⟩
   ·have P:Hid (R=.error (9,(p:Int))):=by
     show _=_;rw[<-t.out,Dr,Dz (by have:p=s.bs.length:=m;omega)]
    have x:=IQ _ b {s with pos:=p} a.src m;clear t m
    go_wp2_with(first
     |(go_at_call 226;refine x.mono ?_;clear x;rintro e w2 ⟨hF,j⟩;obtain rfl:=hF))
    rw[P.out];exact⟨Z,a.but.trans (BF.of_below j),Z,_,a.src.below j⟩
   ·have P:Hid (R=.error (8,(p:Int))):=by
     show _=_;have h2:(p:Int)=s.lim:=m.2;have h3:p<s.bs.length:=m.1;rw[<-t.out,Dr,C6 h3];simp only[];rw[BA h2]
    have x:=IR _ b {s with pos:=p} a.src m;clear t m
    go_wp2_with(first
     |(go_at_call 226;refine x.mono ?_;rintro e w2 ⟨hF,j⟩;obtain rfl:=hF))
    rw[P.out];exact⟨Z,a.but.trans (BF.of_below j),Z,_,a.src.below j⟩
   have aj:s.bs[p]?=U c:=m.1;have ak:¬(p:Int)=s.lim:=m.2;have ah:Hid (p<s.bs.length):=m.lt;have o:=t.out;rw[Dr,aj]at o;simp only[]at o;rw[Bz ak]at o;have x:Am X 226 #[A8 (U ⟨b,0,Y⟩)] wr λe W'=>e=Af (I .u8 c.toNat)/\BD W' b {s with pos:=p+1}/\BF b wr W':=Ep _ b {s with pos:=p} c a.src m;obtain⟨wf,S⟩:∃wf,Hid ((if Cw (d.drop r) c=2 then d.length+1 else r)=wf):=⟨_,show _=_ from rfl⟩
   have D:=λV (H:IV W b (.func (.func f) #[] #[]) s (p+1) d r V)=>XN V (W.heap.size+1) (W.heap.size+2) d r c H.gat ae.out (HU V H.but) J (Aq ha.out hp.out);rw[S.out]at D;by_cases F:Cw (d.drop r) c=0
   ·rw[BA F]at o;subst o;have v:(Cw (d.drop r) c != 0)=false:=by rw[F];rfl
    rw[v]at D
    go_wp2_with(first
     |(go_at_call 226;refine x.mono ?_;rintro e w2 ⟨rfl,hS,j⟩;have C:=T (a.take ad hS j))
     |(go_at_call 240;refine(D _ C).mono ?_;rintro e w4 ⟨rfl,i,z⟩;have y:=T (C.keep ab i z);have N:=BB y.box 0)
     |(go_at_call 227;refine(EX _ b {s with pos:=p+1} _ y.src).mono ?_;rintro e w7 ⟨hF,rfl⟩;obtain rfl:=hF))
    exact⟨Z,y.but,AZ,_,y.src⟩
   rw[Bz F,S.out]at o;have HN:=T o;have v:(Cw (d.drop r) c != 0)=true:=by simpa using F
   rw[v]at D;have ag:=T (Y9 a.gat.le ae.out F S)
   go_wp2_with(first
    |(go_at_call 226;refine x.mono ?_;rintro e w2 ⟨rfl,hS,j⟩;have C:=T (a.take ad hS j))
    |(go_at_call 240;refine(D _ C).mono ?_;rintro e w4 ⟨rfl,i,z⟩;have y:=T (C.keep ab i z)))
   go_roundg g
   case measure=>omega
   case rel=>exact⟨k+1,p+1,d++[c],wf,AE,Ap L.out,ah,by show _<=_;rw[BK];have:=ha.out;simp;omega,ag,y,HN⟩
end
section
open Go.RowKit
def F0(rd:Nat->Except (Int×Int) (DataW Unit×Nat)):Nat->Nat->List (DataW Unit)->Except (Int×Int) (List (DataW Unit)×Nat)
 |0,p,acc=>.ok (acc,p)
 |k+1,p,acc=>match rd p with
  |.error e=>.error e
  |.ok (d,q)=>F0 rd k q (acc++[d])
def E3(hd:Nat->Nat×Nat×Nat)(bs:A1)(lim:Int)(ks:List A1)(p:Nat):A5 A1 :=
 match bs[p]? with
 |none=>.error (9,p)
 |some c=>if(p:Int)=lim then .error (8,p)else if(hd c.toNat).1=8 then
   match D4 bs lim (hd c.toNat).2.1 (p+1) (hd c.toNat).2.2 with
   |.error e=>.error e
   |.ok (x,q)=>match Dr bs lim x q [] 0 with
    |.error e=>.error e
    |.ok (l,r)=>if l∈ks then .error (12,(r:Int)-1)else .ok (l,r)
  else .error (9,p)
def F1(kf:List A1->Nat->A5 A1)(rd:Nat->Except (Int×Int) (DataW Unit×Nat)):Nat->Nat->List A1->List (Lit×DataW Unit)->Except (Int×Int) (List (Lit×DataW Unit)×Nat)
 |0,p,_,acc=>.ok (acc,p)
 |k+1,p,ks,acc=>match kf ks p with
  |.error e=>.error e
  |.ok (l,q)=>match rd q with
   |.error e=>.error e
   |.ok (d,r)=>F1 kf rd k r (l::ks) (acc++[(.string l,d)])
def F2(bs:A1)(lim:Int)(li:Nat->Nat->Except (Int×Int) (List (DataW Unit)×Nat))(ma:Nat->Nat->Except (Int×Int) (List (Lit×DataW Unit)×Nat))(so w x q:Nat):Except (Int×Int) (DataW Unit×Nat) :=
 match so with
 |2=>.ok (.lit (.bool false),q)
 |3=>.ok (.lit (.bool true),q)
 |4=>match DC 4 w x q with
  |.error e=>.error e
  |.ok z=>.ok (.lit (.int .i64 z),q)
 |5=>match DC 5 w x q with
  |.error e=>.error e
  |.ok z=>.ok (.lit (.int .i64 z),q)
 |6=>match DC 6 w x q with
  |.error e=>.error e
  |.ok z=>.ok (.lit (.int .i64 z),q)
 |7=>match EZ bs lim x q []with
  |.error e=>.error e
  |.ok (l,r)=>.ok (.ptr (.lit (.string l)),r)
 |8=>match Dr bs lim x q [] 0 with
  |.error e=>.error e
  |.ok (l,r)=>.ok (.lit (.string l),r)
 |9=>match li x q with
  |.error e=>.error e
  |.ok (ds,r)=>.ok (.agg ds,r)
 |10=>match ma x q with
  |.error e=>.error e
  |.ok (es,r)=>.ok (.map es,r)
 |_=>.ok (.nil,q)
def D5(hd:Nat->Nat×Nat×Nat)(bs:A1)(lim depth:Int):Nat->Nat->Nat->Except (Int×Int) (DataW Unit×Nat)
 |0,_,_=>.error (0,0)
 |g+1,wi,p=>match bs[p]? with
  |none=>.error (9,p)
  |some c=>if(p:Int)=lim then .error (8,p)else if(hd c.toNat).1=0 then .error (9,p)else
   if((hd c.toNat).1=9\/(hd c.toNat).1=10)/\(wi:Int)=depth then .error (11,p)else
   match D4 bs lim (hd c.toNat).2.1 (p+1) (hd c.toNat).2.2 with
   |.error e=>.error e
   |.ok (x,q)=>F2 bs lim (λx q=>F0 (D5 hd bs lim depth g (wi+1)) x q []) (λx q=>F1 (E3 hd bs lim) (D5 hd bs lim depth g (wi+1)) x q [] []) (hd c.toNat).1 (hd c.toNat).2.1 x q
def P5{hd:Nat->Nat×Nat×Nat}{depth:Int}{g wi:Nat}{so w ar:Nat}(a:bs[p]?=U c)(b:¬(p:Int)=lim)(d:hd c.toNat=(so,w,ar)):D5 hd bs lim depth (g+1) wi p=(if so=0 then .error (9,(p:Int))else if(so=9\/so=10)/\(wi:Int)=depth then .error (11,(p:Int))else
   match D4 bs lim w (p+1) ar with
   |.error e=>.error e
   |.ok (x,q)=>F2 bs lim (λx q=>F0 (D5 hd bs lim depth g (wi+1)) x q []) (λx q=>F1 (E3 hd bs lim) (D5 hd bs lim depth g (wi+1)) x q [] []) so w x q):=by
 conv=>lhs;unfold D5
 rw[a];simp only[];rw[Bz b,d]
def P6(k:Nat)(W:Ak)(b:Nat)(s:BO)(r:Except (Int×Int) (DataW Unit×Nat))(e:Ending)(W':Ak):Prop :=
 BF b W W'/\match r with
 |.ok (d,p)=>(∃t y,e=Af (Ad t y)/\BQ k W' (λj=>W.heap.size<=j/\j<W'.heap.size) (Ad t y) d)/\BD W' b {s with pos:=p}
 |.error (en,pl)=>C0 en pl e/\∃p,BD W' b {s with pos:=p}
def TR(k f b:Nat)(s:BO)(W0:Ak)(rd:Nat->Except (Int×Int) (DataW Unit×Nat)):Prop :=
 ∀(V:Ak) (p:Nat),BD V b {s with pos:=p}->BF b W0 V->Am prog 257 #[Ab #[A8 (some ⟨b,0,none⟩),.func (.func f) #[] #[]]] V (P6 k V b {s with pos:=p} (rd p))
structure JR(k:Nat)(W:World)(b:Nat)(fv:Value)(s:BO)(p:Nat)(v:Value)(ds:List (DataW Unit))(V:World):Prop where
 src:BD V b {s with pos:=p}
 but:BF b W V
 box:V.heap[W.heap.size]?=some (.cells #[.pointer (some ⟨b,0,none⟩),fv] 150)
 own:∃xs,V.ownsRow (W.heap.size+1) 56 1 v ds.length xs/\∀(i:Nat) (x:Value) (d:A2),xs[i]?=some x->ds[i]?=some d->BQ k V (λj=>W.heap.size+1<=j/\j<V.heap.size/\some j≠v.ownBlock) x d
 size:W.heap.size+1<=V.heap.size
def QX{t:TypeId}{size:Nat}{v:Al}{n:Nat}{xs:List Al}(h:W.ownsRow base t size v n xs)(k:BF b W W')(m:b<base):W'.ownsRow base t size v n xs:=by
 obtain⟨i,a⟩:=h;refine⟨i,?_⟩;rcases a with a|⟨g,d,f,e,l,c,j⟩
 ·exact .inl a
 exact .inr ⟨g,d,f,e,l,(k.block g (BC c) J).trans c,j⟩
def JR.but'{k:Nat}{fv v:Al}{s:BO}(h:JR k W b fv s p v ds V)(hb:b<W.heap.size)(l:BD V' b {s with pos:=q})(a:BF b V V'):JR k W b fv s q v ds V':=by
 obtain⟨n,e,f⟩:=h.own;refine⟨l,h.but.trans a,(a.block _ (BC h.box) J).trans h.box,⟨n,QX e a J,λi x d m g=>?_⟩,C7 h.size a.size⟩;refine(f i x d m g).same (λj c=>⟨c.1,CA c.2.1 a.size,c.2.2⟩) (λj c=>a.block j c.2.1 J)
def kh{s:BO}(k:Nat)(a:Al)(h:BD W b s):JR k W b a s s.pos (G Y 0 0) [] (W.alloc (E #[A8 (U ⟨b,0,Y⟩),a] 150)):=by
 have c:A0 W (W.alloc (E #[A8 (U ⟨b,0,Y⟩),a] 150)):=BN;exact⟨h.below c,BF.of_below c,BI W _,⟨[],FQ _ _ _ _,λi x d e=>by simp at e⟩,Az⟩
def JR.push{k:Nat}{fv v v' x:Al}{s:BO}{d:A2}{xs:List Al}{V0:O}(h:JR k W b fv s p v ds V)(z:BD W b s)(u:V.ownsRow (W.heap.size+1) 56 1 v ds.length xs)(D:∀(i:Nat) (x:Al) (d:A2),xs[i]?=U x->ds[i]?=U d->BQ k V (λj=>W.heap.size+1<=j/\j<V.heap.size/\U j≠v.ownBlock) x d)(A:BQ k V (λj=>V0.heap.size<=j/\j<V.heap.size) x d)(C:∀g,v.ownBlock=U g->g<V0.heap.size)(H:W.heap.size+1<=V0.heap.size)(B:w5.ownsRow (W.heap.size+1) 56 1 v' (ds.length+1) (xs++[x]))(f:(V.alloc (E #[x] 56)).grownBy w5 v.ownBlock)(n:v'.ownBlock=v.ownBlock\/v'.ownBlock=U (V.alloc (E #[x] 56)).heap.size):JR k W b fv s p v' (ds++[d]) w5:=by
 have P:=h.size;have L:V.heap.size+1<=w5.heap.size:=Au f.size
 have key:∀g,v.ownBlock=U g->W.heap.size+1<=g:=λg f=>Fa u f;have q:∀j,j<V.heap.size->U j≠v.ownBlock->w5.heap[j]?=V.heap[j]?:=λj a m=>(f.block j Ax m).trans (BT _ _ _ a);have r:∀j,j<W.heap.size+1->w5.heap[j]?=V.heap[j]?:=λj a=>q j J (λe=>keK);refine⟨z.same Z Z h.src (λj a=>r j J),⟨f.os.trans h.but.os,f.tape.trans h.but.tape,f.output.trans h.but.output,Ao h.but.size,λj a m=>(r j J).trans (h.but.block j a m)⟩,(r _ J).trans h.box,⟨xs++[x],by rw[BK];exact B,λi y c o l=>?_⟩,J⟩;have t:∀j,j<V.heap.size->U j≠v.ownBlock->U j≠v'.ownBlock:=λj a m=>by
  rcases n with n|n
  ·rw[n];exact m
  rw[n];intro e;injection e with e;simp at e;omega
 have F:xs.length=ds.length:=Ao u.1
 by_cases N:i<ds.length
 ·rw[F6 J]at o l;exact(D i y c o l).same (λj a=>⟨a.1,Ao a.2.1,t j a.2.1 a.2.2⟩) (λj a=>q j a.2.1 a.2.2)
 have e:i=ds.length:=by
  have:=Cf l;rw[BK]at this;simp at this;omega
 subst e;rw[Ez J]at l;rw[Ez J,F]at o;simp at o l;subst o;subst l;have w:∀j,V0.heap.size<=j->U j≠v.ownBlock:=λj a e=>Ao (C j e.symm)
 exact A.same (λj a=>⟨J,J,t j a.2 (w j a.1)⟩) (λj a=>q j a.2 (w j a.1))
def P7{t:TypeId}{size:Nat}{v:Al}{n:Nat}{xs:List Al}(h:V.ownsRow base t size v n xs):∀g,v.ownBlock=U g->g<V.heap.size:=λg a=>by
 rcases h.2 with⟨b,_⟩|⟨f,d,e,rfl,i,c,_⟩
 ·subst b;cases a
 cases a;exact BC c
def JR.row{k:Nat}{fv v:Al}{s:BO}(h:JR k W b fv s p v ds V):BQ (k+1) V (λj=>W.heap.size<=j/\j<V.heap.size) (Ad 153 v) (.agg ds):=by
 obtain⟨u,a,m⟩:=h.own;unfold BQ;refine⟨v,u,Z,⟨a.1,?_⟩,λi x d t q=>(m i x d t q).same (λj r=>⟨J,r.2.1⟩) (λ_ _=>rfl)⟩;rcases a.2 with n|⟨g,f,l,e,w,c,o⟩
 ·exact .inl n
 exact .inr ⟨g,f,l,e,⟨J,(BC c)⟩,c,o⟩
def Tryz.infoThing:(prog.info? 56).map (λi=>(i.zero,i.size,i.bytes))=U (U .nilIface,1,16):=M
def km(k:Nat)(W:O)(b:Nat)(s:BO)(f n:Nat)(x:Nat->Except (Int×Int) (DataW Unit×Nat))(hn:n<18446744073709551616)(h:BD W b s)(a0:s.bs.length<=200000000)(v:TR k f b s W x)(u:∀p d q,x p=.ok (d,q)->p<q):Am X 262 #[Ab #[A8 (U ⟨b,0,Y⟩),.func (.func f) #[] #[]],I .u64 n] W (NH W b s (λV aa o=>(∃a n c,aa=G a n c)/\BQ (k+1) V (λj=>W.heap.size<=j/\j<V.heap.size) (Ad 153 aa) (.agg o)) (F0 x n s.pos [])):=by
 obtain⟨i0,hi,ar,au,av⟩:=DZ Tryz.infoThing;have P:Hid (JR k W b (.func (.func f) #[] #[]) s s.pos (G Y 0 0) [] (W.alloc (E #[A8 (U ⟨b,0,Y⟩),.func (.func f) #[] #[]] 150))):=kh _ _ h;have ag:=T h;have af:=T v;have ad:=T u;have ak:=BC h.row;have am:=h.le;obtain⟨R,r⟩:∃R,Hid (F0 x n s.pos []=R):=⟨_,show _=_ from rfl⟩
 rw[r.out];clear h v u;go_enter func262,ntmps262;go_wp2;generalize W.alloc (E #[A8 (U ⟨b,0,Y⟩),.func (.func f) #[] #[]] 150)=W0 at *
 go_loopg[5,7] n (λg y aw wr=>∃(m p:Nat) (a:A4) (l c:Nat) (o:List (DataW Unit)),y=G a l c/\aw=I .u64 m/\Hid (m+g=n)/\Hid (p<=s.bs.length)/\Hid (o.length<=p)/\Hid (JR k W b (.func (.func f) #[] #[]) s p (G a l c) o wr)/\Hid (F0 x g p o=R))
 case atStart=>exact⟨0,s.pos,Y,0,0,[],rfl,rfl,AD,am,kfy,P,r⟩
 case round =>
  clear P r;obtain⟨m,p,a,l,c0,o,rfl,rfl,C,hp,S,i,r⟩:=hrel;have kb:=BB i.box 0;have a2:=BB i.box 1
  cases gk with
  |zero =>
   have hk:m=n:=Ao C.out
   subst hk;have F:Hid (R=.ok (o,p)):=r.symm;clear r C;go_wp2;go_ret;rw[F.out];exact⟨i.but,⟨_,Z,⟨_,_,_,Z⟩,i.row⟩,i.src⟩
  |succ g =>
   have az:m<n:=Ao C.out
   have e1:decide ((m:Int)<(n:Int))=true:=Ax
   have e2:decide (m<n)=true:=Ax
   have B:=af.out wr p i.src i.but;have w:=r.out;rw[F0]at w
   cases D:x p with
   |error er =>
    rw[D]at w B;simp only[]at w;obtain⟨en,pl⟩:=er;have F:=T w.symm;clear r w D
    go_wp2_with(first
     |(go_at_call 257;refine B.mono ?_;clear B;rintro e A ⟨L,hF⟩;obtain⟨hF,pz,ao⟩:=(show C0 en pl e/\∃p,BD A b {s with pos:=p}from hF);obtain rfl:=hF))
    rw[F.out];exact⟨Z,i.but.trans L,Z,pz,ao⟩
   |ok dq =>
    obtain⟨d,q⟩:=dq;rw[D]at w B;simp only[]at w;have a1:=ad.out p d q D;have HN:=T w;have ay:o.length<=200000000:=Aq S.out hp.out
    have ac:Hid (o.length+1<=q):=by show _<=_;have:=S.out;omega
    have ah:=T i.size;have ae:Hid (∀g,(Value.slice a l c0).ownBlock=U g->g<wr.heap.size):=by obtain⟨xs,h1,_⟩:=i.own;exact P7 h1
    go_wp2_with(first
     |(go_at_call 257;refine B.mono ?_;rintro e A ⟨L,hF⟩;obtain⟨⟨t,y,rfl,hd⟩,Q⟩:=(show(∃t y,e=Af (Ad t y)/\BQ k A (λj=>wr.heap.size<=j/\j<A.heap.size) (Ad t y) d)/\BD A b {s with pos:=q}from hF);have H:=T (i.but' ak Q L);have HD:=T hd;have HQ:Hid (q<=s.bs.length):=Q.le;obtain⟨xs,an,aq⟩:=H.own;have N:=T an;have aj:=T aq;have ab:=T H.size)
     |(at_builtin;refine MH _ Z _ _ 153 Z (W.heap.size+1) 56 i0 .nilIface 1 16 underlying153 hi ar au av Z Ay _ _ _ Z (N.alloc _) ⟨A.heap.size,0,Y⟩ 1 1 [Ad t y] Z Z (EE _ _ _) (λa3 hu=>by simp at hu;subst hu;rfl) Ay AC J (Ar ab.out) ?_;intro v' w5 z al ap;have ai:=T (H.push ag N aj HD ae ah z al ap);obtain⟨g5,ax,rfl⟩:=ownsRow_succ z))
    go_roundg g
    case measure=>omega
    case rel=>exact⟨m+1,q,_,_,_,o++[d],rfl,AE,Ap C.out,HQ,by show _<=_;rw[BK];exact ac,ai,HN⟩
def Yg{P:Program}{c:Code}{Q:Exit->Act->O->Prop}{a:Act}(T:Nat->O->Prop)(b:Nat->Act)(d:(∀x V,T x V->Q .normal (b x) V)->c.wp P Q a w)(e:∀x V,T x V->Q .normal (b x) V):c.wp P Q a w:=d e
def ko(W:O)(b k:Nat)(s:BO)(u:FrameMode)(h:BD W b s)(d:s.within=k+1)(j:s.within<=1000000):CallsD X 249 #[A8 (U ⟨b,0,Y⟩)] u W λe f a=>f=u/\(e=Af (Aa #[])/\BD a b {s with within:=k}/\BF b W a):=by
 have l:W.cell? ⟨b,4,Y⟩=U (I K ((k:Int)+1)):=by
  have:=BB h.row 4;rw[this];show U (Value.int K (s.within:Int))=_;rw[d];rfl
 have g:=Dx W b 4 _ _ h.row;have c:Hid (BD (W.setCell ⟨b,4,Y⟩ (I K k)) b {s with within:=k}/\BF b W (W.setCell ⟨b,4,Y⟩ (I K k))):=TP k 0 h;have i:k<=1000000:=J
 refine callsD_of_wp (R:=λe a=>e=Af (Aa #[])/\BD a b {s with within:=k}/\BF b W a) func249 Z ?_;simp only[ntmps249,Hm,Cu,DX,Nat.reduceAdd,Nat.reduceSub,Mj,Mk,Mo,Ml,Jd,I4];go_wp2;go_end0;exact⟨Z,c.1,c.2⟩
def Yh(W:O)(b:Nat)(s:BO)(f:Nat)(t:Int)(h:BD W b s)(r:∀V,BD V b s->Am X 226 #[A8 (U ⟨b,0,Y⟩)] V λe m=>C0 t s.pos e/\A0 V m):Am X 257 #[Ab #[A8 (U ⟨b,0,Y⟩),.func (.func f) #[] #[]]] W λe m=>BF b W m/\C0 t s.pos e/\∃p,BD m b {s with pos:=p}:=by
 have l:=T h;have y:A0 W (W.alloc (E #[A8 (U ⟨b,0,Y⟩),.func (.func f) #[] #[]] 150)).drew:=(BN).drew;have g:=T y;have u:Hid ((W.alloc (E #[A8 (U ⟨b,0,Y⟩),.func (.func f) #[] #[]] 150)).drew.heap[W.heap.size]?=U (E #[A8 (U ⟨b,0,Y⟩),.func (.func f) #[] #[]] 150)):=BI W _
 go_enter_defers func257,ntmps257
 go_wp2_with fail
 refine Ec (S:=λV=>V.heap[W.heap.size]?=U (E #[A8 (U ⟨b,0,Y⟩),.func (.func f) #[] #[]] 150)) M ?_;have d:=u.out;refine D3 (i:=0) (v:=A8 (U ⟨W.heap.size,1,Y⟩)) Z M M M (λc a w h=>LQ results257 5 Ay _ c a w h) (.inl ⟨Z,λV k=>rfl⟩) d ?_;refine D3 (i:=1) (v:=.func (.func f) #[] #[]) rfl M M M (λc a w h=>LQ results257 6 Ay _ c a w h) (.inl ⟨rfl,λV k=>?y1⟩) d ?_
 case y1=>(have x:=BB k 1;go_simp)
 refine D3 (i:=2) (v:=A8 (U ⟨W.heap.size,0,Y⟩)) Z M M M (λc a w h=>LQ results257 7 Ay _ c a w h) (.inl ⟨Z,λV k=>rfl⟩) d ?_;refine D3 (i:=3) (v:=A8 (U ⟨b,0,Y⟩)) Z M M M (λc a w h=>LQ results257 8 Ay _ c a w h) (.inl ⟨Z,λV k=>?y3⟩) d ?_
 case y3=>(have x:=BB k 0;go_simp)
 refine Hq 4 6 (λq o=>?_) (λq o=>?_)
 ·go_simp;refine(r _ (l.below g)).mono ?_;rintro e A ⟨hF,j⟩;obtain rfl:=hF;exact⟨(BF.of_below g).trans (BF.of_below j),Z,_,(l.below g).below j⟩
 go_simp;have z:((W.alloc (E #[A8 (U ⟨b,0,Y⟩),.func (.func f) #[] #[]] 150)).drew.alloc (E #[I K 0,I K 0,I .u64 0] 201)).heap[W.heap.size]?=_:=(BT _ _ _ (BC d)).trans d;have n:A0 W ((W.alloc (E #[A8 (U ⟨b,0,Y⟩),.func (.func f) #[] #[]] 150)).drew.alloc (E #[I K 0,I K 0,I .u64 0] 201)):=g.alloc g.size _;refine o.out _ _ z (λ_=>?_);refine C9 4 (λq o=>?_);go_simp;refine(r _ (l.below n)).mono ?_;rintro e A ⟨hF,j⟩;obtain rfl:=hF;exact⟨(BF.of_below n).trans (BF.of_below j),Z,_,(l.below n).below j⟩
end
end Go.Proofs.YtnlnjkggkbbdhaaGreatDoor
