import Derived.Lib.MakeNoZero
import Derived.Laws.CopyOwn
import Derived.Lib.MapLaws
import Derived.Test.YtnlnjkggkbbdhaaGreatDoorTq18
import Derived.Test.YtnlnjkggkbbdhaaGreatDoorTq21
set_option maxRecDepth 100000
set_option maxHeartbeats 8000000
set_option linter.all false
namespace Go.Proofs.YtnlnjkggkbbdhaaGreatDoor
open Go.Proofs.Tryz
open Go.Value renaming int->I,slice->G
open Option renaming some->U,none->Y
open Go.IntKind renaming i64->K
open Go renaming World->O
open Go.Obj renaming cells->E
open Go.Proofs.Tryz renaming prog->X
open Go.Value renaming int->A6,slice->A7,pointer->A8,string->A9,tuple->Aa,bool->Ac,iface->Ad
open Go.Ending renaming returned->Af
open Go.IntKind renaming i64->Ag
open Option renaming some->Ai,none->Aj
open Go renaming World->Ak,Value->Al,Calls->Am
variable{V V' W W' W0:O}{N base f k mn n size:Nat}{sv u v:Al}{p:List (A1×Bool)}{F:Nat->Prop}{xs:List Al}{sts sts':List ((Nat->Nat)×Int×Int)}{A cs:A3}{fr:Nat×Nat}{q:Cs}{mf nf:Lit->Option Nat}{ds:List (DataW Unit)}{es:List (Lit×DataW Unit)}{c:BX}
section
open Go.RowKit
def BG.mono{b b':Nat}{bs:A1}(h:BG W b v bs)(hb:b'<=b):BG W b' v bs:=by
 obtain⟨⟨f,a⟩,k,i⟩:=h;refine⟨⟨f,?_⟩,J,i⟩;rcases a with a|⟨g,c,d,e,l,j⟩
 ·exact .inl a
 exact .inr ⟨g,c,d,e,J,j⟩
structure NT(V:World)(p:Nat)(fin d l:Int)(bv:Value):Prop where
 b0:Boxed V p 3 (.int .i64 fin)
 b1:Boxed V (p+1) 3 (.int .i64 d)
 b2:Boxed V (p+2) 3 (.int .i64 l)
 b3:Boxed V (p+3) 38 bv
def Iv(W:Ak)(fin d l:Int)(bv:Al):Ak:=(((W.alloc (.cells #[A6 Ag fin] 3)).alloc (.cells #[A6 Ag d] 3)).alloc (.cells #[A6 Ag l] 3)).alloc (.cells #[bv] 38)
def lD(W:O)(fin d l:Int)(a:Al):NT (Iv W fin d l a) W.heap.size fin d l a:=by
 unfold Iv;refine⟨(((Boxed.new W _ _).alloc _).alloc _).alloc _,?_,?_,?_⟩
 ·have:=Boxed.new (W.alloc (E #[I K fin] 3)) 3 (I K d);simp only[BU,A0]at this;exact(this.alloc _).alloc _
 ·have:=Boxed.new ((W.alloc (E #[I K fin] 3)).alloc (E #[I K d] 3)) 3 (I K l);simp only[BU,A0]at this;exact this.alloc _
 have:=Boxed.new (((W.alloc (E #[I K fin] 3)).alloc (E #[I K d] 3)).alloc (E #[I K l] 3)) 38 a;simp only[BU,A0]at this;exact this
def lE(W:O)(fin d l:Int)(a:Al):A0 W (Iv W fin d l a):=by
 unfold Iv;exact(((BN).alloc Az _).alloc Ax _).alloc Ax _
def NT.below{p:Nat}{fin d l:Int}{bv:Al}(h:NT V p fin d l bv)(a:A0 V V'):NT V' p fin d l bv :=
 ⟨(a.block _ h.b0.lt).trans h.b0,(a.block _ h.b1.lt).trans h.b1,(a.block _ h.b2.lt).trans h.b2,(a.block _ h.b3.lt).trans h.b3⟩
def lF(V:O)(c:Int)(t:TypeId)(y:Al)(d:A1)(l:(c==1)=false)(f:Am X 39 #[I K c,Ad t y] V λe a=>∃b,e=Af b/\BG a V.heap.size b d/\A0 V a):Am X 19 #[I K c,Ad t y] V λe a=>∃b,e=Af (Aa #[b,I K 0])/\BG a V.heap.size b d/\A0 V a:=by
 go_enter func19,ntmps19
 go_wp2_with(first
  |(go_at_call 39;refine f.mono ?_;rintro e p ⟨o,rfl,g,j⟩;obtain⟨h,i,k,n,m,rfl⟩:=g))
 go_ret2
 exact⟨_,Z,⟨h,i,_,_,_,Z⟩,j⟩
def lG(V:O)(t:TypeId)(y:Al)(f:A1)(h:Am X 38 #[Ad t y] V λe g=>e=Af (Ac false)/\A0 V g)(i:∀c,A0 V c->Am X 39 #[I K 1,Ad t y] c λe a=>∃b,e=Af b/\BG a V.heap.size b f/\Below V.heap.size c a):Am X 19 #[I K 1,Ad t y] V λe a=>∃b,e=Af (Aa #[b,I K 0])/\BG a V.heap.size b f/\A0 V a:=by
 go_enter func19,ntmps19
 go_wp2_with(first
  |(go_at_call 38;refine h.mono ?_;rintro e o ⟨rfl,d⟩;have j:=i o d)
  |(go_at_call 39;refine j.mono ?_;rintro e u ⟨s,rfl,k,n⟩;obtain⟨l,m,p,r,q,rfl⟩:=k))
 go_ret2
 exact⟨_,Z,⟨l,m,_,_,_,Z⟩,d.trans n⟩
def L7(k:Nat)(W:Ak)(r:Except (Int×Int) (DataW Unit))(e:Ending)(W':Ak):Prop :=
 A0 W W'/\match r with
 |.ok d=>∃t y,e=Af (Aa #[Ad t y,A6 Ag 0,A6 Ag 0])/\BQ k W' (λj=>W.heap.size<=j/\j<W'.heap.size) (Ad t y) d
 |.error (en,pl)=>e=Af (Aa #[.nilIface,A6 Ag en,A6 Ag pl])
def lH(k:Nat)(W:O)(B:A3)(r:Except (Int×Int) (DataW Unit))(z:Am X 17 B ((W.alloc (E #[I K 0] 31)).alloc (E #[I K 0] 3)) (He k ((W.alloc (E #[I K 0] 31)).alloc (E #[I K 0] 3)) r)):Am X 16 #[.func (.func 17) #[] B] W (L7 k W r):=by
 have ab:∀(C:Fn) (first A:A3) (w:O),(Instr.makeFunc C first A).run X w=.ok (.func C first A) w:=λ_ _ _ _=>rfl;have v:A0 W ((W.alloc (E #[I K 0] 31)).alloc (E #[I K 0] 3)):=(BN).alloc Az _;have H:=Boxed.new W 31 (I K 0);have s:=Boxed.new (W.alloc (E #[I K 0] 31)) 3 (I K 0);have L:=H.alloc (E #[I K 0] 3);rw[BU]at s;have g:Hid (A0 W ((W.alloc (E #[I K 0] 31)).alloc (E #[I K 0] 3))):=v;have h:Hid (Boxed ((W.alloc (E #[I K 0] 31)).alloc (E #[I K 0] 3)) W.heap.size 31 (I K 0)):=L;have i:Hid (Boxed ((W.alloc (E #[I K 0] 31)).alloc (E #[I K 0] 3)) (W.heap.size+1) 3 (I K 0)):=s;clear v H s L
 go_enter_defers func16,ntmps16
 go_wp2_with fail
 refine z.mono ?_;clear z;rcases r with⟨Q,pl⟩|d
 ·rintro e a ⟨b,hF⟩;obtain rfl:=hF;have q1:Boxed a W.heap.size 31 (I K 0):=(b.block _ h.lt).trans h;have c:Boxed a (W.heap.size+1) 3 (I K 0):=(b.block _ i.lt).trans i;have l:A0 W a:=g.trans (b.mono g.size);have o:Hid (Boxed a W.heap.size 31 (I K 0)):=q1;have p:Hid (Boxed a (W.heap.size+1) 3 (I K 0)):=c;have n:Hid (A0 W a):=l;clear q1 c l b g h i;go_wp2;refine OM (f:=36) (args:=#[A8 (U ⟨W.heap.size,0,Y⟩),A8 (U ⟨W.heap.size+1,0,Y⟩)]) Az keS ?_;refine(YE W.heap.size (W.heap.size+1) Q pl 0 0 a o.cell p.cell o.frozen p.frozen J).mono ?_;rintro e u' N ⟨rfl,rfl,x,c2,P⟩;have q:A0 W N:=n.trans (P _ (BM _) J n.size);simp[Leaves,settle,results,results16,go_sem,x,c2,L7,q]
 rintro e a ⟨b,F⟩;obtain⟨t,y,rfl,D⟩:=(show∃t y,e=Af (Ad t y)/\BQ k a (λj=>((W.alloc (E #[I K 0] 31)).alloc (E #[I K 0] 3)).heap.size<=j/\j<a.heap.size) (Ad t y) d from F)
 have u:Hid (BQ k a (λj=>W.heap.size+2<=j/\j<a.heap.size) (Ad t y) d):=D.same (λj m=>⟨by have:=m.1;simp only[BU,A0]at this;omega,m.2⟩) (λ_ _=>rfl);clear F D;have q1:Boxed a W.heap.size 31 (I K 0):=(b.block _ h.lt).trans h;have c:Boxed a (W.heap.size+1) 3 (I K 0):=(b.block _ i.lt).trans i;have l:A0 W a:=g.trans (b.mono g.size);have o:Hid (Boxed a W.heap.size 31 (I K 0)):=q1;have p:Hid (Boxed a (W.heap.size+1) 3 (I K 0)):=c;have n:Hid (A0 W a):=l;have x:=q1.cell;have f1:=q1.frozen;have c2:=c.cell;have f2:=c.frozen;clear q1 c l b g h i;go_wp2;have R:=grownBy_setCell' a W.heap.size (I K 0);have S:=grownBy_setCell' (a.setCell ⟨W.heap.size,0,Y⟩ (I K 0)) (W.heap.size+1) (I K 0);have t1:=((o.set (I K 0)).kept S AB).cell;have t2:=(Boxed.set (I K 0) (p.kept R AB)).cell;have q:A0 W ((a.setCell ⟨W.heap.size,0,Y⟩ (I K 0)).setCell ⟨W.heap.size+1,0,Y⟩ (I K 0)) :=
  n.trans ⟨rfl,rfl,rfl,AJ,λk hk=>(CP _ _ _ _ Ax).trans (CP a _ _ _ Ax)⟩
 have aa:BQ k ((a.setCell ⟨W.heap.size,0,Y⟩ (I K 0)).setCell ⟨W.heap.size+1,0,Y⟩ (I K 0)) (λj=>W.heap.size<=j/\j<((a.setCell ⟨W.heap.size,0,Y⟩ (I K 0)).setCell ⟨W.heap.size+1,0,Y⟩ (I K 0)).heap.size) (Ad t y) d:=u.same (λj m=>⟨J,by simp[World.setCell];exact m.2⟩) (λj m=>(CP _ _ _ _ Ax).trans (CP a _ _ _ Ax));clear u;generalize(a.setCell ⟨W.heap.size,0,Y⟩ (I K 0)).setCell ⟨W.heap.size+1,0,Y⟩ (I K 0)=V at *;refine OM (f:=36) (args:=#[A8 (U ⟨W.heap.size,0,Y⟩),A8 (U ⟨W.heap.size+1,0,Y⟩)]) Az keS ?_;refine(YD ⟨W.heap.size,0,Y⟩ ⟨W.heap.size+1,0,Y⟩ V).mono ?_;rintro e u' N ⟨rfl,rfl,rfl⟩;simp[Leaves,settle,results,results16,go_sem,t1,t2,L7,q];exact⟨t,y,⟨Z,Z⟩,aa⟩
def lI(k:Nat)(W:O)(v:A3)(r:Except (Int×Int) (DataW Unit))(D:Am X 58 v ((W.alloc (E #[I K 0] 31)).alloc (E #[I K 0] 3)) (He k ((W.alloc (E #[I K 0] 31)).alloc (E #[I K 0] 3)) r)):Am X 16 #[.func (.func 58) #[] v] W (L7 k W r):=by
 have aa:∀(x:Fn) (first u:A3) (w:O),(Instr.makeFunc x first u).run X w=.ok (.func x first u) w:=λ_ _ _ _=>rfl;have B:A0 W ((W.alloc (E #[I K 0] 31)).alloc (E #[I K 0] 3)):=(BN).alloc Az _;have R:=Boxed.new W 31 (I K 0);have z:=Boxed.new (W.alloc (E #[I K 0] 31)) 3 (I K 0);have S:=R.alloc (E #[I K 0] 3);rw[BU]at z;have h:=T B;have l:=T S;have m:=T z
 go_enter_defers func16,ntmps16
 go_wp2_with fail
 refine D.mono ?_;rcases r with⟨F,pl⟩|d
 ·rintro e a ⟨b,hF⟩;obtain rfl:=hF;have q1:Boxed a W.heap.size 31 (I K 0):=(b.block _ l.lt).trans l;have g:Boxed a (W.heap.size+1) 3 (I K 0):=(b.block _ m.lt).trans m;have p:=h.trans (b.mono h.size);have n:=T q1;have o:=T g;have i:=T p;go_wp2;refine OM (f:=36) (args:=#[A8 (U ⟨W.heap.size,0,Y⟩),A8 (U ⟨W.heap.size+1,0,Y⟩)]) Az keS ?_;refine(YE W.heap.size (W.heap.size+1) F pl 0 0 a n.cell o.cell n.frozen o.frozen J).mono ?_;rintro e u' w3 ⟨rfl,rfl,s,c2,C⟩;have q:=i.trans (C _ (BM _) J i.size);simp[Leaves,settle,results,results16,go_sem,s,c2,L7,q]
 rintro e a ⟨b,Q⟩;obtain⟨t,y,rfl,N⟩:=(show∃t y,e=Af (Ad t y)/\BQ k a (λj=>((W.alloc (E #[I K 0] 31)).alloc (E #[I K 0] 3)).heap.size<=j/\j<a.heap.size) (Ad t y) d from Q)
 have A:Hid (BQ k a (λj=>W.heap.size+2<=j/\j<a.heap.size) (Ad t y) d):=N.same (λj c=>⟨by have:=c.1;simp only[BU,A0]at this;omega,c.2⟩) (λ_ _=>rfl);have q1:Boxed a W.heap.size 31 (I K 0):=(b.block _ l.lt).trans l;have g:Boxed a (W.heap.size+1) 3 (I K 0):=(b.block _ m.lt).trans m;have p:=h.trans (b.mono h.size);have n:=T q1;have o:=T g;have i:=T p;have s:=q1.cell;have f1:=q1.frozen;have c2:=g.cell;have f2:=g.frozen;go_wp2;have H:=grownBy_setCell' a W.heap.size (I K 0);have L:=grownBy_setCell' (a.setCell ⟨W.heap.size,0,Y⟩ (I K 0)) (W.heap.size+1) (I K 0);have t1:=((n.set (I K 0)).kept L AB).cell;have t2:=(Boxed.set (I K 0) (o.kept H AB)).cell;have q:A0 W ((a.setCell ⟨W.heap.size,0,Y⟩ (I K 0)).setCell ⟨W.heap.size+1,0,Y⟩ (I K 0)) :=
  i.trans ⟨rfl,rfl,rfl,AJ,λk hk=>(CP _ _ _ _ Ax).trans (CP a _ _ _ Ax)⟩
 have P:BQ k ((a.setCell ⟨W.heap.size,0,Y⟩ (I K 0)).setCell ⟨W.heap.size+1,0,Y⟩ (I K 0)) (λj=>W.heap.size<=j/\j<((a.setCell ⟨W.heap.size,0,Y⟩ (I K 0)).setCell ⟨W.heap.size+1,0,Y⟩ (I K 0)).heap.size) (Ad t y) d:=A.same (λj c=>⟨J,by simp[World.setCell];exact c.2⟩) (λj c=>(CP _ _ _ _ Ax).trans (CP a _ _ _ Ax));generalize(a.setCell ⟨W.heap.size,0,Y⟩ (I K 0)).setCell ⟨W.heap.size+1,0,Y⟩ (I K 0)=V at *;refine OM (f:=36) (args:=#[A8 (U ⟨W.heap.size,0,Y⟩),A8 (U ⟨W.heap.size+1,0,Y⟩)]) Az keS ?_;refine(YD ⟨W.heap.size,0,Y⟩ ⟨W.heap.size+1,0,Y⟩ V).mono ?_;rintro e u' w3 ⟨rfl,rfl,rfl⟩;simp[Leaves,settle,results,results16,go_sem,t1,t2,L7,q];exact⟨t,y,⟨Z,Z⟩,P⟩
def lJ(fm:Int):Nat:=if fm=1 then 32 else 0
end
section
open Go.RowKit Go.Lib
def lU{P:Program}{ev:Operand->Al}{o:Oper}(a:TypeId)(x:Operand)(lo hi:Option Operand)(d:o.op=.slice a x lo hi Y){X:Al}{L H:Option Al}(e:ev x=X)(c:lo.map ev=L)(b:hi.map ev=H)(h:(Instr.sliceAt a X L H Y).run P W=.ok v W):(execOp ev o).run P W=.ok (.value v) W:=by
 unfold execOp;simp only[d,e,c,b,Option.map_none,Ei,h,EA];rfl
def YQ(fm:Int)(bs:A1):List Int->Option A1
 |[]=>Aj
 |x::B=>if(bs.length:Int)<=x then Ai (bs++List.replicate (x.toNat-bs.length) (UInt8.ofNat (lJ fm)))else YQ fm bs B
def NW(fm:Int)(bs:A1)(B:List Int):Option A1:=if B.length=0 then Ai bs else YQ fm bs B
def lV(W:Ak)(base:Nat)(r:Option A1)(e:Ending)(W':Ak):Prop :=
 (∃v',e=Af (Aa #[v',Ac r.isSome])/\(r=Aj->v'=A7 Aj 0 0)/\∀l,r=Ai l->BG W' base v' l)/\Below base W W'
def U4(fm:Int)(B:List Int):Prop:=∀(W:Ak) (base:Nat) (v:Al) (bs:A1) (ba:A4) (bc:Nat),BG W base v bs->IN W ba B->bs.length<=999999999->Am prog 60 #[A6 Ag fm,v,A7 ba B.length bc] W (lV W base (NW fm bs B))
def lW(fm:Int):U4 fm []:=by
 intro W c v f b d h _ _;have a:=T h;go_enter func60,ntmps60;go_wp2
 go_ret2
 exact⟨⟨_,rfl,(λe=>by cases e),λl e=>by cases e;exact a.out⟩,C5 _ _⟩
structure Rv where
 rs:List (List (Nat×A1)×Int×Int)
 dflt:Int
 m:Nat->Nat->Bool
 clr:Nat
 key:Int
abbrev Cl:=Nat×Nat×Nat×Nat
def IA(f:A2->Cl->Option (DataW Unit)×Cl)(ds:List (DataW Unit))(R:Cl):List (DataW Unit)×Cl :=
 ds.foldl (λa d=>(a.1++(f d a.2).1.toList,(f d a.2).2)) ([],R)
def am(f:A1->A2->Cl->Option (DataW Unit)×Cl)(es:List (Lit×DataW Unit))(R:Cl):List (Lit×DataW Unit)×Cl :=
 es.foldl (λa e=>(a.1++((f (Cq e.1) e.2 a.2).1.map λd=>(e.1,d)).toList,(f (Cq e.1) e.2 a.2).2)) ([],R)
def JZ(rw:List (A1×Bool)->A2->Cl->Option (DataW Unit)×Cl)(p:List (A1×Bool))(d:A2)(R:Cl):DataW Unit×Cl :=
 match d with
 |.agg ds=>(.agg (IA (rw (([],true)::p)) ds R).1,(IA (rw (([],true)::p)) ds R).2)
 |.map es=>(.map (am (λkey=>rw ((key,false)::p)) es R).1,(am (λkey=>rw ((key,false)::p)) es R).2)
 |d=>(d,R)
def De(c:Rv):Nat->List (A1×Bool)->A2->Cl->Option (DataW Unit)×Cl
 |0,_,_,R=>(Aj,R)
 |k+1,p,d,R =>
  if c.m (DF c.dflt c.rs p.reverse).1.toNat c.clr=true then(Ai (JZ (De c k) p d (R.1+1,R.2)).1,(JZ (De c k) p d (R.1+1,R.2)).2)
  else if(DF c.dflt c.rs p.reverse).2=2 then(Ai (.lit (.string [42,42,42])),(R.1,R.2.1,R.2.2.1+1,R.2.2.2))
  else if(DF c.dflt c.rs p.reverse).2=3 then(Ai (.lit (.string (EM c.key (DF c.dflt c.rs p.reverse).1.toNat (CC (k+1) d)))),(R.1,R.2.1,R.2.2.1,R.2.2.2+1))
  else(Aj,(R.1,R.2.1+1,R.2.2.1,R.2.2.2))
def DH:Nat->A2->Nat
 |0,_=>0
 |k+1,d=>match d with
  |.agg ds=>2+(ds.map λd=>1+DH k d).sum
  |.map es=>1+(es.map λe=>2+DH k e.2).sum
  |_=>1
structure Rc where
 v:Rv
 W0:World
 A:Nat
 q:Cs
 B:Nat
 O:A3
 n:Nat
 G:World
 own0:Option Nat
def DV(c:Rc)(R:Cl):A3:=c.O++#[A6 Ag c.v.clr,A6 Ag c.v.key,A8 (Ai ⟨c.A,0,Aj⟩),A6 Ag R.1,A6 Ag R.2.1,A6 Ag R.2.2.1,A6 Ag R.2.2.2]
structure GL(c:Rc):Prop where
 ers:c.q.rs=c.v.rs
 edf:c.q.dflt=c.v.dflt
 elf:c.q.lf=EI (Fx c.v.rs)
 eL:c.q.L=2+(Fx c.v.rs).length
 ly:Ky c.v.rs (Fx c.v.rs) c.q.st c.q.tk
 hn:c.v.rs.length<=16
 h8:∀i (h:i<c.v.rs.length),c.v.rs[i].1.length<=8
 hk:∀i (h:i<c.v.rs.length) j (h2:j<c.v.rs[i].1.length),c.v.rs[i].1[j].1<=3/\c.v.rs[i].1[j].2.length<=1000000000
 ord:LK c.O c.n c.v.m
 n6:c.n<=6
 clr:c.v.clr<c.n
 lab:∀p,∃l:Nat,(DF c.v.dflt c.v.rs p).1=l/\l<c.n
 hB:c.W0.heap.size<=c.B
 hG:c.G.heap.size<=c.B
 tab:c.W0.cell? ⟨8,15,none⟩=some (.int .u8 4)
structure CJ(W V:World):Prop where
 size:W.heap.size<=V.heap.size
 row:∀(k:Nat) (cs:A3) (t:TypeId) (fr:Nat×Nat),W.heap[k]?=some (.cells cs t fr)->t≠136->t≠188->t≠191->V.heap[k]?=some (.cells cs t fr)
def CJ.refl(W:O):CJ W W:=⟨BM _,λ_ _ _ _ h _ _ _=>h⟩
def CJ.trans{X:O}(h:CJ W V)(g:CJ V X):CJ W X:=⟨C7 h.size g.size,λk cs t e a b c d=>g.row k cs t e (h.row k cs t e a b c d) b c d⟩
def CJ.of_below(h:A0 W V):CJ W V:=⟨h.size,λk _ _ _ a _ _ _=>(h.block k (BC a)).trans a⟩
def CJ.at_{R:Option Nat}(i:W.heap.size<=V.heap.size)(hb:∀k,k<W.heap.size->U k≠R->V.heap[k]?=W.heap[k]?)(g:∀k,R=U k->∀cs t f,W.heap[k]?=U (E cs t f)->t=136\/t=188\/t=191):CJ W V:=by
 refine⟨i,λk cs t f a b c d=>?_⟩;by_cases e:U k=R
 ·rcases g k e.symm cs t f a with h|h|h
  ·exact absurd h b
  ·exact absurd h c
  exact absurd h d
 exact(hb k (BC a) e).trans a
def Dj.kept{t:TypeId}{G:Nat->Prop}(h:Dj V t size F v n xs)(m:∀k,F k->G k)(q:CJ V V')(i:t≠136)(j:t≠188)(l:t≠191):Dj V' t size G v n xs:=by
 obtain⟨b,a⟩:=h;refine⟨b,?_⟩;rcases a with a|⟨g,d,f,e,o,p,c⟩
 ·exact .inl a
 exact .inr ⟨g,d,f,e,m g o,q.row _ _ _ _ p i j l,c⟩
def BQ.kept{G:Nat->Prop}(a:∀k,F k->G k)(b:CJ V V'):∀{k:Nat} {v:Al} {d:A2},BQ k V F v d->BQ k V' G v d
 |0,_,_,h=>h
 |k+1,v,d,h=>by
  unfold BQ at h ⊢;split at h
  ·exact h
  ·exact h
  ·exact h
  ·exact h
  ·obtain⟨u,e,c⟩:=h;exact⟨u,e,c.kept a b Ay Ay Ay⟩
  ·obtain⟨u,j,e,c,g⟩:=h;exact⟨u,j,e,c.kept a b Ay Ay Ay,λi x d f q=>BQ.kept a b (g i x d f q)⟩
  ·obtain⟨u,j,e,c,g⟩:=h;refine⟨u,j,e,c.kept a b Ay Ay Ay,λi key d f=>?_⟩;obtain⟨l,x,m,n,o,p⟩:=g i key d f;exact⟨l,x,m,n,o,BQ.kept a b p⟩
  exact h
structure D8(c:Rc)(R:Cl)(N:Nat)(sts:List ((Nat->Nat)×Int×Int))(V:World):Prop where
 box:V.heap[c.B]?=some (.cells (DV c R) 191)
 here:∃sa sc nf mn mf,CZ c.W0 c.A c.q sts (.slice sa sts.length sc) nf mn mf V/\MV c.q sts mf/\mn<=N/\sts.length<=N+1/\((Value.slice sa sts.length sc).ownBlock=c.own0\/∃g,(Value.slice sa sts.length sc).ownBlock=some g/\c.G.heap.size<=g)
 fr:c.G.heap.size<=V.heap.size/\∀k,k<c.G.heap.size->k≠c.A->k≠c.q.nb->k≠c.q.mb->some k≠c.own0->V.heap[k]?=c.G.heap[k]?
 few:R.1+R.2.1+R.2.2.1+R.2.2.2<=N
def D8.more{c:Rc}{R:Cl}{M:Nat}(h:D8 c R N sts V)(e:N<=M):D8 c R M sts V:=by
 obtain⟨j,k,i,g,f,a,b,l,m,d⟩:=h.here;exact⟨h.box,⟨j,k,i,g,f,a,b,J,J,d⟩,h.fr,C7 h.few e⟩
def D8.step{c:Rc}{R:Cl}(h:D8 c R N sts V)(hb:A0 V V'):D8 c R N sts V':=by
 obtain⟨m,n,l,j,i,f,g⟩:=h.here;exact⟨(hb.block _ (BC h.box)).trans h.box,⟨m,n,l,j,i,f.next hb,g⟩,⟨C7 h.fr.1 hb.size,λk a b c d e=>(hb.block k (CA a h.fr.1)).trans (h.fr.2 k a b c d e)⟩,h.few⟩
def D8.below{c:Rc}{R:Cl}(h:D8 c R N sts V):Below c.W0.heap.size c.W0 V:=by
 obtain⟨g,i,f,e,d,a,b⟩:=h.here;exact a.below
def KA{kt:TypeId}{m:Nat}{f:Lit->Option Nat}(h:Dv W kt m n f){t:TypeId}(b:W.heap[m]?=U (E cs t fr)):False:=by
 obtain⟨D,⟨d,c,a,_⟩,_⟩:=h;rw[b]at a;cases a
def RD{e:TypeId}(i:W.ownsRow base e size v n xs){g:Nat}(h:v.ownBlock=U g){t:TypeId}(a:W.heap[g]?=U (E cs t fr)):t=e:=by
 rcases i.2 with⟨b,_⟩|⟨c,j,k,b,_,f,_⟩
 ·rw[b]at h;cases h
 rw[b]at h;injection h with h;have d:c=g:=h;rw[<-d,f]at a;injection a with a;injection a with _ a _;exact a.symm
def pW{A:Nat}(h:CZ W0 A q sts sv nf mn mf W)(f:Iy A q sv W V):CJ W V:=by
 refine⟨f.size,λk cs t g a b c d=>?_⟩;refine(f.block k (BC a) (λe=>?_) (λe=>?_) (λe=>?_) (λe=>?_)).trans a
 ·exact c (RD h.states e.symm a)
 ·subst e;have:=h.row;rw[a]at this;injection this with this;injection this with _ this _;exact b this
 ·subst e;exact KA h.numbers a
 subst e;exact KA h.moves a
def an{c:Rc}(h:GL c)(R:Cl):(DV c R).size=44:=by simp[DV,h.ord.size]
def CZ.off{A:Nat}{B:Nat}(h:CZ W0 A q sts sv nf mn mf W)(w:W0.heap.size<=B)(a:W.grownBy W' (U B)){t:TypeId}(c:W.heap[B]?=U (E cs t fr))(k:t≠136)(l:t≠188)(m:t≠132):CZ W0 A q sts sv nf mn mf W':=by
 obtain⟨f,b,v⟩:=h.takes;have n:A≠B:=by
  rintro rfl;have:=h.row;rw[c]at this;injection this with this;injection this with _ this _;exact k this
 have o:q.tb≠B:=by
  rintro e;rw[e]at b;rw[c]at b;injection b with b;injection b with _ b _;exact m b
 have p:q.lm≠B:=λe=>KA h.letters (e▸c);have r:q.nb≠B:=λe=>KA h.numbers (e▸c);have s:q.mb≠B:=λe=>KA h.moves (e▸c);have u:∀g,sv.ownBlock=U g->g≠B:=λg e j=>l (RD h.states e (j▸c));exact{h with
  row:=(a.block A (BC h.row) (by simpa using n)).trans h.row
  below:=⟨a.os.trans h.below.os,a.tape.trans h.below.tape,a.output.trans h.below.output,C7 h.below.size a.size,λi d=>(a.block i (CA d h.below.size) Ax).trans (h.below.block i d)⟩
  letters:=h.letters.kept a keH
  takes:=⟨f,(a.block _ (BC b) keG).trans b,v⟩
  states:=Pk h.states λg e=>a.block g (Pj h.states e) (by simpa using u g e)
  numbers:=h.numbers.kept a B4
  moves:=h.moves.kept a ke2}
def pX(W:O)(B j:Nat)(v:Al):W.grownBy (W.setCell ⟨B,j,Y⟩ v) (U B) :=
 ⟨rfl,rfl,rfl,AJ,λk _ a=>CP _ _ _ _ AO⟩
def D8.count{c:Rc}{R R':Cl}(h:D8 c R N sts V)(ok:GL c)(j:Nat)(x:Nat)(o:(DV c R).setIfInBounds j (I K x)=DV c R')(n:R'.1+R'.2.1+R'.2.2.1+R'.2.2.2<=N+1):D8 c R' (N+1) sts (V.setCell ⟨c.B,j,Y⟩ (I K x))/\CJ V (V.setCell ⟨c.B,j,Y⟩ (I K x)):=by
 obtain⟨s,u,r,q,p,i,l,w,y,m⟩:=h.here;have g:=pX V c.B j (I K x);refine⟨⟨?_,⟨s,u,r,q,p,i.off ok.hB g h.box Ay Ay Ay,l,J,J,m⟩,⟨C7 h.fr.1 g.size,λk a b c d e=>(g.block k (CA a h.fr.1) (λe=>by have:=ok.hG;injection e with e;omega)).trans (h.fr.2 k a b c d e)⟩,n⟩,CJ.at_ (R:=U c.B) g.size g.block (λk e cs t v f=>?_)⟩
 ·rw[ET V _ _ _ _ _ h.box,o]
 injection e with e;subst e;rw[h.box]at f;injection f with f;injection f with _ f _;exact .inr (.inr f.symm)
def IZ(c:Rc)(sts:List ((Nat->Nat)×Int×Int))(f:Nat)(p:List (A1×Bool)):Prop:=∃s,sts[f]?=Ai s/\MY c.v.rs p s.1
def Gs(sts sts':List ((Nat->Nat)×Int×Int)):Prop:=∀(j:Nat) (x:(Nat->Nat)×Int×Int),sts[j]?=Ai x->sts'[j]?=Ai x
def IZ.pre{c:Rc}(h:IZ c sts f p)(d:Gs sts sts'):IZ c sts' f p:=by
 obtain⟨s,a,b⟩:=h;exact⟨s,d _ _ a,b⟩
def Gs.trans{a b d:List ((Nat->Nat)×Int×Int)}(h:Gs a b)(g:Gs b d):Gs a d:=λj x c=>g j x (h j x c)
def Gs.refl(a:List ((Nat->Nat)×Int×Int)):Gs a a:=λ_ _ h=>h
def pY(c:Rc)(R:Cl)(N:Nat)(sts:List ((Nat->Nat)×Int×Int))(p:List (A1×Bool))(V:Ak)(e:Ending)(V':Ak):Prop :=
 ∃(f':Nat) (sts':List ((Nat->Nat)×Int×Int)),e=Af (A6 Ag f')/\D8 c R (N+1) sts' V'/\CJ V V'/\Gs sts sts'/\IZ c sts' f' p
def D8.next{c:Rc}{R:Cl}(h:D8 c R N sts V)(ok:GL c)(hN:N<90000)(S:IZ c sts f p)(key:A1)(o:Bool)(hb:key.length<=maxLen):Am X 168 #[A8 (U ⟨c.A,0,Y⟩),I K f,.agg #[A9 ⟨key.toArray⟩,Ac o]] V (pY c R N sts ((key,o)::p) V):=by
 obtain⟨sa,sc,nf,mn,mf,i,D,u,h4,l⟩:=h.here;obtain⟨s,F,H⟩:=S;have ai:=aj ok.hn ok.h8;have hx:Iz c.q.lf key o<c.q.L:=by rw[ok.elf,ok.eL];exact py _ _
 refine(ny c.W0 c.A c.q sts sa sc nf mn mf V i D J J f s F key o hb _ Z hx (by rw[ok.eL];omega)).mono ?_;rintro e z ⟨C,ae,ac,ad,aa,t,r,rfl,k1,k2,k3,k4,k5,af,ah,k6,y,k8,hF,m⟩;have P:=pW i hF;have Q:z.heap[c.B]?=U (E (DV c R) 191):=by
  refine(hF.block c.B (BC h.box) (λe=>?_) (λe=>?_) (λe=>?_) (λe=>?_)).trans h.box
  ·exact absurd (RD i.states e.symm h.box) Ay
  ·have:=i.row;rw[<-e,h.box]at this;injection this with this;injection this with _ this _;exact absurd this Ay
  ·exact KA i.numbers (e▸h.box)
  exact KA i.moves (e▸h.box)
 refine⟨C,ae,Z,⟨Q,⟨ac,ad,aa,t,r,k1,k2,J,J,?_⟩,⟨C7 h.fr.1 hF.size,λk a b c d e=>(hF.block k (CA a h.fr.1) (λn=>?_) b c d).trans (h.fr.2 k a b c d e)⟩,OC h.few⟩,P,k4,af,k6,?_⟩
 ·rcases m with m|⟨g,m,v⟩
  ·rw[m];exact l
  exact .inr ⟨g,m,C7 h.fr.1 v⟩
 ·rcases l with l|⟨g,l,v⟩
  ·exact e (n.trans l)
  rw[l]at n;injection n with n;omega
 rw[ok.elf,ok.ers]at y;refine ZZ (pD ok.ly (λab x s W=>?_) H _ _ y) ok.hn k8;obtain⟨j,w,rfl⟩:=KO W;exact⟨(ok.hk ab x j w).1,λu=>ag x w u⟩
def D8.verdict{c:Rc}{R:Cl}(h:D8 c R N sts V)(ok:GL c)(k:IZ c sts f p):Am X 123 #[A8 (U ⟨c.A,0,Y⟩),I K f] V λe a=>e=Af (Aa #[I K (DF c.v.dflt c.v.rs p.reverse).1,I K (DF c.v.dflt c.v.rs p.reverse).2])/\A0 V a:=by
 obtain⟨u,w,n,m,l,b,o,r,t,_⟩:=h.here;obtain⟨s,d,g⟩:=k;have i:=(b.here f s d).1;rw[<-List.reverse_reverse p]at g;rw[ok.edf,ok.ers,pE g]at i;refine(nk c.W0 c.A c.q sts _ n m l V b f s d).mono ?_;rintro e a ⟨rfl,j⟩;rw[i];exact⟨Z,j⟩
def ap(c:Rc)(k:Nat)(F:Nat->Prop)(r:Option (DataW Unit)×Cl)(M:Nat)(sts:List ((Nat->Nat)×Int×Int))(V:Ak)(e:Ending)(V':Ak):Prop :=
 ∃(v':Al) (sts':List ((Nat->Nat)×Int×Int)),e=Af (Aa #[v',Ac r.1.isSome])/\D8 c r.2 M sts' V'/\CJ V V'/\Gs sts sts'/\(r.1=Aj->v'=.nilIface)/\∀d',r.1=Ai d'->BQ k V' (λj=>F j\/(V.heap.size<=j/\j<V'.heap.size)) v' d'
def MZ(D:A2->Prop)(c:Rc)(k:Nat)(p:List (A1×Bool)):Prop :=
 ∀(V:Ak) (F:Nat->Prop) (x:Al) (d:A2) (f:Nat) (R:Cl) (N:Nat) (sts:List ((Nat->Nat)×Int×Int)),D d->D8 c R N sts V->IZ c sts f p->(∀j,F j->j<V.heap.size)->BQ k V F x d->(CC k d).length<=999999999->N+DH k d<=90000 ->
  Am prog 90 #[A8 (Ai ⟨c.B,0,Aj⟩),x,A6 Ag f] V (ap c k F (De c.v k p d R) (N+DH k d) sts V)
structure K0(c:Rc)(k:Nat)(W:World)(F:Nat->Prop)(R:Cl)(N:Nat)(sts:List ((Nat->Nat)×Int×Int))(v:Value)(ds:List (DataW Unit))(V:World):Prop where
 rw:D8 c R N sts V
 kp:CJ W V
 own:∃xs,V.ownsRow W.heap.size 56 1 v ds.length xs/\∀(i:Nat) (x:Value) (d:A2),xs[i]?=some x->ds[i]?=some d->BQ k V (λj=>(F j\/(W.heap.size<=j/\j<V.heap.size))/\some j≠v.ownBlock) x d
def pZ{t:TypeId}(h:W.ownsRow base t size v n xs)(o:CJ W W')(f:t≠136)(i:t≠188)(j:t≠191):W'.ownsRow base t size v n xs:=by
 obtain⟨b,a⟩:=h;refine⟨b,?_⟩;rcases a with a|⟨g,c,d,e,l,m,k⟩
 ·exact .inl a
 exact .inr ⟨g,c,d,e,l,o.row _ _ _ _ m f i j,k⟩
def K0.step{c:Rc}{R R':Cl}{N':Nat}(h:K0 c k W F R N sts v ds V)(l:D8 c R' N' sts' V')(a:CJ V V'):K0 c k W F R' N' sts' v ds V':=by
 obtain⟨n,e,f⟩:=h.own;refine⟨l,h.kp.trans a,n,pZ e a Ay Ay Ay,λi x d m g=>(f i x d m g).kept (λj b=>⟨b.1.imp id (λh=>⟨h.1,CA h.2 a.size⟩),b.2⟩) a⟩
def q6{c:Rc}{R:Cl}(b:D8 c R N sts V)(a:CJ W V):K0 c k W F R N sts (G Y 0 0) [] V :=
 ⟨b,a,[],FQ _ _ _ _,λi x d e=>by simp at e⟩
def K0.push{c:Rc}{R:Cl}{v' x:Al}{d:A2}{V0 w5:O}(h:K0 c k W F R N sts v ds V)(Q:c.W0.heap.size<=W.heap.size)(hG:c.G.heap.size<=W.heap.size)(hF:∀j,F j->j<W.heap.size)(z:V.ownsRow W.heap.size 56 1 v ds.length xs)(hx:∀(i:Nat) (x:Al) (d:A2),xs[i]?=U x->ds[i]?=U d->BQ k V (λj=>(F j\/(W.heap.size<=j/\j<V.heap.size))/\U j≠v.ownBlock) x d)(S:BQ k V (λj=>F j\/(V0.heap.size<=j/\j<V.heap.size)) x d)(ad:∀g,v.ownBlock=U g->g<V0.heap.size)(aj:W.heap.size<=V0.heap.size)(aa:w5.ownsRow W.heap.size 56 1 v' (ds.length+1) (xs++[x]))(l:(V.alloc (E #[x] 56)).grownBy w5 v.ownBlock)(q:v'.ownBlock=v.ownBlock\/v'.ownBlock=U (V.alloc (E #[x] 56)).heap.size):K0 c k W F R N sts v' (ds++[d]) w5:=by
 have L:=h.kp.size;have al:V.heap.size+1<=w5.heap.size:=keR
 have key:∀g,v.ownBlock=U g->W.heap.size<=g:=λg l=>Fa z l;have u:∀j,j<V.heap.size->U j≠v.ownBlock->w5.heap[j]?=V.heap[j]?:=λj f w=>(l.block j Ax w).trans (BT _ _ _ f);have y:∀j,j<W.heap.size->w5.heap[j]?=V.heap[j]?:=λj f=>u j J (λe=>keK);have t:CJ W w5:=⟨J,λj cs af P a b c d=>(y j (BC a)).trans (h.kp.row j cs af P a b c d)⟩
 have ac:D8 c R N sts w5:=by
  have m:=h.rw.step (OP (E #[x] 56));have ab:=z.alloc (E #[x] 56);rcases ab.2 with⟨s,_⟩|⟨g,ah,ai,s,ak,n,_⟩
  ·refine m.step ⟨l.os,l.tape,l.output,l.size,λj f=>l.block j f (by rw[s];simp[Value.ownBlock])⟩
  have A:v.ownBlock=U g:=by rw[s];rfl
  rw[A]at l;obtain⟨sa,sc,nf,mn,mf,k1,k2,k3⟩:=m.here;refine⟨(l.block c.B (BC m.box) (λe=>?_)).trans m.box,⟨sa,sc,nf,mn,mf,k1.off (B:=g) ?_ l n Ay Ay Ay,k2,k3⟩,⟨C7 m.fr.1 l.size,λj a b c d e=>(l.block j (CA a m.fr.1) (λC=>by have:=key g A;injection C with C;omega)).trans (m.fr.2 j a b c d e)⟩,m.few⟩
  ·injection e with e;rw[<-e,m.box]at n;injection n with n;injection n with _ n _;exact absurd n Ay
  exact C7 Q (key g A)
 refine⟨ac,t,xs++[x],by rw[BK];exact aa,λi ag c r o=>?_⟩;have D:∀j,j<V.heap.size->U j≠v.ownBlock->U j≠v'.ownBlock:=λj f w=>by
  rcases q with q|q
  ·rw[q];exact w
  rw[q];intro e;injection e with e;simp at e;omega
 have ae:xs.length=ds.length:=Ao z.1
 by_cases hi:i<ds.length
 ·rw[F6 J]at r o;have p:∀j,(F j\/(W.heap.size<=j/\j<V.heap.size))->j<V.heap.size:=λj f=>f.elim (λh=>CA (hF j h) L) (λh=>h.2);exact(hx i ag c r o).same (λj f=>⟨f.1.imp id (λh=>⟨h.1,J⟩),D j (p j f.1) f.2⟩) (λj f=>u j (p j f.1) f.2)
 have e:i=ds.length:=by
  have:=Cf o;rw[BK]at this;simp at this;omega
 subst e;rw[Ez J]at o;rw[Ez J,ae]at r;simp at r o;subst r;subst o;have H:∀j,(F j\/(V0.heap.size<=j/\j<V.heap.size))->U j≠v.ownBlock:=λj f e=>by
  have m:=ad j e.symm;have h2:=key j e.symm;rcases f with f|f
  ·have:=hF j f;omega
  omega
 have p:∀j,(F j\/(V0.heap.size<=j/\j<V.heap.size))->j<V.heap.size:=λj f=>f.elim (λh=>CA (hF j h) L) (λh=>h.2);exact S.same (λj f=>⟨f.imp id (λh=>⟨J,J⟩),D j (p j f) (H j f)⟩) (λj f=>u j (p j f) (H j f))
def K0.row{c:Rc}{R:Cl}(h:K0 c k W F R N sts v ds V):BQ (k+1) V (λj=>F j\/(W.heap.size<=j/\j<V.heap.size)) (Ad 153 v) (.agg ds):=by
 obtain⟨t,a,m⟩:=h.own;unfold BQ;refine⟨v,t,Z,⟨a.1,?_⟩,λi x d s q=>(m i x d s q).same (λj r=>r.1) (λ_ _=>rfl)⟩;rcases a.2 with n|⟨g,f,l,e,p,b,o⟩
 ·exact .inl n
 exact .inr ⟨g,f,l,e,.inr ⟨p,(BC b)⟩,b,o⟩
def av(c:Rc)(k:Nat)(F:Nat->Prop)(t:TypeId)(r:DataW Unit×Cl)(M:Nat)(sts:List ((Nat->Nat)×Int×Int))(V:Ak)(e:Ending)(V':Ak):Prop :=
 ∃(a:A4) (n m:Nat) (sts':List ((Nat->Nat)×Int×Int)),e=Af (A7 a n m)/\D8 c r.2 M sts' V'/\CJ V V'/\Gs sts sts'/\BQ k V' (λj=>F j\/(V.heap.size<=j/\j<V'.heap.size)) (Ad t (A7 a n m)) r.1
def aw{c:Rc}{R:Cl}(h:D8 c R N sts V)(ok:GL c):V.cell? ⟨c.B,39,Y⟩=U (A8 (U ⟨c.A,0,Y⟩)):=by
 refine(BB h.box 39).trans ?_;unfold DV;rw[Ng (by rw[ok.ord.size];omega),ok.ord.size];rfl
def q7(f:A2->Cl->Option (DataW Unit)×Cl)(l:List (DataW Unit))(d:A2)(R:Cl){R1:Cl}(h:IA f l R=(ds,R1)):IA f (l++[d]) R=(ds++(f d R1).1.toList,(f d R1).2):=by
 unfold IA at h ⊢;rw[SF,h];rfl
def ax{α:Type}(g:α->Nat):∀l:List α,l.length<=(l.map λd=>1+g d).sum
 |[]=>DK _
 |a::l=>by
  have:=ax g l;simp only[EU,Ms,Cu];omega
def q8{α:Type}(g:α->A1){l:List α}{i:Nat}{d:α}(h:l[i]?=U d):(g d).length<=(l.flatMap g).length:=by
 obtain⟨b,rfl⟩:=Ja.1 h;have a:l.flatMap g=(l.take i).flatMap g++(g l[i]++(l.drop (i+1)).flatMap g):=by
  conv=>lhs;rw[<-Kb i l,LD,G7 b,Kc]
 rw[a];simp only[BK];omega
def q9(c:Rc)(ok:GL c)(k:Nat)(W:O)(F:Nat->Prop)(u:Al)(ds:List (DataW Unit))(xs:List Al)(p:List (A1×Bool)){D:A2->Prop}(ih:MZ D c k (([],true)::p))(a9:∀x∈ds,D x)(f:Nat)(R:Cl)(N:Nat)(ac:List ((Nat->Nat)×Int×Int))(h:D8 c R N ac W)(hf:IZ c ac f p)(hF:∀j,F j->j<W.heap.size)(V:Dj W 56 1 F u ds.length xs)(o:∀(i:Nat) (x:Al) (d:A2),xs[i]?=U x->ds[i]?=U d->BQ k W F x d)(hc:(ds.flatMap (CC k)).length<=999999999)(hN:N+1+(ds.map λd=>1+DH k d).sum<=90000):Am X 150 #[A8 (U ⟨c.B,0,Y⟩),u,I K f] W (av c (k+1) F 153 (.agg (IA (De c.v k (([],true)::p)) ds R).1,(IA (De c.v k (([],true)::p)) ds R).2) (N+1+(ds.map λd=>1+DH k d).sum) ac W):=by
 obtain⟨i0,hi,bu,bv,bw⟩:=DZ Tryz.infoThing;obtain⟨ag,af,rfl⟩:∃ag af,u=A7 ag ds.length af:=by
  rcases V.2 with⟨e,e2⟩|⟨g,af,bq,e,_⟩
  ·exact⟨Y,0,by rw[e,e2]⟩
  exact⟨_,_,e⟩
 obtain⟨rr,a6⟩:∃rr,Hid (IA (De c.v k (([],true)::p)) ds R=rr):=⟨_,rfl⟩
 rw[a6.out];have b0:Hid (GL c):=ok;have bl:Hid (MZ D c k (([],true)::p)):=ih;have bk:=T a9;have HW:Hid (c.W0.heap.size<=W.heap.size):=h.below.size;have HG:Hid (c.G.heap.size<=W.heap.size):=h.fr.1;have HU:Hid (Dj W 56 1 F (A7 ag ds.length af) ds.length xs):=V;have HX:Hid (∀(i:Nat) (x:Al) (d:A2),xs[i]?=U x->ds[i]?=U d->BQ k W F x d):=o;have HC:Hid ((ds.flatMap (CC k)).length<=999999999):=hc;have HF:Hid (∀j,F j->j<W.heap.size):=hF;obtain⟨P,am⟩:∃P,Hid (N+1+(ds.map λd=>1+DH k d).sum=P):=⟨_,rfl⟩
 have b4:ds.length<=90000:=Ao (ax (DH k) ds)
 have HN:Hid (P<=90000):=am.out▸hN;rw[am.out];have bp:=aw h ok;have cN:=h.next ok J hf [] true (by simp[maxLen])
 clear h hf V o hc hF hN ok ih a9;go_enter func150,ntmps150
 go_wp2_with(first
  |(go_at_call 168;refine cN.mono ?_;clear cN;rintro e w2 ⟨f2,ah,rfl,bd,bb,bc,ba⟩;have a5:Hid (D8 c R (N+1) ah w2):=bd;have a3:Hid (CJ W w2):=bb;have a4:Hid (Gs ac ah):=bc;have a2:Hid (IZ c ah f2 (([],true)::p)):=ba;clear bd bb bc ba bp))
 go_loopg[7,23] ds.length (λg y bz wr=>∃(i:Nat) (a:A4) (l s:Nat) (H:Cl) (A:Nat) (w:List ((Nat->Nat)×Int×Int)) (b:List (DataW Unit)),y=A7 a l s/\bz=I K i/\Hid (i+g=ds.length)/\Hid (IZ c w f2 (([],true)::p))/\Hid (Gs ac w)/\Hid (K0 c k W F H A w (A7 a l s) b wr)/\Hid (IA (De c.v k (([],true)::p)) (ds.take i) R=(b,H))/\Hid (A+((ds.drop i).map λd=>1+DH k d).sum<=P)/\Hid (b.length<=i))
 case atStart=>exact⟨0,Y,0,0,R,N+1,ah,[],rfl,rfl,AD,a2,a4,q6 a5 a3,rfl,OK am,BM _⟩
 case round =>
  clear a5 a3 a4 a2;obtain⟨i,a,l,s,H,A,w,b,rfl,rfl,hg,ap,an,m,ao,ak,az⟩:=hrel
  cases gk with
  |zero =>
   have br:¬(i:Int)<ds.length:=AT
   have HT:Hid (ds.take i=ds):=by show _=_;exact II AT
   go_wp2;go_ret;have n:=ao.out;rw[HT.out,a6.out]at n;rw[n];exact⟨a,l,s,w,Z,m.rw.more (Ao ak.out),m.kp,an,m.row⟩
  |succ g =>
   have au:i<ds.length:=AT
   have br:(i:Int)<ds.length:=J
   have HR:=HU.kept (V':=wr) (G:=F) (λ_ h=>h) m.kp Ay Ay Ay;obtain⟨q0,rfl⟩:∃q0,ag=U ⟨q0,0,Y⟩:=by
    rcases HR.2 with⟨_,e⟩|⟨g,b1,bq,e,_⟩
    ·omega
    injection e with e1 e2 e3;exact⟨g,e1⟩
   have bt:xs.length=ds.length:=Ao HR.1
   obtain⟨x,o⟩:∃x,xs[i]?=U x:=⟨xs[i],C6 J⟩
   obtain⟨d,S⟩:∃d,ds[i]?=U d:=⟨ds[i],C6 au⟩
   have ar:=(HX i x d o S).kept (V':=wr) (G:=F) (λ_ h=>h) m.kp;obtain⟨tx,yx,rfl⟩:=ar.iface;have hc:wr.cell? ⟨q0,i,Y⟩=U (Ad tx yx):=by
    have:=HR.cell i _ o;have e:(⟨q0,0,Y⟩:Addr).add i=⟨q0,i,Y⟩:=by by_cases h:i=0<;>simp[Addr.add,h]
    rwa[e]at this
   have bs:A+(1+DH k d)+((ds.drop (i+1)).map λd=>1+DH k d).sum<=P:=by
    have n:=ak.out;have h2:ds[i]=d:=by have:=C6 au;rw[S]at this;exact(EB this).symm
    rw[G7 au,EU,Ms,h2]at n;omega
   have Q:=bl.out wr F (Ad tx yx) d f2 H A w (bk d (Oz S)) m.rw ap (λj hj=>CA (HF j hj) m.kp.size) ar (Aq HC.out (q8 (CC k) S)) (Ao HN.out);have ab:IA (De c.v k (([],true)::p)) (ds.take (i+1)) R=(b++(De c.v k (([],true)::p) d H).1.toList,(De c.v k (([],true)::p) d H).2):=by
    rw[JH,S];exact q7 _ _ _ _ ao
   have al:Hid ((A+DH k d)+((ds.drop (i+1)).map λd=>1+DH k d).sum<=P):=AL
   obtain⟨C,a1⟩:∃C,Hid (A+DH k d=C):=⟨_,rfl⟩
   rw[a1.out]at Q;rw[a1.out]at al;have b3:b.length<=90000:=Ao az.out
   have a7:Hid (b.length+1<=i+1):=by show _<=_;have:=az.out;omega
   have bn:Hid (W.heap.size<=wr.heap.size):=m.kp.size;have bm:Hid (∀g,(Value.slice a l s).ownBlock=U g->g<wr.heap.size):=by obtain⟨xs,n,_⟩:=m.own;exact P7 n
   clear HR o S ar bs ak ao bt;rcases hq:De c.v k (([],true)::p) d H with⟨bx,L⟩
   rw[hq]at Q ab
   cases bx with
   |none =>
    have aq:Hid (IA (De c.v k (([],true)::p)) (ds.take (i+1)) R=(b,L)):=by show _=_;rw[ab];simp
    have aa:Am X 90 #[A8 (U ⟨c.B,0,Y⟩),Ad tx yx,I K f2] wr λe V'=>∃r,e=Af (Aa #[.nilIface,Ac false])/\Hid (D8 c L C r V')/\Hid (CJ wr V')/\Hid (Gs w r):=Q.mono (by
     rintro e V' ⟨v',r,rfl,n,h2,h3,h4,_⟩;obtain rfl:=h4 rfl;exact⟨r,Z,n,h2,h3⟩)
    clear Q ab hq
    go_wp2_with(first
     |(go_at_call 90;refine aa.mono ?_;clear aa;rintro e z ⟨ai,rfl,ad,aj,q⟩))
    go_roundg g
    case measure=>omega
    case rel=>exact⟨i+1,a,l,s,L,C,ai,b,rfl,AE,B6,ap.pre q,an.trans q,m.step ad aj,aq,al,by show _<=_;have:=a7.out;omega⟩
   |some d' =>
    have aq:Hid (IA (De c.v k (([],true)::p)) (ds.take (i+1)) R=(b++[d'],L)):=by show _=_;rw[ab];rfl
    have aa:Am X 90 #[A8 (U ⟨c.B,0,Y⟩),Ad tx yx,I K f2] wr λe V'=>∃t y r,e=Af (Aa #[Ad t y,Ac true])/\Hid (D8 c L C r V')/\Hid (CJ wr V')/\Hid (Gs w r)/\Hid (BQ k V' (λj=>F j\/(wr.heap.size<=j/\j<V'.heap.size)) (Ad t y) d'):=Q.mono (by
     rintro e V' ⟨v',r,rfl,n,h2,h3,_,h4⟩;have h5:=h4 d' Z;obtain⟨t,y,rfl⟩:=h5.iface;exact⟨t,y,r,Z,n,h2,h3,h5⟩)
    clear Q ab hq
    go_wp2_with(first
     |(go_at_call 90;refine aa.mono ?_;clear aa;rintro e z ⟨t,y,ai,rfl,ad,aj,q,a0⟩;have ae:=T (m.step ad aj);clear m ad;obtain⟨bi,bf,bh⟩:=ae.own;have HO:Hid (z.ownsRow W.heap.size 56 1 (A7 a l s) b.length bi):=bf;have a8:Hid (∀(i:Nat) (x:Al) (d:A2),bi[i]?=U x->b[i]?=U d->BQ k z (λj=>(F j\/(W.heap.size<=j/\j<z.heap.size))/\U j≠(Value.slice a l s).ownBlock) x d):=bh;have bj:Hid (W.heap.size<=z.heap.size):=ae.kp.size;clear bf bh)
     |(at_builtin;refine MH _ Z _ _ 153 Z W.heap.size 56 i0 .nilIface 1 16 underlying153 hi bu bv bw Z Ay _ _ _ Z (HO.alloc _) ⟨z.heap.size,0,Y⟩ 1 1 [Ad t y] Z Z (EE _ _ _) (λu V=>by simp at V;subst V;rfl) Ay AC J (Ar bj.out) ?_;intro v' w5 ay be bg;have bo:Hid (K0 c k W F L C ai v' (b++[d']) w5):=ae.push HW HG HF HO a8 a0 bm bn ay be bg;obtain⟨g5,b2,rfl⟩:=ownsRow_succ ay;clear ay be bg ae HO a8 a0))
    go_roundg g
    case measure=>omega
    case rel=>exact⟨i+1,_,_,_,L,C,ai,b++[d'],rfl,AE,B6,ap.pre q,an.trans q,bo,aq,al,by show _<=_;rw[BK];exact a7⟩
def JS.kept{G:Nat->Prop}(h:JS k V F xs es)(f:∀k,F k->G k)(j:CJ V V'):JS k V' G xs es:=λi key d g=>by
 obtain⟨l,x,a,b,c,e⟩:=h i key d g;exact⟨l,x,a,b,c,e.kept f j⟩
def UH(c:Rc)(k:Nat)(F:Nat->Prop)(r:DataW Unit×Cl)(M:Nat)(sts:List ((Nat->Nat)×Int×Int))(V:Ak)(e:Ending)(V':Ak):Prop :=
 ∃(v':Al) (sts':List ((Nat->Nat)×Int×Int)),e=Af v'/\D8 c r.2 M sts' V'/\CJ V V'/\Gs sts sts'/\BQ k V' (λj=>F j\/(V.heap.size<=j/\j<V'.heap.size)) v' r.1
def qa(B f:Nat)(a:A4)(n m:Nat)(W:O)(c:Rc)(k:Nat)(F:Nat->Prop)(r:DataW Unit×Cl)(b:Nat)(g:List ((Nat->Nat)×Int×Int))(d:Am X 150 #[A8 (U ⟨B,0,Y⟩),G a n m,I K f] W (av c k F 153 r b g W)):Am X 125 #[A8 (U ⟨B,0,Y⟩),Ad 153 (G a n m),I K f] W (UH c k F r b g W):=by
 have q:=Xz a n m;go_enter func125,ntmps125
 go_wp2_with(first
  |(go_at_call 150;refine d.mono ?_;clear d;rintro e u ⟨p,t,s,o,rfl,h,i,j,l⟩))
 go_ret;exact⟨_,o,Z,h,i,j,l⟩
def Dj.sliceR{t:TypeId}(h:Dj V t size F v n xs):∃q a,v=G q n a:=by
 rcases h.2 with⟨e,b⟩|⟨g,a,c,e,_⟩
 ·exact⟨Y,0,by rw[e,b]⟩
 exact⟨_,_,e⟩
end
section
open Go.RowKit
def qn(k:Nat)(V:O)(p:Nat)(fin d l:Int)(a:A4)(n c:Nat)(r:Except (Int×Int) (DataW Unit))(h:NT V p fin d l (G a n c))(b:Am X 18 #[I K fin,.agg #[I K d,I K l],G a n c] V (He k V r)):Am X 17 #[A8 (U ⟨p,0,Y⟩),A8 (U ⟨p+1,0,Y⟩),A8 (U ⟨p+2,0,Y⟩),A8 (U ⟨p+3,0,Y⟩)] V (He k V r):=by
 have o:=h.b0.cell;have q:=h.b1.cell;have c2:=h.b2.cell;have s:=h.b3.cell;clear h;rcases r with⟨u,v⟩|z
 ·go_enter func17,ntmps17
  go_wp2_with(first
   |(go_at_call 18;refine b.mono ?_;clear b;rintro e g ⟨f,hF⟩;obtain rfl:=hF))
  exact⟨Z,f,Z⟩
 go_enter func17,ntmps17
 go_wp2_with(first
  |(go_at_call 18;refine b.mono ?_;clear b;rintro e g ⟨f,hF⟩;obtain⟨t,y,rfl,i⟩:=hF;have m:Hid (BQ k g (λj=>V.heap.size<=j/\j<g.heap.size) (Ad t y) z):=i;clear i))
 go_ret;exact⟨f,_,_,Z,m⟩
end
section
open Go.RowKit Go.Lib
def qt(T:A2->A1)(e:Lit×DataW Unit):A1:=(Hv (Cq e.1)++[58])++T e.2
def J0:Nat->A2->A1
 |0,_=>[]
 |k+1,d=>match d with
  |.lit (.bool b)=>bif b then[116,114,117,101]else[102,97,108,115,101]
  |.lit (.int Ag z)=>Lib.itoa z
  |.lit (.string l)=>Hv l
  |.agg ds=>([91]++Fy (J0 k) ds)++[93]
  |.map es=>([123]++Fy (qt (J0 k)) es)++[125]
  |_=>[110,117,108,108]
def qu(W:O)(b:Nat)(v:Al)(bs l:A1)(p:bs.length+(Hv l).length<=999999999)(h:BG W b v bs):Am X 63 #[v,Ad 210 (A9 ⟨l.toArray⟩)] W λe d=>∃g,e=Af g/\BG d b g (bs++Hv l)/\Below b W d:=by
 have f:=qp W b v ⟨l.toArray⟩ bs p h;have i:Hv (⟨l.toArray⟩:ByteArray).data.toList=Hv l:=rfl;rw[i]at f;obtain⟨a,n,c,rfl⟩:=h.2.2;have t:=Tp ⟨l.toArray⟩;have u:=Tq ⟨l.toArray⟩;have w:=Ts ⟨l.toArray⟩;go_enter func63,ntmps63
 go_wp2_with(first
  |(go_at_call 95;refine f.mono ?_;rintro e y ⟨x,rfl,j,o,_⟩;obtain⟨k,m,q,s,r,rfl⟩:=j))
 go_ret;exact⟨_,Z,⟨k,m,_,_,_,Z⟩,o⟩
def qv(W:O)(g:Nat)(v:Al)(q:A4)(m b:Nat)(h:A1)(p:∃a n c,v=G a n c)(i:Am X 96 #[v,G q m b] W λe d=>∃f,e=Af f/\BG d g f h/\Below g W d):Am X 63 #[v,Ad 153 (G q m b)] W λe d=>∃f,e=Af f/\BG d g f h/\Below g W d:=by
 obtain⟨a,n,c,rfl⟩:=p;have u:=Tt q m b;have w:=Tu q m b;have x:=Tv q m b;have y:=Tw q m b;go_enter func63,ntmps63
 go_wp2_with(first
  |(go_at_call 96;refine i.mono ?_;rintro e A ⟨z,rfl,j,o⟩;obtain⟨k,l,r,t,s,rfl⟩:=j))
 go_ret;exact⟨_,Z,⟨k,l,_,_,_,Z⟩,o⟩
end
section
open Go.RowKit Go.Shelf
structure RK(w:World)(c:BX)(N:Nat)(A:A3)(W:World):Prop where
 below:A0 w W
 box:W.heap[w.heap.size]?=some (.cells c.arr 25)
 row:W.heap[N]?=some (.cells A 87)
def RK.step{w:O}(h:RK w c N A W)(hb:A0 W W'):RK w c N A W' :=
 ⟨h.below.trans (hb.mono h.below.size),(hb.block _ (BC h.box)).trans h.box,(hb.block _ (BC h.row)).trans h.row⟩
def b9(h:CB c=0):Eu c.labels.toNat c.pol.data.toList=0:=by
 rw[<-(Uw c).1]at h;unfold FX at h;split at h
 ·next hh=>exact absurd h hh
 split at h
 ·cases h
 split at h
 ·cases h
 exact h
end
section
def be{dflt:Int}(a:∃l:Nat,dflt=l/\l<n):∀(rs:List (List (Nat×A1)×Int×Int)),(∀x∈rs,∃l:Nat,x.2.1=l/\l<n)->∀p,∃l:Nat,(DF dflt rs p).1=l/\l<n
 |[],_,_=>a
 |x::rs,hr,p=>by
  rw[DF];split
  ·exact hr x (Hl ..)
  exact be a rs (λy b=>hr y (I2 _ b)) p
end
section
open Go.RowKit
def sT{α:Type}{l:List α}{p:Nat}{c:α}{r:List α}(h:l.drop p=c::r):l[p]?=U c/\l.drop (p+1)=r:=by
 constructor
 ·have:=congrArg (λx=>x[0]?) h;simpa using this
 have:=congrArg (λx=>x.drop 1) h;simpa[Hn,SW]using this
end
section
open Go.RowKit Go.Lib
def PP(bs:A1)(lim:Int):∀(g p:Nat) (b a l:A1) (q:Nat),Vt b->Pd a->Ct bs lim g p (b++a) b.length=.ok (l,q)->Vt l
 |0,p,b,a,l,q,_,_,h=>by
  rw[Ct]at h;cases h
 |g+1,p,b,a,l,q,h1,h2,h=>by
  have j:∀(x:A1) (p:Nat),Ch x->Ct bs lim g p (b++(a++x)) (b++(a++x)).length=.ok (l,q)->Ch (a++x)->Vt l:=λx p _ f k=>by
   have:=PP bs lim g p (b++(a++x)) [] l q (VB h1 k) (.inl Z);rw[IK]at this;exact this f
  rw[Ct]at h;split at h
  ·cases h
  next c hc =>
  split at h
  ·cases h
  split at h
  ·next e =>
   have:a=[]:=J9 (by have:=e.2;rw[BK]at this;omega);subst this;rw[IK]at h;cases h;exact h1
  split at h
  ·next e =>
   have:a=[]:=J9 (by have:=e.2;rw[BK]at this;omega);subst this;split at h
   ·cases h
   next r q2 _ =>
   rw[CN]at h;exact j _ _ (cx r) h (cx r)
  split at h
  ·cases h
  rw[I8]at h;split at h
  ·cases h
  next ha =>
  rw[CN]at h;rcases bU h2 ha with⟨e,d⟩|⟨e,i⟩
  ·rw[BA e]at h;have:=PP bs lim g (p+1) (b++(a++[c])) [] l q (VB h1 d) (.inl Z);rw[IK]at this;refine this ?_;rw[<-h];congr 1;simp;omega
  rw[Bz e]at h;exact PP bs lim g (p+1) b (a++[c]) l q h1 i h
structure GR(W:World)(A:A3)(V:World):Prop where
 box:V.heap[W.heap.size]?=some (.cells A 74)
 below:A0 W V
def GR.next(h:GR W A V)(hb:A0 V V'):GR W A V' :=
 ⟨(hb.block _ (BC h.box)).trans h.box,h.below.trans (hb.mono h.below.size)⟩
def GR.drew(h:GR W A V):GR W A V.drew:=⟨h.box,h.below.drew⟩
def Q1(W:O)(A:A3):GR W A (W.alloc (E A 74)):=⟨BI _ _,BN⟩
def eF(h:Dj V 74 5 F u n xs):n<=9223372036854775807/\∃a c,u=G a n c/\∀(i:Nat) (A:A3),i<n->Hj xs i A->∃g,a=U ⟨g,0,Y⟩/\F g/\∀b:O,b.heap[g]?=V.heap[g]?->∀j,j<5->b.cell? ⟨g,i*5+j,Y⟩=A[j]?:=by
 obtain⟨s,f⟩:=h;rcases f with⟨rfl,rfl⟩|⟨g,c,r,rfl,hF,p,k,l,t,m⟩
 ·exact⟨J,_,_,Z,λi A d=>absurd d J⟩
 refine⟨C7 k (C7 l Ay),_,_,Z,λi A d e=>⟨g,Z,hF,λb o j q=>?_⟩⟩;rw[BB (o.trans p)];unfold Hj at e;rw[<-Ka,<-Ka,<-e,KM q,Mm,<-m,KM J,JJ]
def vW(h:Dj V 9 1 F u es.length (es.map Sd)):∃a e,u=G a es.length e/\∀(i:Nat) (l:A1) (d:A2),es[i]?=U (.string l,d)->∃g,a=U ⟨g,0,Y⟩/\F g/\∀c:O,c.heap[g]?=V.heap[g]?->c.cell? ⟨g,i,Y⟩=U (A9 ⟨l.toArray⟩):=by
 obtain⟨q,k⟩:=h;rcases k with⟨rfl,j⟩|⟨g,e,f,rfl,hF,p,r,s,t,m⟩
 ·exact⟨Y,0,by rw[j],λi l d b=>Ao (Cf b)⟩
 refine⟨_,_,Z,λi l d b=>⟨g,Z,hF,λc o=>?_⟩⟩;have v:=Cf b;rw[BB (o.trans p),<-Ka];have n:(f.toList.take (es.length*1))[i]?=U (A9 ⟨l.toArray⟩):=by rw[m,Jc,b];rfl
 rwa[KM J]at n
def Sl{α:Type}(f:α->A1)(l:List α)(i:Nat)(d:α)(h:l[i]?=U d):(l.take (i+1)).flatMap f=(l.take i).flatMap f++f d:=by
 rw[JH,h];simp
def Sm{α:Type}(f:α->A1)(l:List α)(i:Nat):((l.take i).flatMap f).length<=(l.flatMap f).length:=by
 conv=>rhs;rw[<-Kb i l]
 rw[LD,BK];omega
def I1(l:A1)(W:Ak)(e:Ending)(W':Ak):Prop:=e=Af (D6 l)/\A0 W W'
def wK(w:A1):Prop:=∃u c,w=u++[c]/\L4 u=true/\Cw u c=2
end
end Go.Proofs.YtnlnjkggkbbdhaaGreatDoor
