import Derived.Test.YtoegnhgofkhbnaaGreatDoorHq31
set_option maxRecDepth 100000
set_option maxHeartbeats 8000000
set_option linter.all false
namespace Go.Proofs.YtoegnhgofkhbnaaGreatDoor
open Go.Proofs.Tryz
open Go.Value renaming int->A7,slice->A8,pointer->A9,string->Aa,tuple->Ab,bool->Ad
open Go.Obj renaming cells->Af
open Go.Ending renaming returned->Ag
open Go.IntKind renaming i64->Ah
open Option renaming some->Aj,none->Ak
open Go renaming World->Al,Value->Am,Calls->An
open Go.Proofs.Tryz renaming prog->Ao
variable{c:AN}{P:Program}
section
open Go.RowKit Go.Lib
theorem rW(k:Nat)(W:Al)(F:Nat->Prop)(a:A4)(d:A3)(hF:∀j,F j->j<W.heap.size)(h:BG k W F (.agg a) d)(p:(BD k d).length<=149999999):An Ao 23 #[A7 Ah 2,.agg a] W λe l=>e=Ag (Ab #[BU (BD k d),Ad true])/\A1 W l:=by
 have b:Hid (Ft W a (W.alloc (Af a 62))):=Ok _ _;obtain⟨r,n,s,q,t,u,v,w,x,e⟩:=h.shape;injection e with e;have i:∀V,A1 W V->BG k V F (.agg a) d/\∀j,F j->j<V.heap.size:=λV f=>⟨h.same (λ_ h=>h) (λj g=>f.block j (hF j g)),λj g=>Br (hF j g) f.size⟩
 have m:=Ap (λV f=>U1 k V F a d (i V f).2 (i V f).1 (by omega));subst e;unfold Ax at *;have z:=Ar b.box 0;have A:=Ar b.box 1;have B:=Ar b.box 2;have C:=Ar b.box 3;have D:=Ar b.box 4;have c:=m.out _ b.below;unfold FX BU at c;unfold BU;generalize BD k d=R at *;go_enter func23,ntmps23
 go_wp2_with(first|(go_at_call 39;refine c.mono ?_;rintro e y ⟨rfl,o⟩))
 refine Bd (Hl results23 _ _ _) rfl ?_;exact⟨rfl,(b.next o).below⟩
theorem rX(W:Al)(d l:Int)(bs:A2)(hd:1<=d/\d<=16)(hl:1<=l/\l<=4096)(M:∀I pl,BB 1 bs d l=.error (I,pl)->I≠0)(N:An Ao 22 #[A7 Ah 1,A7 Ah d,A7 Ah l,Aa ⟨bs.toArray⟩] W (ZI (λk y=>(BD k y).length) (d.toNat+1) bs l W (BB 1 bs d l))):An Ao 11 #[A7 Ah 1,A7 Ah 2,A7 Ah d,A7 Ah l,Aa ⟨bs.toArray⟩] W (TV (∃y,BB 1 bs d l=.ok y/\(bs.length:Int)<=l) W):=by
 have H:∀V,An Ao 19 #[A7 Ah 1] V λe c=>e=Ag (Ad true)/\V=c:=λV=>(Ny 1 V).mono λe c h=>⟨h.1,h.2.symm⟩
 have c2:∀V,An Ao 19 #[A7 Ah 2] V λe c=>e=Ag (Ad true)/\V=c:=λV=>(Ny 2 V).mono λe c h=>⟨h.1,h.2.symm⟩
 have h3:¬d<1:=by omega
 have h4:¬16<d:=by omega
 have h5:¬l<1:=by omega
 have h6:¬4096<l:=by omega
 have B:=Ap (show l<=4096 by omega);have A:=Ap M;generalize d.toNat+1=k at *;generalize BB 1 bs d l=D at *;have G:=Ap N;clear N hd hl M;go_enter func11,ntmps11
 go_wp2_with(first
  |(go_at_call 19;refine(H _).mono ?_;clear H;rintro e w1 ⟨rfl,rfl⟩)
  |(go_at_call 19;refine(c2 _).mono ?_;clear c2;rintro e w1 ⟨rfl,rfl⟩))
 refine G.mono ?_;clear G h3 h4 h5 h6;rintro e a ⟨K,R⟩;have o:=Ap K;clear K
 cases D with
 |error f =>
  obtain rfl:=R;have aa:(f.1==0)=false:=by simpa using A.out f.1 f.2 rfl
  clear B;simp only[]
  go_wp2_with(first
   |((with_reducible refine zT 13 47 rfl rfl (a.heap.size) AR ?_ ?_);exact⟨rfl,rfl,(I3 a _ _).1,thg⟩)
   |((with_reducible refine zF 14 48 rfl rfl (a.heap.size+1) f ?_ ?_);exact⟨rfl,rfl,sx (by omega) (I3 a _ _).2⟩;refine DM ?_;intro i b;have m:=Ap (b▸Lq _ _ _ _ _);have p:Hid (i.heap[a.heap.size+1]?=Aj (Af (Aw f) 64)):=b▸Oi;clear b;have U:i.cell? ⟨a.heap.size+1,0,Ak⟩=Aj (A7 Ah f.1):=Ar p 0))
  refine Cp (S:=λZ=>Z.heap[a.heap.size+1]?=Aj (Af (Aw f) 64)) p (by kernel_rfl) ?_;intro g;refine Au 0 52 (A9 (Aj ⟨a.heap.size+1,0,Ak⟩)) g ?_;refine AD 1 53 (A7 Ah f.1) rfl (λZ C=>?y1) g ?_
  case y1=>(have hz:Z.cell? ⟨a.heap.size+1,0,Ak⟩=Aj (A7 Ah f.1):=Ar C 0;go_simp)
  refine Au 2 54 (A9 (Aj ⟨a.heap.size+1,1,Ak⟩)) g ?_;refine AD 3 55 (A7 Ah f.2) rfl (λZ C=>?y2) g ?_
  case y2=>(have hz:Z.cell? ⟨a.heap.size+1,1,Ak⟩=Aj (A7 Ah f.2):=Ar C 1;go_simp)
  refine Au 4 10 (Aa ⟨#[]⟩) g ?_;refine Au 5 11 (A7 Ah f.1) g ?_;refine Au 6 12 (A7 Ah f.2) g ?_;refine Bw ?_;go_simp;go_wp2;refine Bd (Gl results11 _ _ _) rfl ?_;exact⟨_,_,_,rfl,λh=>absurd h (A f.1 f.2 rfl),o.trans (m.drew.mono o.size)⟩
 |ok t =>
  obtain⟨⟨w,n,s,q,u,v,r,z,x,rfl,J⟩,Q,T⟩:=R;have HJ:=Ap Q;have F:Hid (∀V,A1 a V->An Ao 23 #[A7 Ah 2,.agg (Ax w n s (A8 q u v) (A8 r z x))] V λe c=>e=Ag (Ab #[BU (BD k t),Ad true])/\A1 V c):=λV P=>rW k V (λj=>W.heap.size<=j/\j<a.heap.size) _ t (λj E=>Br E.2 P.size) (J.same (λ_ h=>h) (λj E=>P.block j E.2)) (by have h:=T k;have:=B.out;dsimp only at h;omega);clear J Q T A B;unfold BU at F;generalize BD k t=O at *;simp only[]
  go_wp2_with(first
   |((with_reducible refine zT 13 47 rfl rfl (a.heap.size) (Ax w n s (A8 q u v) (A8 r z x)) ?_ ?_);exact⟨rfl,rfl,(I3 a _ _).1,thg⟩)
   |((with_reducible refine zF 14 48 rfl rfl (a.heap.size+1) (0,0) ?_ ?_);exact⟨rfl,rfl,sx (by omega) (I3 a _ _).2⟩;refine DM ?_;intro i b;have m:=Ap (b▸Lq _ _ _ _ _);have p:Hid (i.heap[a.heap.size+1]?=Aj (Af (Aw (0,0)) 64)):=b▸Oi;have Y:Hid (i.heap[a.heap.size]?=Aj (Af (Ax w n s (A8 q u v) (A8 r z x)) 62)):=b▸TS;clear b;have U:i.cell? ⟨a.heap.size+1,0,Ak⟩=Aj (A7 Ah 0):=Ar p 0)
   |((with_reducible refine B3 rfl 62 (.tmp 13) rfl (a.heap.size) ?hx 62 (Ax w n s (A8 q u v) (A8 r z x)) (0,0) _ ?hg underlying62 rfl ?hi ?_);(case hx=>exact rfl);(case hg=>exact Y);(case hi=>exact Iu _ _ _ _ _))
   |(go_at_call 23;refine(F _ m).mono ?_;clear U;rintro e w6 ⟨rfl,L⟩;have X:=Ap (m.trans (L.mono m.size));clear L))
  refine Bd (Gl results11 _ _ _) rfl ?_;exact⟨_,_,_,rfl,λ_=>⟨t,rfl,HJ⟩,o.trans (X.mono o.size)⟩
theorem rY{sp:Nat->A6 Unit}{th:Nat->Except (Int×Int) (DataW Unit×Nat)}{bs:A2}{lim:Int}(c:∀p,CM (sp p))(d:∀p,CM (th p)):CM (Gu sp th bs lim):=λa b h=>by
 unfold Gu at h;split at h
 ·next e he=>injection h with h;subst h;exact c _ a b he
 split at h
 ·next e he=>injection h with h;subst h;exact d _ a b he
 split at h
 ·next e he=>injection h with h;subst h;exact c _ a b he
 split at h
 ·next e he =>
  injection h with h;subst h;unfold G2 at he;split at he
  ·cases he
  split at he
  ·injection he with he;injection he with he;subst he;decide
  injection he with he;injection he with he;subst he;decide
 cases h
theorem ZS(bs:A2)(d l:Int)(a:0<=d):CM (BB 1 bs d l) :=
 rY (λp=>Li _ _ _ _) (λp=>Te _ _ _ _ (λc p=>Yx _ _) _ _ _ (by simpa using a) (by omega))
theorem rZ(bs:A2)(d l:Int)(e:0<=d)(p:Nat)(y:A3)(q:Nat)(h:GU 1 bs d l p=.ok (y,q))(_hq:q<=bs.length)(k:Nat):(BD k y).length<=400*q:=by
 have h:BX bs l d (λc p=>Ci ⟨Ak,bs,0,0,l,p,0⟩ c) (d.toNat+1) 0 p=.ok (y,q):=h;by_cases b:p<=bs.length
 ·have a:=NU bs [] l d (d.toNat+1) 0 (by omega) (by omega) p b;rw[h]at a;have:=a.2.2.1 k;have:=ST k y;omega
 rw[BX,DI (by omega)]at h;cases h
theorem s7(W:Al)(bs:A2)(d l:Int)(i:1<=d/\d<=16)(j:1<=l/\l<=4096)(f:bs.length<=281474976710656):An Ao 7 #[Aa ⟨bs.toArray⟩,A7 Ah d,A7 Ah l] W λe h=>∃b,e=Ag (Ad b)/\(b=true->∃y,BB 1 bs d l=.ok y/\(bs.length:Int)<=l)/\A1 W h:=by
 have a:0<=d:=by omega
 have g:∀c m,BB 1 bs d l=.error (c,m)->c≠0:=ZS bs d l a;refine ZJ _ W bs d l (rX W d l bs i j g (rN _ W 1 d l bs rfl (by omega) f (rZ bs d l a) g λV p k=>?_));exact rE (d.toNat+1) V bs 1 d l l p _ rfl λV=>TT ⟨Ak,bs,0,d,l,0,0⟩ 1 l (λ_ _=>Iff.rfl) f (by show l<=_;omega) (by show d<=100000;omega) (d.toNat+1) 0 V p (by simpa using a) (by show d<_;omega) k
theorem s8(W:Al)(a:A5)(bs:A2)(e:Nat)(d l:Int)(h:Dv W a bs)(g:Jr W)(n:0<=d)(o:d<=100000)(q:bs.length<=200000000):An Ao 51 #[A7 Ah 1,.agg #[A7 Ah d,A7 Ah l],A8 a bs.length e] W (IP (d.toNat+1) W (BB 1 bs d l)):=by
 have r:=g.big;show An _ _ _ _ (IP (d.toNat+1) W (Gu (λp=>Bk bs l (bs.length+1-p) p) (λp=>BX bs l d (λc p=>Ci ⟨Ak,bs,0,0,l,p,0⟩ c) (d.toNat+1) 0 p) bs l));refine gK (d.toNat+1) W 1 a bs e d l h _ _ (λV k=>bz V a bs e d l k) (λb V p m f=>K9 V b ⟨a,bs,e,d,l,p,0⟩ f) (λb V p m i f=>?_);exact Wu (d.toNat+1) V b ⟨a,bs,e,d,l,p,0⟩ f q (λU j=>(g.below i).u8.but j (by omega) (g.below i).big) (by omega) o (by simpa using n) (by show d<((0:Nat):Int)+((d.toNat+1:Nat):Int);omega)
theorem ZT(bs:A2)(d l:Int)(c:0<=d){x:A3}(h:BB 1 bs d l=.ok x)(k:Nat):BL k x+30<=400*bs.length:=by
 have b:Tm bs [] l False 0 (λd _=>∀k,BL k d+30<=400*bs.length) (PU bs.length (BB 1 bs d l)) (PU (bs++[]).length (BB 1 (bs++[]) d l)):=nz bs [] l (λp a=>Kn bs [] l p a) (λp a=>NU bs [] l d (d.toNat+1) 0 (by omega) (by omega) p a);rw[h]at b;exact b.2.2.1 k
theorem ZX(ck:Ip c)(hi:c.inn=1):NZ c:=by
 have g:=ck.dep;refine⟨λ{U} ht fa fc l hl hb A bv=>?_,λl b f a=>?_,λl x a k=>?_⟩
 ·have e:((c.bytes.toNat:Nat):Int)=c.bytes:=JX (by have:=ck.byt;omega);have d:=s8 U fa l fc c.depth c.bytes hb ht (by omega) (by omega) (by omega);unfold EF;dsimp only;rw[e,hi];exact d
 ·rw[hi]at a;exact ZS l c.depth c.bytes (by omega) b f a
 rw[hi]at a;exact ZT l c.depth c.bytes (by omega) a k
theorem ZY(ck:Ip c)(hi:c.inn=1):Tf c:=⟨λh f b=>λa e=>ot ck h f b a e,λl d g a=>nU ck.out (by rw[hi]at a;have:=ZT l c.depth c.bytes (by have:=ck.dep;omega) a (kC c);have:=nK (Cj c) (kC c) d (0,0,0,0);omega)⟩
theorem s9(a s b:A2):((((((⟨#[123,34,97,34,58]⟩++⟨a.toArray⟩:ByteArray)++⟨#[44,34,115,34,58]⟩)++⟨s.toArray⟩)++⟨#[44,34,98,34,58]⟩)++⟨b.toArray⟩)++⟨#[125]⟩:ByteArray)=⟨(Cr a s b).toArray⟩:=by
 apply LI;simp[Cr]
theorem ZZ(a s b:A2)(d:a.length<=1048576)(g:s.length<=1048576)(f:b.length<=1048576)(V:Al):An Ao 6 #[Aa ⟨a.toArray⟩,Aa ⟨s.toArray⟩,Aa ⟨b.toArray⟩] V λe c=>e=Ag (Aa ⟨(Cr a s b).toArray⟩)/\V=c:=by
 rw[<-s9];go_enter func6,ntmps6;go_wp2;go_ret;exact⟨rfl,rfl⟩
theorem sb(W:Al)(l:Int)(bs:A2):An Ao 11 #[A7 Ah 1,A7 Ah 2,A7 Ah 0,A7 Ah l,Aa ⟨bs.toArray⟩] W (TV False W):=by
 have c:∀V f,An Ao 19 #[A7 Ah f] V λe b=>e=Ag (Ad (D0 f))/\V=b:=λV f=>(Ny f V).mono λe b h=>⟨h.1,h.2.symm⟩
 have a:=λV=>c V 1;have c2:=λV=>c V 2;rw[show D0 1=true from rfl]at a;rw[show D0 2=true from rfl]at c2;clear c;go_enter func11,ntmps11
 go_wp2_with(first
  |(go_at_call 19;refine(a _).mono ?_;clear a;rintro e w1 ⟨rfl,rfl⟩)
  |(go_at_call 19;refine(c2 _).mono ?_;clear c2;rintro e w1 ⟨rfl,rfl⟩))
 refine Bd (Gl results11 _ _ _) rfl ?_;exact⟨_,_,_,rfl,by decide,Bb⟩
theorem Qs(W:Al)(bs:A2)(d l:Int)(k:0<=d/\d<=16)(j:1<=l/\l<=4096)(i:bs.length<=281474976710656):An Ao 7 #[Aa ⟨bs.toArray⟩,A7 Ah d,A7 Ah l] W λe a=>∃b,e=Ag (Ad b)/\(b=true->∃y,BB 1 bs d l=.ok y)/\A1 W a:=by
 by_cases h:d=0
 ·subst h;exact(ZJ False W bs 0 l (sb W l bs)).mono λe a ⟨b,c,f,g⟩=>⟨b,c,λh=>(f h).elim,g⟩
 exact(s7 W bs d l (by omega) j i).mono λe a ⟨b,c,f,g⟩=>⟨b,c,λh=>(f h).imp λ_ h=>h.1,g⟩
theorem sd(l:A2)(R:AP)(E P:Int)(m:Bool)(V:Al)(h:TC m R):An Ao 9 #[.agg (C4 l R E P),Ad m] V λe a=>e=Ag (Ad true)/\A1 V a:=by
 have c2:_=Aj (Value.int Ah R.2.1):=Ar (Ay V (Af (C4 l R E P) 34)) 2;have b:_=Aj (Value.int Ah R.2.2.1):=Ar (Ay V (Af (C4 l R E P) 34)) 3
 cases m with
 |true =>
  have h:1<=R.2.2.1:=h;have f:(1:Int)<=R.2.2.1:=by omega
  go_enter func9,ntmps9;go_wp2;go_ret;exact⟨rfl,AH⟩
 |false =>
  have h:1<=R.2.1:=h;have f:(1:Int)<=R.2.1:=by omega
  go_enter func9,ntmps9;go_wp2;go_ret;exact⟨rfl,AH⟩
theorem aa{ops:Array Oper}{Q:Exit->Act->Al->Prop}{id:Nat}{a:Act}{w:Al}(b:Nat->List (Nat×Am))(I:Nat->Al->Prop)(d:(∀T Y,I T Y->Q .normal ((b T).foldl (λa p=>a.put (Aj p.1) p.2) a) Y)->(Code.region id ops true).wp P Q a w)(c:∀T Y A,(b T).foldl (λa p=>a.put (Aj p.1) p.2) a=A->I T Y->Q .normal A Y):(Code.region id ops true).wp P Q a w:=d λT Y h=>c T Y _ rfl h
def ab(X:Al)(td:A4)(T:Nat)(Y:Al):Prop:=A1 X Y/\Y.heap[T]?=Aj (Af td 34)/\X.heap.size<=T
theorem se(c:AN)(w:Al)(U:Et w c)(hk:YV c)(ht:EE w.heap.size w)(a b s ak:A2)(m:Bool)(pc:Int)(bd:JO pc)(bw:c.pol.size<=281474976710656)(ha:a.length<=1048576)(hb:b.length<=1048576)(hs:s.length<=1048576)(cd:ak.length<=1048576):An Ao 3 #[.agg c.arr,Aa ⟨a.toArray⟩,Aa ⟨b.toArray⟩,Aa ⟨s.toArray⟩,Aa ⟨ak.toArray⟩,Ad m,A7 Ah pc] w λe W=>e=Ag (Ad true)/\A1 w W:=by
 have cP:=J4 c.labels 5 (by omega) (by omega) hk.1;have hp:=Fx c.labels 5 (by omega);generalize BI c.labels 5=p at *;have hw:=FW (1+(p:Int)) (by omega);have r:Hid (Ij w {c with labels:=1+(p:Int)} (w.alloc (Af (c.arr.setIfInBounds 0 (A7 Ah (1+(p:Int)))) 25))):=Ml w {c with labels:=1+(p:Int)};have cO:=pP {c with labels:=1+(p:Int)} _ (Et.below ⟨U.edges,U.ints,U.en,U.bn,U.eb,U.bb⟩ r.below) ⟨⟨by dsimp only;omega,by dsimp only;omega⟩,hk.2⟩ (ht.below r.below).top (JP m) (by cases m<;>decide) bw;rw[show(⟨(JP m).toArray⟩:ByteArray)=⟨#[115,32,49,32]⟩++(if m=true then⟨#[109,97,115,107]⟩else⟨#[100,114,111,112]⟩)++⟨#[10,46,32,48,32,100,114,111,112]⟩ by cases m<;>rfl]at cO;have HO:Hid (∀d,MD {c with labels:=1+(p:Int)} (JP m) d->JR m (Cc d)):=λd hd=>pV (by dsimp only;omega) hd;have HG:=Ap ht;have HS:=Ap c.size;have c0:_=Aj (Value.int Ah c.labels):=Ar (Ml w c).box 0;have f0:=Cx (w.alloc (Af c.arr 25)) w.heap.size 0 _ _ (Ml w c).box;have bs:=J4 pc 4096 (by omega) (by omega) bd;have bt:=J4 pc 7 (by omega) (by omega) bd;have bj:=Ap (Fx pc 4096 (by omega));have bk:=Ap (Fx pc 7 (by omega));generalize BI pc 4096=p1 at *;generalize BI pc 7=p2 at *;have bo:=Ap (FW (1+(p1:Int)) (by have:=bj.out;omega));have bp:=Ap (FW (1+(p2:Int)) (by have:=bk.out;omega));have a4:=ZZ a s b ha hs hb;have a5:=ZZ a ak b ha cd hb;obtain⟨x,am⟩:∃av,Hid (Cr a s b=av):=⟨_,show _=_ from rfl⟩
 obtain⟨y,an⟩:∃av,Hid (Cr a ak b=av):=⟨_,show _=_ from rfl⟩
 rw[am.out]at a4;rw[an.out]at a5;have b0:Hid (x.length<=4000000):=by show _<=_;rw[<-am.out,Mw];omega
 have b5:Hid (y.length<=4000000):=by show _<=_;rw[<-an.out,Mw];omega
 clear U hk ht bw bd;go_enter func3,ntmps3;cases m
 all_goals
  rw[show(if(_:Bool)=true then _ else _:ByteArray)=_ from rfl]at cO
  go_upto_region 10 with(first
   |(go_at_call 4;refine(cP _).mono ?_;clear cP;rintro e w1 ⟨rfl,rfl⟩)
   |(refine B3 rfl 25 _ rfl w.heap.size rfl _ _ _ _ r.box underlying25 rfl (Dg HS) ?_)
   |(go_at_call 5;refine cO.mono ?_;clear cO;rintro e l ⟨d,rfl,hd,hB,z⟩;have Y:=Ap hd;have I:=Ap (r.below.trans (hB.mono r.below.size));have HI:=Ap z;clear hd hB z c0 f0 r)
   |(refine Bg rfl 25 _ _ rfl l.heap.size d.arr rfl rfl 25 _ (Ay l _) (Dg d.size) rfl d.one ?_;rw[F6,AN.arr.eq_1 d])
   |(go_at_call 6;refine(a4 _).mono ?_;clear a4;rintro e w1 ⟨rfl,rfl⟩)
   |(go_at_call 6;refine(a5 _).mono ?_;clear a5;rintro e w1 ⟨rfl,rfl⟩))
  have r:Hid (Ij l (Cc d) (l.alloc (Af #[A7 Ah d.labels,A8 d.ea d.L.length d.ecap,A7 Ah d.dflt,.string d.pol,A7 Ah 0,A7 Ah d.key,A7 Ah 1,A7 Ah d.out,A7 Ah d.depth,A7 Ah d.bytes,A8 d.ba d.B.length d.bcap] 25))):=Ml l (Cc d);generalize l.alloc _=V2 at *;have HK:=Ap (HO d HI);have bv:=(J0 HK.chk).dep;have t:=(J0 HK.chk).byt;have bv:1<=d.depth/\d.depth<=16:=bv;have t:1<=d.bytes/\d.bytes<=4096:=t;have ar:0<=d.depth-1/\d.depth-1<=16:=by omega
  have cg:=FW (d.depth-1) (by omega);have Q:_=Aj (Value.int Ah d.depth):=r.cell 8;have G:_=Aj (Value.int Ah d.bytes):=r.cell 9
  go_wp2_with fail
  go_at_call 7
  refine(Qs _ s _ _ ar t (by omega)).mono ?_;rintro e w3 ⟨b1,rfl,J,M⟩;have ap:=Ap (r.step M);have bg:=Ap J;clear r M J Q G;have Q:_=Aj (Value.int Ah d.depth):=ap.cell 8;have G:_=Aj (Value.int Ah d.bytes):=ap.cell 9
  go_wp2_with fail
  go_at_call 7
  refine(Qs _ ak _ _ ar t (by omega)).mono ?_;rintro e w4 ⟨b2,rfl,J,M⟩;have aq:=Ap (ap.step M);have bh:=Ap J;clear ap M J Q G;have Q:_=Aj (Value.int Ah d.depth):=aq.cell 8;have G:_=Aj (Value.int Ah d.bytes):=aq.cell 9
  go_wp2_with fail
  go_at_call 7
  refine(Qs _ a _ _ ar t (by omega)).mono ?_;rintro e X ⟨b3,rfl,J,M⟩;have ai:=Ap (aq.step M);have bi:=Ap J;clear aq M J Q G;have G:_=Aj (Value.int Ah d.bytes):=ai.cell 9;have ce:=Ks x;have cf:=Ks y;have O:=Ap (I.trans (ai.below.mono I.size));cases b1<;>cases b2<;>cases b3
  rotate_left 7
  focus
   go_upto_region 15 with fail
   all_goals try(go_ret;exact⟨rfl,O⟩)
   have bc:(x.length:Int)<=d.bytes/\(y.length:Int)<=d.bytes:=by assumption
   obtain⟨A0,v⟩:=bi.out (by trivial);obtain⟨S0,q⟩:=bg.out (by trivial);obtain⟨T0,n⟩:=bh.out (by trivial);have au:=q9 HK (b:=b) (by rw[am.out];exact bc.1) (by rw[an.out];exact bc.2) v q n;rw[am.out,an.out]at au;obtain⟨f,a2⟩:∃be,Hid (Fo (Cc d) (x.take ((Cc d).bytes.toNat+1))=be):=⟨_,show _=_ from rfl⟩
   obtain⟨g,a3⟩:∃be,Hid (Fo (Cc d) (y.take ((Cc d).bytes.toNat+1))=be):=⟨_,show _=_ from rfl⟩
   rw[a2.out,a3.out]at au;have bq:=Ap au;have bf:Hid (Et l (Cc d)):=⟨Y.edges,Y.ints,Y.en,Y.bn,Y.eb,Y.bb⟩
   have bl:Hid (∀V,A1 l V->An Ao 8 #[.agg (Cc d).arr,Aa ⟨x.toArray⟩,A7 Ah (1+(p1:Int))] V λe W=>e=Ag (Ab #[.agg (C4 (CD f) (C3 f) (Co f) (D5 f)),Ad true])/\A1 V W):=λV hV=>by
    have h:=YI (Cc d) (λh=>⟨ZX (J0 h) rfl,ZY (J0 h) rfl⟩) V (bf.below hV) ((HG.below (I.trans (hV.mono I.size))).top) x (by have:=b0.out;unfold maxLen;omega) (1+p1) (by omega) (by have:=bj.out;unfold maxLen;omega);rw[ZW HK.chk x a2,show(((1+p1:Nat)):Int)=1+(p1:Int) by omega]at h;exact h
   have bm:Hid (∀V,A1 l V->An Ao 8 #[.agg (Cc d).arr,Aa ⟨y.toArray⟩,A7 Ah (1+(p2:Int))] V λe W=>e=Ag (Ab #[.agg (C4 (CD g) (C3 g) (Co g) (D5 g)),Ad true])/\A1 V W):=λV hV=>by
    have h:=YI (Cc d) (λh=>⟨ZX (J0 h) rfl,ZY (J0 h) rfl⟩) V (bf.below hV) ((HG.below (I.trans (hV.mono I.size))).top) y (by have:=b5.out;unfold maxLen;omega) (1+p2) (by omega) (by have:=bk.out;unfold maxLen;omega);rw[ZW HK.chk y a3,show(((1+p2:Nat)):Int)=1+(p2:Int) by omega]at h;exact h
   have ae:=Ap ai.box;have ac:=Ap ai.below;clear v q n bc bg bh bi au a2 a3 G ce cf ai O;refine aa (λT=>[(94,.agg (Cc d).arr),(95,Aa ⟨x.toArray⟩),(96,A7 Ah pc),(97,A7 Ah p1),(98,A7 Ah (1+(p1:Int))),(99,Ab #[.agg (C4 (CD f) (C3 f) (Co f) (D5 f)),Ad true]),(93,Ab #[.agg (C4 (CD f) (C3 f) (Co f) (D5 f)),Ad true]),(100,.agg (C4 (CD f) (C3 f) (Co f) (D5 f))),(101,Ad true),(22,A9 (Aj ⟨T,0,Ak⟩)),(23,Ad true)]) (ab X (C4 (CD f) (C3 f) (Co f) (D5 f))) (λa9=>?_) (λbr b7 bx a6 z=>?_)
   ·have C:Hid (A1 X {X with drawn:=X.drawn+1}):=(AT _ _).drew;have a8:({X with drawn:=X.drawn+1}:Al).heap[l.heap.size]?=Aj (Af (Cc d).arr 25):=ae.out;have az:=Ap (At ae);refine Cp (S:=λZ=>Z.heap[l.heap.size]?=Aj (Af (Cc d).arr 25)) a8 (by kernel_rfl) ?_;generalize({X with drawn:=X.drawn+1}:Al)=V5 at *;intro q;have H:(V5.alloc (Af Dc 34)).heap[l.heap.size]?=Aj (Af (Cc d).arr 25):=O7 q;have ag:Hid (A1 X (V5.alloc (Af Dc 34))):=C.alloc C.size _;refine AD 0 94 (.agg (Cc d).arr) rfl (λZ hZ=>ZU 16 hZ rfl rfl) q ?_;refine Au 1 95 (Aa ⟨x.toArray⟩) q ?_;refine Au 2 96 (A7 Ah pc) q ?_;have n:=q;have o:=C;refine Gm 3 9 (λK i=>?_) (λK i=>?_)
    rotate_left
    (go_simp;refine i.out _ (V5.alloc (Af Dc 34)) H (λ_=>?_);clear i n o;have n:=H;have o:=ag;have v:=IC;refine Bc 3 (λK i=>?_))
    all_goals
     go_simp;refine(bs _).mono ?_;rintro e W ⟨rfl,rfl⟩;refine i.out _ _ n (λ_=>?_);clear i;refine AD 4 98 (A7 Ah (1+(p1:Int))) rfl (λZ _=>by go_simp<;>exact bo) n ?_
    all_goals
     first
     |(have _:=v;refine Bc 5 (λK i=>?_))
     |(refine Gm 5 9 (λK i=>?_) (λK i=>?_);rotate_left;(go_simp;refine i.out _ (V5.alloc (Af Dc 34)) H (λ_=>?_);clear i n o;have n:=H;have o:=ag;have v:=IC;refine Bc 5 (λK i=>?_)))
    all_goals
     go_simp;refine(bl _ (ac.trans (o.mono ac.size))).mono ?_;rintro e j ⟨rfl,u⟩;simp only[];have D:=Ap (o.trans (u.mono o.size));have k:j.heap[l.heap.size]?=Aj (Af (Cc d).arr 25):=(u.block _ (At n)).trans n
    all_goals
     first
     |(have _:=v;have P:Hid (j.heap[V5.heap.size]?=Aj (Af Dc 34)):=(u.block _ (by simp)).trans (Ay V5 _);have E:Hid (X.heap.size<=V5.heap.size):=C.size;refine i.out _ _ k (λ_=>?_);clear i u;refine Au 6 93 (Ab #[.agg (C4 (CD f) (C3 f) (Co f) (D5 f)),Ad true]) k ?_;refine Au 7 100 (.agg (C4 (CD f) (C3 f) (Co f) (D5 f))) k ?_;refine Au 8 101 (Ad true) k ?_;have R:=k;have ah:=D;generalize V5.heap.size=T at *;generalize j=w7 at *)
     |(refine i.out _ _ k (λ_=>?_);clear i u;refine Au 6 93 (Ab #[.agg (C4 (CD f) (C3 f) (Co f) (D5 f)),Ad true]) k ?_;refine Au 7 100 (.agg (C4 (CD f) (C3 f) (Co f) (D5 f))) k ?_;refine Au 8 101 (Ad true) k ?_;refine Bc 9 (λK i=>?_);go_simp;have R:(j.alloc (Af Dc 34)).heap[l.heap.size]?=Aj (Af (Cc d).arr 25):=O7 k;have ah:Hid (A1 X (j.alloc (Af Dc 34))):=D.alloc D.size _;have P:Hid ((j.alloc (Af Dc 34)).heap[j.heap.size]?=Aj (Af Dc 34)):=Ay j _;have E:Hid (X.heap.size<=j.heap.size):=D.size;refine i.out _ (j.alloc (Af Dc 34)) R (λ_=>?_);clear i;generalize j.heap.size=T at *;generalize j.alloc (Af Dc 34)=w7 at *)
    all_goals
     have aj:(w7.setRow T (C4 (CD f) (C3 f) (Co f) (D5 f))).heap[l.heap.size]?=Aj (Af (Cc d).arr 25):=sx (by have:=E.out;have:=az.out;omega) R;refine ZV 10 22 100 T (CD f) (C3 f) (Co f) (D5 f) (by kernel_rfl) P aj ?_;refine Au 11 23 (Ad true) aj ?_;refine Bw ?_;exact cast (by kernel_rfl) (a9 T _ ⟨Bu ah E _,B4 _ _ _ _ _ _ P,E⟩)
   obtain⟨N,F,_⟩:=z;subst a6;have af:=Ap ((N.block _ (At ae)).trans ae);have ad:=Ap (ac.trans (N.mono ac.size));have a0:=Ap F;generalize b7=X2 at *;clear N F bl ae ac bs bo;simp only[List.foldl];go_simp
   go_upto_region 16 with fail
   refine aa (λT=>[(103,.agg (Cc d).arr),(104,Aa ⟨y.toArray⟩),(105,A7 Ah pc),(106,A7 Ah p2),(107,A7 Ah (1+(p2:Int))),(108,Ab #[.agg (C4 (CD g) (C3 g) (Co g) (D5 g)),Ad true]),(102,Ab #[.agg (C4 (CD g) (C3 g) (Co g) (D5 g)),Ad true]),(109,.agg (C4 (CD g) (C3 g) (Co g) (D5 g))),(110,Ad true),(24,A9 (Aj ⟨T,0,Ak⟩)),(25,Ad true)]) (ab X2 (C4 (CD g) (C3 g) (Co g) (D5 g))) (λa9=>?_) (λb6 b8 bx a6 z=>?_)
   ·have C:Hid (A1 X2 {X2 with drawn:=X2.drawn+1}):=(AT _ _).drew;have a8:({X2 with drawn:=X2.drawn+1}:Al).heap[l.heap.size]?=Aj (Af (Cc d).arr 25):=af.out;have az:=Ap (At af);refine Cp (S:=λZ=>Z.heap[l.heap.size]?=Aj (Af (Cc d).arr 25)) a8 (by kernel_rfl) ?_;generalize({X2 with drawn:=X2.drawn+1}:Al)=V5 at *;intro q;have H:(V5.alloc (Af Dc 34)).heap[l.heap.size]?=Aj (Af (Cc d).arr 25):=O7 q;have ag:Hid (A1 X2 (V5.alloc (Af Dc 34))):=C.alloc C.size _;refine AD 0 103 (.agg (Cc d).arr) rfl (λZ hZ=>ZU 16 hZ rfl rfl) q ?_;refine Au 1 104 (Aa ⟨y.toArray⟩) q ?_;refine Au 2 105 (A7 Ah pc) q ?_;have n:=q;have o:=C;refine Gm 3 9 (λK i=>?_) (λK i=>?_)
    rotate_left
    (go_simp;refine i.out _ (V5.alloc (Af Dc 34)) H (λ_=>?_);clear i n o;have n:=H;have o:=ag;have v:=IC;refine Bc 3 (λK i=>?_))
    all_goals
     go_simp;refine(bt _).mono ?_;rintro e W ⟨rfl,rfl⟩;refine i.out _ _ n (λ_=>?_);clear i;refine AD 4 107 (A7 Ah (1+(p2:Int))) rfl (λZ _=>by go_simp<;>exact bp) n ?_
    all_goals
     first
     |(have _:=v;refine Bc 5 (λK i=>?_))
     |(refine Gm 5 9 (λK i=>?_) (λK i=>?_);rotate_left;(go_simp;refine i.out _ (V5.alloc (Af Dc 34)) H (λ_=>?_);clear i n o;have n:=H;have o:=ag;have v:=IC;refine Bc 5 (λK i=>?_)))
    all_goals
     go_simp;refine(bm _ (ad.trans (o.mono ad.size))).mono ?_;rintro e j ⟨rfl,u⟩;simp only[];have D:=Ap (o.trans (u.mono o.size));have k:j.heap[l.heap.size]?=Aj (Af (Cc d).arr 25):=(u.block _ (At n)).trans n
    all_goals
     first
     |(have _:=v;have P:Hid (j.heap[V5.heap.size]?=Aj (Af Dc 34)):=(u.block _ (by simp)).trans (Ay V5 _);have E:Hid (X2.heap.size<=V5.heap.size):=C.size;refine i.out _ _ k (λ_=>?_);clear i u;refine Au 6 102 (Ab #[.agg (C4 (CD g) (C3 g) (Co g) (D5 g)),Ad true]) k ?_;refine Au 7 109 (.agg (C4 (CD g) (C3 g) (Co g) (D5 g))) k ?_;refine Au 8 110 (Ad true) k ?_;have R:=k;have ah:=D;generalize V5.heap.size=T at *;generalize j=w7 at *)
     |(refine i.out _ _ k (λ_=>?_);clear i u;refine Au 6 102 (Ab #[.agg (C4 (CD g) (C3 g) (Co g) (D5 g)),Ad true]) k ?_;refine Au 7 109 (.agg (C4 (CD g) (C3 g) (Co g) (D5 g))) k ?_;refine Au 8 110 (Ad true) k ?_;refine Bc 9 (λK i=>?_);go_simp;have R:(j.alloc (Af Dc 34)).heap[l.heap.size]?=Aj (Af (Cc d).arr 25):=O7 k;have ah:Hid (A1 X2 (j.alloc (Af Dc 34))):=D.alloc D.size _;have P:Hid ((j.alloc (Af Dc 34)).heap[j.heap.size]?=Aj (Af Dc 34)):=Ay j _;have E:Hid (X2.heap.size<=j.heap.size):=D.size;refine i.out _ (j.alloc (Af Dc 34)) R (λ_=>?_);clear i;generalize j.heap.size=T at *;generalize j.alloc (Af Dc 34)=w7 at *)
    all_goals
     have aj:(w7.setRow T (C4 (CD g) (C3 g) (Co g) (D5 g))).heap[l.heap.size]?=Aj (Af (Cc d).arr 25):=sx (by have:=E.out;have:=az.out;omega) R;refine ZV 10 24 109 T (CD g) (C3 g) (Co g) (D5 g) (by kernel_rfl) P aj ?_;refine Au 11 25 (Ad true) aj ?_;refine Bw ?_;exact cast (by kernel_rfl) (a9 T _ ⟨Bu ah E _,B4 _ _ _ _ _ _ P,E⟩)
   obtain⟨N,F,_⟩:=z;subst a6;obtain⟨e1,e2,e3,e4⟩:=bq.out;rw[<-e1,<-e2,<-e3]at F;have A:=Ap ((N.block _ (At a0)).trans a0);have ao:=Ap F;have aw:=Ap ((N.block _ (At af)).trans af);have O:=Ap (I.trans ((ad.trans (N.mono ad.size)).mono I.size));have ay:=Ap e4;generalize b8=X3 at *;simp only[List.foldl];go_simp;clear N F bm af ad bt bp a0 bq e1 e2 e3 e4;have x0:_=Aj (Value.string ⟨(CD f).toArray⟩):=Ar A 0;have x5:_=Aj (Value.int Ah (Co f)):=Ar A 5;have y0:_=Aj (Value.string ⟨(CD f).toArray⟩):=Ar ao 0;have y5:_=Aj (Value.int Ah (Co f)):=Ar ao 5;have Q:_=Aj (Value.int Ah d.depth):=Ar aw 8;have G:_=Aj (Value.int Ah d.bytes):=Ar aw 9;have f1:(Co f != Co f)=false:=by simp
   have f2:(CD f != CD f)=false:=by simp
   have b9:(AZ (C3 f))[0]?=Aj (A7 Ah (C3 f).1):=rfl;have ca:(AZ (C3 f))[1]?=Aj (A7 Ah (C3 f).2.1):=rfl;have cb:(AZ (C3 f))[2]?=Aj (A7 Ah (C3 f).2.2.1):=rfl;have cc:(AZ (C3 f))[3]?=Aj (A7 Ah (C3 f).2.2.2):=rfl
   go_wp2_with(first
    |(refine Px 31 (.tmp 132) rfl rfl br 1 rfl (AZ (C3 f)) _ (YJ _ _ _ _ A) underlying31 rfl (EY _) ?_)
    |(refine Px 31 (.tmp 134) rfl rfl b6 1 rfl (AZ (C3 f)) _ (YJ _ _ _ _ ao) underlying31 rfl (EY _) ?_))
   go_at_call 7
   refine(Qs _ b _ _ ar t (by omega)).mono ?_;rintro e w9 ⟨b4,rfl,h4,a7⟩;have a1:=Ap ((a7.block _ (At A)).trans A);have al:=Ap (O.trans (a7.mono O.size));have ax:=Ap h4;clear a7 h4 x0 x5 y0 y5 Q G f1 f2 b9 ca cb cc ao A aw O;have x5:_=Aj (Value.int Ah (Co f)):=Ar a1 5;cases b4
   ·go_wp2;go_ret;exact⟨rfl,al⟩
   rcases ay.out (ax (by trivial))with⟨e5,h5⟩|e5
   ·rw[e5]at x5 a1;have cH:=sd (CD f) (C3 f) 0 (D5 f) _ w9 h5;clear h5 e5 ay ax
    go_wp2_with(first
     |(refine CA 34 _ rfl rfl br rfl _ _ _ _ a1 underlying34 rfl (Mu _ _ _ _) ?_)
     |(go_at_call 9;refine cH.mono ?_;clear cH;rintro e ch ⟨rfl,bu⟩;have bz:=Ap (al.trans (bu.mono al.size));clear bu))
    go_ret;exact⟨rfl,bz⟩
   rw[e5]at x5;clear ay ax;go_wp2;go_ret;exact⟨rfl,al⟩
  all_goals
   go_wp2;go_ret;exact⟨rfl,O⟩
end
section
open Go.ChangeShapes Go.WideShapes Go.ChangeAt Go.RowKit Go.Lib Go.Deep
theorem sf{H:Type}{t1:TypeId}{ts:List TypeId}{d0:DataW H}{ds gs:List (DataW H)}(h:(DataW.weightsEach P ((t1::ts)++[]) ((d0::ds)++gs)).all (·<=reachBytes)=true):(d0.weights P t1).all (·<=reachBytes)=true:=by
 simp only[I8,DataW.weightsEach,LE,Ch]at h;exact h.1
theorem sj(H:Type)(enc:TypeId×Am->H)(W:Al)(args:A4)(ds i:List (DataW H))(L:List MemPlace)(K:Nat)(f:∀(j:Nat) t v,f3.params[j]?=Aj t->args[j]?=Aj v->Value.okWide Ao W .any K t v)(r:DataW.Whole enc Ao f3.params.toList Rows.hiddenSpec.vars false W args.toList ds i L)(hk:Rows.uptoSmall H (ds++i)=true)(z:(DataW.weightsEach Ao (f3.params.toList++[]) (ds++i)).all (·<=reachBytes)=true)(Y:laidMetH Ao Rows.hiddenUptoRow.laid W)(q:W.ShapedOpen Ao):An Ao 3 args W λe k=>∃v,e=Ag v/\Rows.hiddenSpec.post enc Ao f3 false true false false W args v k:=by
 have u:=r;obtain⟨ae,ao,V,hV,rfl,am,an⟩:=r;have d:DataW.TrodAll enc Ao W 0 (λ_=>true) true f3.params.toList args.toList ds ae:=V;rw[Tryz.params3]at d z f;obtain⟨C,ap,l,af,A,q0,N,rfl,rfl,O,d⟩:=trodAll_cons d;obtain⟨D,aq,d1,ag,p1,q1,rfl,rfl,rfl,P,d⟩:=trodAll_cons d;obtain⟨E,ar,d2,ah,p2,q2,rfl,rfl,rfl,Q,d⟩:=trodAll_cons d;obtain⟨F,au,d3,ai,p3,q3,rfl,rfl,rfl,R,d⟩:=trodAll_cons d;obtain⟨G,av,d4,aj,p4,q4,rfl,rfl,rfl,S,d⟩:=trodAll_cons d;obtain⟨I,aw,d5,ak,p5,q5,rfl,rfl,rfl,T,d⟩:=trodAll_cons d;obtain⟨J,ax,d6,al,p6,q6,rfl,rfl,rfl,U,d⟩:=trodAll_cons d;obtain⟨rfl,rfl,rfl⟩:=trodAll_nil d;obtain rfl:args=#[C,D,E,F,G,I,J]:=KL N;obtain⟨rfl,rfl⟩:=trodVars_none hV;obtain⟨M,rfl,_⟩:=okWide_struct underlying25 (f 0 25 C rfl rfl);have ad:=sf z;obtain⟨a,rfl,rfl,rfl,ha⟩:=Om underlying9 (f 1 9 D rfl rfl) P;obtain⟨b,rfl,rfl,rfl,hb⟩:=Om underlying9 (f 2 9 E rfl rfl) Q;obtain⟨s,rfl,rfl,rfl,hs⟩:=Om underlying9 (f 3 9 F rfl rfl) R;obtain⟨t,rfl,rfl,rfl,ht⟩:=Om underlying9 (f 4 9 G rfl rfl) S;obtain⟨m,rfl,rfl,rfl⟩:=open_bool underlying4 (f 5 4 I rfl rfl) T;obtain⟨B,rfl,rfl,rfl,y⟩:=open_int underlying3 (f 6 3 J rfl rfl) U;obtain⟨n0,n⟩:=O;obtain⟨c,aa,X,g,Z⟩:=aY (x:=(l,A)) n ad;have p:M=c.arr:=KL aa;subst p;have ab:Rows.uptoBulkAll [l,.lit (.string a.data.toList),.lit (.string b.data.toList),.lit (.string s.data.toList),.lit (.string t.data.toList),.lit (.bool m),.lit (.int Ah B)]<=1048576:=By hk;simp only[Rows.uptoBulkAll,Rows.uptoBulk]at ab;have w:=se c W X ⟨g _ (by simp),g _ (by simp),g _ (by simp),g _ (by simp),g _ (by simp),g _ (by simp),g _ (by simp)⟩ (pb Y q) a.data.toList b.data.toList s.data.toList t.data.toList m B (Jg y) Z (by omega) (by omega) (by omega) (by omega);have ac:∀s:ByteArray,(⟨s.data.toList.toArray⟩:ByteArray)=s:=λs=>by
  apply LI;simp
 simp only[ac]at w;refine w.mono ?_;rintro e k ⟨rfl,o⟩;refine⟨_,rfl,_,[],_,[],A++([]++([]++([]++([]++([]++[]))))),[],u,trodAll_mk1 (shut_bool underlying4 true),?_,rfl,o.frame _,λh=>by cases h⟩;exact⟨_,_,Below.trod Tryz.laidOut (by kernel_rfl) (By (by kernel_rfl)) ⟨n0,n⟩ o (λx hx=>u.lt x (by simp[hx])),⟨_,_,On underlying9 ha,⟨_,_,On underlying9 hb,⟨_,_,On underlying9 hs,⟨_,_,On underlying9 ht,⟨_,_,shut_bool underlying4 m,trodAll_mk1 (shut_int underlying3 y),rfl⟩,rfl⟩,rfl⟩,rfl⟩,rfl⟩,rfl⟩
def Qt:A4:=#[.agg aZ.arr,.string ByteArray.empty,.string ByteArray.empty,.string ByteArray.empty,.string ByteArray.empty,Ad false,A7 Ah 0]
theorem sm(a:Os):laidMet Ao Rows.hiddenUptoRow.laid ((Ri (World.holding Ao a ⟨#[],#[],[]⟩)).forCall (λ_ _=>0) ⟨#[],Qt,[]⟩).memory :=
 laidMet_of_run' 8 (by kernel_rfl) (by kernel_rfl)
theorem sn(a:Os){H:Type}(enc:TypeId×Am->H):∃b,DataW.whole enc Ao ((Ri (World.holding Ao a ⟨#[],#[],[]⟩)).forCall (λ_ _=>0) ⟨#[],Qt,[]⟩).memory f3.params.toList Rows.hiddenSpec.vars false Qt.toList 8=Aj ([.agg [.lit (.int Ah 0),.nil,.lit (.int Ah 0),.lit (.string []),.lit (.int Ah 0),.lit (.int Ah 0),.lit (.int Ah 0),.lit (.int Ah 0),.lit (.int Ah 0),.lit (.int Ah 0),.nil],.lit (.string []),.lit (.string []),.lit (.string []),.lit (.string []),.lit (.bool false),.lit (.int Ah 0)],[],b) :=
 ⟨[],by kernel_rfl⟩
end
section
open Go.ChangeShapes Go.WideShapes Go.ChangeAt Go.RowKit Go.Lib
theorem sq(a:Os)(o:a.Started)(H:Type)(enc:TypeId×Am->H)(F:Stop.Interp):ReturnsInHanded {} Tryz.checked a 3 .any ((Rows.OpenSpec.upto Rows.hiddenSpec).preRow enc Ao f3 Rows.hiddenUptoRow.domain false Rows.hiddenUptoRow.laid) (((Rows.OpenSpec.upto Rows.hiddenSpec).at F).post enc Ao f3 false true false false):=by
 obtain⟨p,n⟩:=sn a enc;refine returnsInHanded_of_row (C:=Tryz.checked) (s:=Rows.OpenSpec.upto Rows.hiddenSpec) Tryz.own o (by kernel_rfl) func3
  (witness_row_at (enc:=enc) (C:=Tryz.checked) false (Ri (World.holding Ao a ⟨#[],#[],[]⟩)) Qt rfl (by kernel_rfl) (by kernel_rfl) (by kernel_rfl)
   (OpenSpec.preRow_of_cond 8 n (by kernel_rfl) (λk b=>by obtain rfl:=CX b;kernel_rfl) (by kernel_rfl) (sm a))) ?_
 intro W d c f g e l j _ b m h i _;exact sj H enc W c f g e d l j (b _ rfl) m h i
theorem sr:(Rows.hiddenUptoRow.inPlace==Tryz.pinned.checked.prog.inPlace 3)=true:=by kernel_rfl
theorem su:(Rows.hiddenUptoRow.unfollowed==Tryz.pinned.checked.prog.unfollowed 3)=true:=by kernel_rfl
theorem sw:(Rows.hiddenUptoRow.recurses==Tryz.pinned.checked.prog.recurses 3)=true:=by kernel_rfl
theorem sy:(Rows.hiddenUptoRow.named==Tryz.pinned.checked.prog.varsNamed 3)=true:=by kernel_rfl
theorem sA:joinedFacts Tryz.pinned.checked.prog 3 f3 (Rows.OpenSpec.upto Rows.hiddenSpec).bare Rows.hiddenUptoRow=true:=by
 unfold joinedFacts;rw[sr,su,sw,sy];kernel_rfl
theorem sB:Rows.HiddenUptoSaid :=
 OpenClaim.holds_of_cond 3 f3 rfl rfl rfl rfl rfl rfl rfl ⟨rfl,rfl,rfl,rfl,rfl⟩ rfl rfl rfl rfl rfl (by kernel_rfl) func3 sA
  (By (by kernel_rfl)) (by unfold Func.isWrapper;first|(rw[As (by decide +kernel)];kernel_rfl)|(rw[Aq (by decide +kernel)];exact⟨rfl,rfl⟩))
  (λb c H a _ F=>by rw[OpenClaim.pre_eq_preRow];exact sq b c H a F)
theorem sC(f:FuncId)(a:Func)(c:Tryz.pinned.checked.prog.funcNamed Rows.hiddenUptoRow.func=Aj f)(d:Tryz.pinned.checked.prog.funcs[f]?=Aj a):true=Tryz.pinned.checked.prog.looks []/\∀(j:Nat) t,a.params[j]?=Aj t->Tryz.pinned.checked.prog.wantsStandIn t=false:=by
 obtain rfl:f=3:=CX ((show prog.funcNamed Rows.hiddenUptoRow.func=Aj 3 by kernel_rfl).symm.trans c) |>.symm;obtain rfl:a=f3:=(CX (func3.symm.trans d)).symm;refine⟨by kernel_rfl,λj t b=>?_⟩;rw[Tryz.params3]at b;have e:t∈#[(25:TypeId),9,9,9,9,4,3]:=Array.mem_of_getElem? b;rcases(by simpa using e:t=25\/t=9\/t=4\/t=3)with rfl|rfl|rfl|rfl
 ·exact(show prog.wantsStandIn 25=false by kernel_rfl)
 ·exact(show prog.wantsStandIn 9=false by kernel_rfl)
 ·exact(show prog.wantsStandIn 4=false by kernel_rfl)
 exact(show prog.wantsStandIn 3=false by kernel_rfl)
theorem hidden_card:Rows.HiddenUptoCardSaid :=
 Claim7.holds_tied_plain_at .later [] _ _ _ _ sB (λ_ h=>by cases h) (by kernel_rfl) (λ_ h=>by cases h) hiddenUpto_row_tie rfl ⟨rfl,rfl⟩ (by kernel_rfl) rfl sC (by kernel_rfl)
#print axioms hidden_card
end
end Go.Proofs.YtoegnhgofkhbnaaGreatDoor
