import Derived.Test.YtnlnjkggkbbdhaaGreatDoorTq25
import Derived.Test.YtnlnjkggkbbdhaaGreatDoorTq22
set_option maxRecDepth 100000
set_option maxHeartbeats 8000000
set_option linter.all false
namespace Go.Proofs.YtnlnjkggkbbdhaaGreatDoor
open Go.Proofs.Tryz
open Option renaming some->U,none->Y
open Go renaming World->O
open Go.Obj renaming cells->E
variable{hd:Nat->Nat×Nat×Nat}{H bs l rest:A1}{lim z:Int}{b k last n p q so:Nat}{c:UInt8}{rd:Nat->Except (Int×Int) (DataW Unit×Nat)}{f:A2->A1}{kl ks:List A1}{P:A2->Prop}{d:A2}{ds:List (DataW Unit)}{V V' W:O}{kv u:Value}{xs:List Value}{ex:Nat->Prop}{A y:A3}
section
open Go.RowKit Go.Lib
def G1(fm:Int)(k:Nat)(d:A2):A1:=if fm=1 then J0 k d else if fm=2 then CC k d else GD k d
def aU(key:Int)(a:Nat)(l:A1):(EM key a l).length=16:=jN _ (TM _ _ (NB _ _))
def RG(x:Nat):∀k,(BY x k).length=k
 |0=>rfl
 |k+1=>by unfold BY;rw[Cu,RG x k]
def N5(s x:Nat):(BW s x).length<=9:=by
 unfold BW
 repeat' split
 all_goals simp[RG]
def Pu(x:Nat):(Fc x).length<=9/\(Fd x).length<=9/\(EY x).length<=9/\(CY x).length<=9/\(GB x).length<=9:=by
 unfold Fc Fd EY CY GB;refine⟨?_,?_,?_,?_,?_⟩
 all_goals repeat' split
 all_goals simp[RG]
def qF(z:Int):(IT z).length<=9:=by
 unfold IT;split
 ·unfold Ha
  repeat' split
  all_goals simp[RG]
 exact(Pu _).2.2.2.2
def qG(z:Int):(Hb z).length<=9:=by
 unfold Hb;split<;>exact N5 _ _
def UR{α:Type}(f:α->A1)(m:α->Nat):∀(l:List α),(∀a,a∈l->(f a).length<=m a)->(l.flatMap f).length<=(l.map m).sum
 |[],_=>BM _
 |a::l,h=>by
  have d:=h a (Hl ..);have e:=UR f m l λb c=>h b (I2 _ c);rw[Kc,BK,EU,Ms];omega
def RH(c f g a:Nat->List UInt8)(j:Bool->List UInt8)(i:List UInt8)(nm:Int->List UInt8)(h:∀x,(c x).length<=9/\(f x).length<=9/\(g x).length<=9/\(a x).length<=9)(m:∀b,(j b).length<=9)(o:i.length<=9)(n:∀z,(nm z).length<=9):∀(k:Nat) (d:DataW Unit),(GC c f g a j i nm k d).length<=Ex k d
 |0,_=>BM _
 |k+1,d=>by
  unfold GC;split
  ·show _<=200;omega
  ·show _<=200;have:=m ‹Bool›;omega
  ·show _<=200;have:=n ‹Int›;omega
  ·next l=>show _<=200+6*l.length;have:=h l.length;rw[BK];omega
  ·next l=>show _<=200+6*l.length;have:=h l.length;rw[BK];omega
  ·next ds =>
   show _<=200+(ds.map λd=>30+Ex k d).sum;have p:=h ds.length;have q:=UR (GC c f g a j i nm k) (λd=>30+Ex k d) ds (λd _=>C7 (RH c f g a j i nm h m o n k d) (I6 _ _));rw[BK];omega
  ·next es =>
   show _<=200+(es.map λe=>100+6*(Cq e.1).length+Ex k e.2).sum;have p:=h es.length;have q:=UR (λe:Lit×DataW Unit=>(a (Cq e.1).length++Cq e.1)++GC c f g a j i nm k e.2) (λe=>100+6*(Cq e.1).length+Ex k e.2) es (λe _=>by
    have r:=RH c f g a j i nm h m o n k e.2;have s:=h (Cq e.1).length;rw[BK,BK];omega)
   rw[BK];omega
  exact DK _
def US(k:Nat)(d:A2):(CC k d).length<=Ex k d :=
 RH _ _ _ _ _ _ _ (λx=>⟨N5 _ _,N5 _ _,N5 _ _,N5 _ _⟩) (λb=>by unfold Tx;cases b<;>exact N5 _ _) (N5 _ _) qG k d
def qH(k:Nat)(d:A2):(GD k d).length<=Ex k d :=
 RH _ _ _ _ _ _ _ (λx=>⟨(Pu x).1,(Pu x).2.1,(Pu x).2.2.1,(Pu x).2.2.2.1⟩) (λb=>by unfold Ty;cases b<;>decide) Ay qF k d
def UT:∀(k:Nat) (d:A2),30*DH k d<=Ex k d
 |0,_=>BM _
 |k+1,d=>by
  unfold DH Ex;split
  ·next ds =>
   have b:30*(ds.map λd=>1+DH k d).sum<=(ds.map λd=>30+Ex k d).sum:=by
    induction ds with
    |nil=>exact BM _
    |cons a l c =>
     have:=UT k a;rw[EU,Ms,EU,Ms];omega
   simp only[];omega
  ·next es =>
   have b:30*(es.map λe=>2+DH k e.2).sum<=(es.map λe=>100+6*(Cq e.1).length+Ex k e.2).sum:=by
    induction es with
    |nil=>exact BM _
    |cons a l c =>
     have:=UT k a.2;rw[EU,Ms,EU,Ms];omega
   simp only[];omega
  split<;>omega
end
section
open Go.RowKit
def K5(hd:Nat->Nat×Nat×Nat)(bs:A1)(lim:Int):A5 Int :=
 match bs[0]? with
 |none=>.error (9,0)
 |some c=>if(hd c.toNat).1=4\/(hd c.toNat).1=5\/(hd c.toNat).1=6 then match D4 bs lim (hd c.toNat).2.1 1 (hd c.toNat).2.2 with
  |.error e=>.error e
  |.ok (x,p)=>match DC (hd c.toNat).1 (hd c.toNat).2.1 x p with
   |.error e=>.error e
   |.ok z=>.ok (z,p)
  else .error (0,0)
def sU(h:K5 hd bs lim=.ok (z,p)):∃c x,bs[0]?=U c/\((hd c.toNat).1=4\/(hd c.toNat).1=5\/(hd c.toNat).1=6)/\D4 bs lim (hd c.toNat).2.1 1 (hd c.toNat).2.2=.ok (x,p)/\DC (hd c.toNat).1 (hd c.toNat).2.1 x p=.ok z:=by
 unfold K5 at h;split at h
 ·cases h
 next c hc =>
 split at h
 ·next hs =>
  split at h
  ·cases h
  next x q hx =>
  split at h
  ·cases h
  next y hy =>
  cases h;exact⟨c,x,hc,hs,hx,hy⟩
 cases h
def VC(bs:A1)(lim:Int)(g:(bs.length:Int)<=lim)(x:Nat):∀(k p a:Nat) (b:A1),bs.drop p=BY x k++b->D4 bs lim k p a=.ok (a*256^k+x%256^k,p+k)
 |0,p,a,b,_=>by
  unfold D4;simp[Nat.mod_one]
 |k+1,p,a,b,h=>by
  obtain⟨c,f⟩:=sT (show bs.drop p=UInt8.ofNat (x/2^(8*k)%256)::(BY x k++b)from h);have i:p<bs.length:=(Ja.1 c).1;have d:(UInt8.ofNat (x/2^(8*k)%256)).toNat=x/256^k%256:=by
   rw[JF,Nat.pow_mul,show(2:Nat)^8=256 from rfl,T5]
  rw[D4,c];simp only[];rw[Bz J,VC bs lim g x k (p+1) _ b f,d];have e:(a*256+x/256^k%256)*256^k+x%256^k=a*256^(k+1)+x%256^(k+1):=by
   rw[Nat.mod_pow_succ,Nat.add_mul,Jf,JJ (x/256^k%256),Qo a 256,JJ 256];omega
  rw[e,show p+1+k=p+(k+1) by omega]
def Lz(b:Nat->Nat×Nat×Nat)(c:UInt8)(x k a:Nat)(lim:Int)(z:Int)(f:a=4\/a=5\/a=6)(d:b c.toNat=(a,k,0))(g:x%256^k=x)(e:DC a k x (1+k:Nat)=.ok z)(h:(k:Int)<lim)(hb:∀k,(BY x k).length=k):K5 b (c::BY x k) lim=.ok (z,(c::BY x k).length):=by
 unfold K5;simp only[Wl];rw[d];rw[BA f];have:=VC (c::BY x k) lim (by simp only[Cu,hb];omega) x k 1 0 [] Az;simp only[];rw[this];simp only[Qq,DY,g];rw[e];simp only[Cu,hb,SW]
def VD(b:Nat->Nat×Nat×Nat)(c:UInt8)(x a:Nat)(lim:Int)(z:Int)(f:a=4\/a=5\/a=6)(d:b c.toNat=(a,0,x))(e:DC a 0 x 1=.ok z):K5 b [c] lim=.ok (z,[c].length):=by
 unfold K5;simp only[Wl];rw[d];simp only[D4];rw[BA f];rw[show DC (a:Int) ((0:Nat):Int) x ((1:Nat):Int)=.ok z from e];rfl
def K6(x:Nat):∀k,(BY x k).length=k
 |0=>rfl
 |k+1=>by rw[BY,Cu,K6 x k]
def bY(w:Int)(x:Nat)(p:Int)(h:x<=9223372036854775807):DC 4 w x p=.ok (x:Int):=by
 unfold DC;rw[Bz Ay,Bz J,Bz Ay]
def sV(w:Int)(x:Nat)(p:Int)(h:x<=9223372036854775807):DC 6 w x p=.ok (-1-(x:Int)):=by
 unfold DC;rw[Bz Ay,Bz J,BA Ay]
def bZ(w:Int)(x:Nat)(p:Int):DC 5 w x p=.ok (GX x w):=by
 unfold DC;rw[BA Ay]
def sW(s x:Nat)(d:s<2)(e:x<24):DT (UInt8.ofNat (32*s+x)).toNat=(if s=0 then 4 else 6,0,x):=by
 rw[JF,FC J];have a:(32*s+x)/32=s:=J
 have b:(32*s+x)%32=x:=J
 unfold DT;rw[a,b];have c:s=0\/s=1:=J
 rw[Bz J,Bz J,Bz J];rcases c with rfl|rfl
 ·rw[Bz (by simp[It];omega),Bz J];rfl
 rw[Bz (by simp[It];omega),Bz J];rfl
def c9(s x:Nat)(f:s<2)(lim:Int)(g:8<lim)(z:Int)(h:x<=9223372036854775807)(a:∀w p,DC (if s=0 then(4:Nat)else 6:Nat) w x p=.ok z):K5 DT (BW s x) lim=.ok (z,(BW s x).length):=by
 have b:s=0\/s=1:=J
 unfold BW;by_cases c:x<24
 ·rw[BA c];exact VD DT _ x _ lim z kfh (sW s x f c) (a _ _)
 rw[Bz c];by_cases d:x<=255
 ·rw[BA d];refine Lz DT _ x 1 (if s=0 then 4 else 6) lim z kfh ?_ J (a _ _) J (K6 x);rcases b with rfl|rfl<;>rfl
 rw[Bz d];by_cases c2:x<=65535
 ·rw[BA c2];refine Lz DT _ x 2 (if s=0 then 4 else 6) lim z kfh ?_ J (a _ _) J (K6 x);rcases b with rfl|rfl<;>rfl
 rw[Bz c2];by_cases e:x<=4294967295
 ·rw[BA e];refine Lz DT _ x 4 (if s=0 then 4 else 6) lim z kfh ?_ J (a _ _) J (K6 x);rcases b with rfl|rfl<;>rfl
 rw[Bz e];refine Lz DT _ x 8 (if s=0 then 4 else 6) lim z kfh ?_ J (a _ _) J (K6 x);rcases b with rfl|rfl<;>rfl
def sX(z:Int)(lim:Int)(a:8<lim)(c : -9223372036854775808<=z)(d:z<=9223372036854775807):K5 DT (Hb z) lim=.ok (z,(Hb z).length):=by
 unfold Hb;by_cases b:z<0
 ·rw[BA b];refine c9 1 _ Ay lim a z J λw p=>?_;rw[Bz Ay];exact(sV w _ p J).trans kfs
 rw[Bz b];refine c9 0 _ Ay lim a z J λw p=>?_;rw[BA rfl];exact(bY w _ p J).trans kfs
def sY(x:Nat):GX x (1:Nat)=((x:Int)+128)%256-128:=by
 unfold GX;rw[BA Ay];have e:IntKind.i8.wrap x=((x:Int)+128)%256-128:=by
  unfold IntKind.wrap;simp only[IntKind.bits,IntKind.signed,GS];split<;>rename_i h<;>simp at h<;>omega
 rw[e];unfold wrap64;omega
def sZ(x:Nat):GX x (2:Nat)=((x:Int)+32768)%65536-32768:=by
 unfold GX;rw[Bz Ay,BA Ay];have e:IntKind.i16.wrap x=((x:Int)+32768)%65536-32768:=by
  unfold IntKind.wrap;simp only[IntKind.bits,IntKind.signed,GS];split<;>rename_i h<;>simp at h<;>omega
 rw[e];unfold wrap64;omega
def t5(x:Nat):GX x (4:Nat)=((x:Int)+2147483648)%4294967296-2147483648:=by
 unfold GX;rw[Bz Ay,Bz Ay,BA Ay];unfold wrap64 wrap32;omega
def t6(x:Nat):GX x (8:Nat)=wrap64 x:=by
 unfold GX;rw[Bz Ay,Bz Ay,Bz Ay]
def t7(x:Nat):GX x 0=wrap64 x:=by
 unfold GX;rw[Bz Ay,Bz Ay,Bz Ay]
def cd(x y:Nat):∀k m,k<=m->x%256^m=y%256^m->BY x k=BY y k
 |0,m,_,_=>rfl
 |k+1,m,hk,h=>by
  have a:∀u:Nat,u/2^(8*k)%256=u%256^m/256^k%256:=by
   intro u;rw[Nat.pow_mul,show(2:Nat)^8=256 from rfl];obtain⟨j,rfl⟩:∃j,m=(k+1)+j:=⟨m-(k+1),J⟩
   have b:u%256^(k+1+j)/256^k%256=u%256^(k+1+j)%256^(k+1)/256^k:=by
    rw[Jf,Wi]
   have c:u%256^(k+1+j)%256^(k+1)=u%256^(k+1):=Nat.mod_mod_of_dvd _ ⟨256^j,Nat.pow_add ..⟩;rw[b,c,Jf,Wi]
  rw[BY,BY,a x,a y,h,cd x y k m J h]
def S4(z:Int)(k so lim)(c:UInt8)(f:k=1\/k=2\/k=4\/k=8)(a:CX c.toNat=(so,k,0))(d:so=5)(g:(8:Int)<lim)(b:GX ((z%18446744073709551616).toNat%256^k) (k:Nat)=z):K5 CX (c::BY (z%18446744073709551616).toNat k) lim=.ok (z,(c::BY (z%18446744073709551616).toNat k).length):=by
 subst d;have e:BY (z%18446744073709551616).toNat k=BY ((z%18446744073709551616).toNat%256^k) k:=cd _ _ k k (BM _) (T5 _ _).symm;rw[e];refine Lz CX c _ k 5 lim z Az a (T5 _ _) ?_ J (K6 _);exact(bZ _ _ _).trans (by rw[b])
def t8(z:Int)(lim:Int)(e:8<lim)(j : -9223372036854775808<=z)(k:z<=9223372036854775807):K5 CX (IT z) lim=.ok (z,(IT z).length):=by
 unfold IT;by_cases g:z<0
 ·rw[BA g];unfold Ha;by_cases a : -32<=z
  ·rw[BA a];have h:(z%256).toNat=(256+z).toNat:=J
   have f:(UInt8.ofNat (z%256).toNat).toNat=(256+z).toNat:=by rw[JF,h,FC J]
   refine VD CX _ (18446744073709551360+(256+z).toNat) 5 lim z Az ?_ ?_
   ·rw[f];unfold CX;rw[Bz J,Bz J,Bz J,Bz J,Bz J]
   have i:wrap64 ((18446744073709551360+(256+z).toNat:Nat):Int)=z:=by
    unfold wrap64;omega
   generalize 18446744073709551360+(256+z).toNat=x at *;rw[<-i,<-t7];exact bZ _ _ _
  rw[Bz a];by_cases b : -128<=z
  ·rw[BA b];refine S4 z 1 5 lim 208 (.inl Z) Bk Z e ?_;rw[sY];omega
  rw[Bz b];by_cases c2 : -32768<=z
  ·rw[BA c2];refine S4 z 2 5 lim 209 (.inr (.inl Z)) Bk Z e ?_;rw[sZ];omega
  rw[Bz c2];by_cases c : -2147483648<=z
  ·rw[BA c];refine S4 z 4 5 lim 210 (.inr (.inr (.inl Z))) Bk Z e ?_;rw[t5];omega
  rw[Bz c];refine S4 z 8 5 lim 211 (.inr (.inr (.inr Z))) Bk Z e ?_;rw[t6];unfold wrap64;omega
 rw[Bz g];have d:∀w p,DC (4:Nat) w z.toNat p=.ok z:=λw p=>(bY w _ p J).trans kfs;unfold GB;by_cases a:z.toNat<128
 ·rw[BA a];have f:(UInt8.ofNat z.toNat).toNat=z.toNat:=by rw[JF,FC J]
  refine VD CX _ z.toNat 4 lim z Az ?_ (d _ _);rw[f];unfold CX;rw[BA a]
 rw[Bz a];by_cases b:z.toNat<=255
 ·rw[BA b];exact Lz CX _ z.toNat 1 4 lim z Az Bk J (d _ _) J (K6 _)
 rw[Bz b];by_cases c2:z.toNat<=65535
 ·rw[BA c2];exact Lz CX _ z.toNat 2 4 lim z Az Bk J (d _ _) J (K6 _)
 rw[Bz c2];by_cases c:z.toNat<=4294967295
 ·rw[BA c];exact Lz CX _ z.toNat 4 4 lim z Az Bk J (d _ _) J (K6 _)
 rw[Bz c];exact Lz CX _ z.toNat 8 4 lim z Az Bk J (d _ _) J (K6 _)
end
section
open Go.RowKit Go.Lib
def GN(hd:Nat->Nat×Nat×Nat)(H:A1)(so n:Nat):Prop:=∃c t w a,H=c::t/\hd c.toNat=(so,w,a)/\t.length=w/\∀(bs:A1) (lim:Int) (p:Nat) (rest:A1),(bs.length:Int)<=lim->bs.drop p=t++rest->D4 bs lim w p a=.ok (n,p+w)
def M9(h:hd c.toNat=(so,0,n)):GN hd [c] so n :=
 ⟨c,[],0,n,rfl,h,rfl,λ_ _ _ _ _ _=>rfl⟩
def ID(h:hd c.toNat=(so,k,0))(d:n%256^k=n):GN hd (c::BY n k) so n :=
 ⟨c,_,k,0,rfl,h,K6 n k,λa e p f b hd=>by
  have:=VC a e b n k p 0 f hd;rw[this,d,Qq,DY]⟩
def t9(s x:Nat)(c:s<=5)(d:x<24):DT (UInt8.ofNat (32*s+x)).toNat=(It s,0,x):=by
 rw[JF,FC J];have a:(32*s+x)/32=s:=J
 have b:(32*s+x)%32=x:=J
 unfold DT;rw[a,b,Bz J,Bz J,Bz J,Bz ?_,Bz J];rintro(h|h)
 ·unfold It at h
  repeat' split at h
  all_goals omega
 omega
def S5(s n:Nat)(a:s=0\/s=1\/s=2\/s=3\/s=4\/s=5)(e:n<18446744073709551616):GN DT (BW s n) (It s) n:=by
 unfold BW;by_cases b:n<24
 ·rw[BA b];exact M9 (t9 s n J b)
 rw[Bz b];by_cases c:n<=255
 ·rw[BA c];exact ID B2 J
 rw[Bz c];by_cases c2:n<=65535
 ·rw[BA c2];exact ID B2 J
 rw[Bz c2];by_cases d:n<=4294967295
 ·rw[BA d];exact ID B2 J
 rw[Bz d];exact ID B2 J
def VE{a:Nat}(c:a+n<b)(hb:b<=192)(h:∀x,a<=x->x<b->CX x=(so,0,x-a)):GN CX [UInt8.ofNat (a+n)] so n:=by
 refine M9 ?_;rw[JF,FC J,h _ J c,show a+n-a=n by omega]
def te(n:Nat)(f:n<4294967296):GN CX (CY n) 8 n:=by
 unfold CY;by_cases a:n<32
 ·rw[BA a];exact VE (b:=192) J J λx e d=>by unfold CX;rw[Bz J,Bz J,Bz J,BA d]
 rw[Bz a];by_cases c:n<=255
 ·rw[BA c];exact ID Z J
 rw[Bz c];by_cases c2:n<=65535
 ·rw[BA c2];exact ID Z J
 rw[Bz c2];exact ID Z J
def tj(n:Nat)(b:n<4294967296):GN CX (Fc n) 7 n:=by
 unfold Fc;by_cases a:n<=255
 ·rw[BA a];exact ID Z J
 rw[Bz a];by_cases c2:n<=65535
 ·rw[BA c2];exact ID Z J
 rw[Bz c2];exact ID Z J
def tm(n:Nat)(e:n<4294967296):GN CX (Fd n) 9 n:=by
 unfold Fd;by_cases a:n<16
 ·rw[BA a];exact VE (b:=160) J J λx d c=>by unfold CX;rw[Bz J,Bz J,BA c]
 rw[Bz a];by_cases c2:n<=65535
 ·rw[BA c2];exact ID Z J
 rw[Bz c2];exact ID Z J
def tn(n:Nat)(e:n<4294967296):GN CX (EY n) 10 n:=by
 unfold EY;by_cases a:n<16
 ·rw[BA a];exact VE (b:=144) J J λx d c=>by unfold CX;rw[Bz J,BA c]
 rw[Bz a];by_cases c2:n<=65535
 ·rw[BA c2];exact ID Z J
 rw[Bz c2];exact ID Z J
def cg(bs d:A1)(lim e:Int)(k:(bs.length:Int)<=lim)(r r':A1):∀(t:A1) (p b a x q:Nat),bs.drop p=t++r->d.drop b=t++r'->D4 d e t.length b a=.ok (x,q)->D4 bs lim t.length p a=.ok (x,p+t.length)
 |[],p,b,a,x,q,_,_,h=>by
  cases h;rfl
 |c::t,p,b,a,x,q,h1,h2,h=>by
  obtain⟨f,g,l⟩:=M8 h1;obtain⟨i,j,m⟩:=M8 h2;rw[Cu,D4,i]at h;simp only[]at h;split at h
  ·cases h
  rw[Cu,D4,f];simp only[];rw[Bz J,cg bs d lim e k r r' t (p+1) (b+1) _ x q g j h,show p+1+t.length=p+(t.length+1) by omega]
def cm(hd:Nat->Nat×Nat×Nat)(N:A1)(z:Int):Prop:=∃c t so w a x,N=c::t/\hd c.toNat=(so,w,a)/\(so=4\/so=5\/so=6)/\t.length=w/\(∀(bs:A1) (lim:Int) (p:Nat) (rest:A1),(bs.length:Int)<=lim->bs.drop p=t++rest->D4 bs lim w p a=.ok (x,p+w))/\∀q,DC so w x q=.ok z
def tq{so w:Int}{x:Nat}{p q:Int}(h:DC so w x p=.ok z):DC so w x q=.ok z:=by
 unfold DC at h ⊢;split at h
 ·next e=>rw[BA e];exact h
 next e =>
 rw[Bz e];split at h
 ·cases h
 next e2=>rw[Bz e2];exact h
def cn{N:A1}(h:K5 hd N lim=.ok (z,N.length)):cm hd N z:=by
 obtain⟨c,x,a,l,d,j⟩:=sU h
 cases N with
 |nil=>cases a
 |cons b t =>
  injection a with a;subst a;have k:=R0 _ _ _ _ _ _ _ d;have e:t.length=(hd b.toNat).2.1:=by rw[Cu]at k;omega
  refine⟨b,t,_,_,_,x,Z,Z,l,e,λf m p n i g=>?_,λq=>tq j⟩;rw[<-e]at d ⊢;exact cg f (b::t) m lim i n [] t p 1 _ x _ g Az d
structure Oh(hd:Nat->Nat×Nat×Nat)(hB hL hM hT:Nat->A1)(nt:Bool->A1)(no:A1)(nm:Int->A1):Prop where
 b:∀n,n<4294967296->GN hd (hB n) 7 n
 l:∀n,n<4294967296->GN hd (hL n) 9 n
 m:∀n,n<4294967296->GN hd (hM n) 10 n
 t:∀n,n<4294967296->GN hd (hT n) 8 n
 tr:GN hd (nt true) 3 0
 fa:GN hd (nt false) 2 0
 no:GN hd no 1 0
 nm:∀z,-9223372036854775808<=z->z<=9223372036854775807->cm hd (nm z) z
def tu:Oh DT (BW 2) (BW 4) (BW 5) (BW 3) Tx (BW 7 22) Hb :=
 ⟨λn h=>S5 2 n Ay J,λn h=>S5 4 n Ay J,λn h=>S5 5 n Ay J,λn h=>S5 3 n Ay J,M9 rfl,M9 rfl,M9 rfl,λz a b=>cn (sX z 9 Ay a b)⟩
def tw:Oh CX Fc Fd EY CY Ty [192] IT :=
 ⟨tj,tm,tn,te,M9 rfl,M9 rfl,M9 rfl,λz a b=>cn (t8 z 9 Ay a b)⟩
def co(bs:A1)(lim:Int)(e:(bs.length:Int)<=lim)(rest:A1):∀(l a:A1) (p:Nat),bs.drop p=l++rest->EZ bs lim l.length p a=.ok (a++l,p+l.length)
 |[],a,p,_=>by simp[EZ]
 |c::l,a,p,hp=>by
  obtain⟨b,d,f⟩:=M8 hp;rw[Cu,EZ,b];simp only[];rw[Bz J,co bs lim e rest l (a++[c]) (p+1) d,CN,show p+1+l.length=p+(l.length+1) by omega];rfl
def tz(a:(bs.length:Int)<=lim)(b:bs.drop p=l++rest):EZ bs lim l.length p []=.ok (l,p+l.length):=co bs lim a rest l [] p b
def Gd:Nat->A2->Prop
 |0,_=>False
 |k+1,d=>match d with
  |.nil=>True
  |.lit (.bool _)=>True
  |.lit (.int .i64 z)=>-9223372036854775808<=z/\z<=9223372036854775807
  |.lit (.string l)=>Vt l
  |.ptr (.lit (.string _))=>True
  |.agg ds=>1<=k/\∀x∈ds,Gd k x
  |.map es=>1<=k/\(es.map λe=>Cq e.1).Nodup/\∀e∈es,(∃l,e.1=.string l/\Vt l)/\Gd k e.2
  |_=>False
section
variable{hd:Nat->Nat×Nat×Nat} {hB hL hM hT:Nat->A1} {nt:Bool->A1} {no:A1} {nm:Int->A1}
def GN.pos(h:GN hd H so n):1<=H.length:=by
 obtain⟨c,t,_,_,rfl,_⟩:=h;simp
def Na(h:GN hd H so n)(f:¬so=0){depth:Int}(l:(bs.length:Int)<=lim){g wi:Nat}(o:so=9\/so=10->¬(wi:Int)=depth)(m:bs.drop p=H++rest):∃w,D5 hd bs lim depth (g+1) wi p=F2 bs lim (λx q=>F0 (D5 hd bs lim depth g (wi+1)) x q []) (λx q=>F1 (E3 hd bs lim) (D5 hd bs lim depth g (wi+1)) x q [] []) so w n (p+H.length):=by
 obtain⟨c,t,w,a,rfl,i,j,k⟩:=h;obtain⟨b,d,r⟩:=M8 m;refine⟨w,?_⟩;rw[P5 b J i,Bz f,Bz (λe=>o e.1 e.2),k bs lim (p+1) rest l d];simp only[];rw[Cu,j,show p+1+w=p+(w+1) by omega]
def cq(rest:A1):∀(ds acc:List (DataW Unit)) (p:Nat),(∀x∈ds,∀p r,bs.drop p=f x++r->rd p=.ok (x,p+(f x).length))->bs.drop p=ds.flatMap f++rest->F0 rd ds.length p acc=.ok (acc++ds,p+(ds.flatMap f).length)
 |[],acc,p,_,_=>by simp[F0]
 |d::ds,acc,p,h,hp=>by
  rw[Kc,CN]at hp;rw[Cu,F0,h d (Hl ..) p _ hp];simp only[];rw[cq rest ds (acc++[d]) _ (λx a=>h x (I2 _ a)) kfe,Kc,BK,CN,Ke];rfl
def tA(F:Oh hd hB hL hM hT nt no nm)(d:(bs.length:Int)<=lim)(hb:bs.length<=999999999)(q:Vt l)(n:¬l∈ks)(b:bs.drop p=hT l.length++l++rest):E3 hd bs lim ks p=.ok (l,p+(hT l.length++l).length):=by
 have s:l.length<=bs.length:=by
  have:=congrArg List.length b;simp only[Eb,BK]at this;omega
 have h:=F.t l.length J;rw[CN]at b;have o:bs.drop (p+(hT l.length).length)=l++rest:=by rw[<-Hn,b,I8]
 obtain⟨c,t,w,a,e,j,k,m⟩:=h;rw[e]at b;obtain⟨f,g,r⟩:=M8 b;unfold E3;rw[f];simp only[];rw[Bz J,j];simp only[];rw[BA Mv,m bs lim (p+1) _ d g];simp only[];have i:p+1+w=p+(hT l.length).length:=by rw[e,Cu,k];omega
 rw[i,bX d q o];simp only[];rw[Bz n,BK,Ke]
def cr(F:Oh hd hB hL hM hT nt no nm)(g:(bs.length:Int)<=lim)(hb:bs.length<=999999999)(rest:A1):∀(es acc:List (Lit×DataW Unit)) (ks:List A1) (p:Nat),(es.map λe=>Cq e.1).Nodup->(∀e∈es,¬Cq e.1∈ks)->(∀e∈es,∃l,e.1=.string l/\Vt l)->(∀e∈es,∀p r,bs.drop p=f e.2++r->rd p=.ok (e.2,p+(f e.2).length))->bs.drop p=(es.flatMap λe=>(hT (Cq e.1).length++Cq e.1)++f e.2)++rest->F1 (E3 hd bs lim) rd es.length p ks acc=.ok (acc++es,p+(es.flatMap λe=>(hT (Cq e.1).length++Cq e.1)++f e.2).length)
 |[],acc,ks,p,_,_,_,_,_=>by simp[F1]
 |e::es,acc,ks,p,hn,hk,hv,h,hp=>by
  obtain⟨l,c,j⟩:=hv e (Hl ..);have d:Cq e.1=l:=by rw[c];rfl
  rw[Kc,CN,CN]at hp;rw[EU,List.nodup_cons]at hn;have n:=hk e (Hl ..);have i:bs.drop (p+(hT (Cq e.1).length++Cq e.1).length)=f e.2++((es.flatMap λe=>(hT (Cq e.1).length++Cq e.1)++f e.2)++rest):=kfe
  have m:=tA F g hb (ks:=ks) (l:=Cq e.1) (d▸j) n hp;rw[Cu,F1,m];simp only[];rw[h e (Hl ..) _ _ i];simp only[];have k:(Lit.string (Cq e.1),e.2)=e:=by rw[d,<-c]
  rw[k,cr F g hb rest es (acc++[e]) (Cq e.1::ks) _ hn.2 (λx a b=>?_) (λx a=>hv x (I2 _ a)) (λx a=>h x (I2 _ a)) (by rw[<-Hn,i,I8])]
  ·simp only[Kc,BK,CN,Ke,I4,Jd]
  rcases Ho.1 b with b|b
  ·exact hn.1 (b▸SC a)
  exact hk x (I2 _ a) b
def cu(F:Oh hd hB hL hM hT nt no nm):∀{k:Nat} {d:A2},Gd k d->(∀n,1<=(hB n).length/\1<=(hL n).length/\1<=(hM n).length/\1<=(hT n).length)->1<=(GC hB hL hM hT nt no nm k d).length
 |0,_,h,_=>h.elim
 |k+1,d,h,hp=>by
  unfold Gd at h;unfold GC;split at h
  ·exact F.no.pos
  ·next b=>cases b;exact F.fa.pos;exact F.tr.pos
  ·next z =>
   obtain⟨c,t,_,_,_,_,e,_⟩:=F.nm z h.1 h.2;simp only[e];simp
  ·next l=>have:=(hp l.length).2.2.2;simp only[BK];omega
  ·next l=>have:=(hp l.length).1;simp only[BK];omega
  ·next ds=>have:=(hp ds.length).2.1;simp only[BK];omega
  ·next es=>have:=(hp es.length).2.2.1;simp only[BK];omega
  exact h.elim
def VF(F:Oh hd hB hL hM hT nt no nm)(q:∀n,1<=(hB n).length/\1<=(hL n).length/\1<=(hM n).length/\1<=(hT n).length)(bs:List UInt8)(lim depth:Int)(f:(bs.length:Int)<=lim)(hb:bs.length<=999999999):∀(k g wi:Nat) (d:DataW Unit) (p:Nat) (rest:List UInt8),Gd k d->k<=g->(k:Int)+wi<=depth+1->bs.drop p=GC hB hL hM hT nt no nm k d++rest->D5 hd bs lim depth g wi p=.ok (d,p+(GC hB hL hM hT nt no nm k d).length)
 |0,_,_,_,_,_,h,_,_,_=>h.elim
 |k+1,0,_,_,_,_,_,hg,_,_=>J
 |k+1,g+1,wi,d,p,rest,h,hg,hw,hp=>by
  have u:=VF F q bs lim depth f hb k g (wi+1);have j:=congrArg List.length hp;rw[Eb,BK]at j;unfold Gd at h;unfold GC at hp j ⊢;split at h
  ·obtain⟨w,e⟩:=Na F.no Ay f (g:=g) (wi:=wi) (depth:=depth) (λe=>J) hp;exact e
  ·next b =>
   cases b
   ·obtain⟨w,e⟩:=Na F.fa Ay f (g:=g) (wi:=wi) (depth:=depth) (λe=>J) hp;exact e
   obtain⟨w,e⟩:=Na F.tr Ay f (g:=g) (wi:=wi) (depth:=depth) (λe=>J) hp;exact e
  ·next z =>
   obtain⟨c,t,R,w,a,x,e,B,P,C,D,o⟩:=F.nm z h.1 h.2;simp only[e]at hp ⊢;obtain⟨v,y,Q⟩:=M8 hp;rw[P5 v J B,Bz J,Bz J,D bs lim (p+1) rest f y];simp only[];have A:p+1+w=p+(c::t).length:=by rw[Cu,C];omega
   rcases P with rfl|rfl|rfl
   all_goals
    unfold F2;simp only[]
    first
    |rw[show DC 4 (w:Int) x _=Except.ok z from o _]
    |rw[show DC 5 (w:Int) x _=Except.ok z from o _]
    |rw[show DC 6 (w:Int) x _=Except.ok z from o _]
    simp only[];rw[A]
  ·next l =>
   simp only[CN]at hp;simp only[BK]at j;obtain⟨w,e⟩:=Na (F.t l.length J) Ay f (g:=g) (wi:=wi) (depth:=depth) (λe=>J) hp;rw[e];unfold F2;simp only[];rw[bX f h (rest:=rest) kfe];simp only[BK,Ke]
  ·next l =>
   simp only[CN]at hp;simp only[BK]at j;obtain⟨w,e⟩:=Na (F.b l.length J) Ay f (g:=g) (wi:=wi) (depth:=depth) (λe=>J) hp;rw[e];unfold F2;simp only[];rw[tz f (rest:=rest) kfe];simp only[BK,Ke]
  ·next ds =>
   simp only[CN]at hp;simp only[BK]at j;have H:=ME (GC hB hL hM hT nt no nm k) ds (λx i=>cu F (h.2 x i) q);obtain⟨w,e⟩:=Na (F.l ds.length J) Ay f (g:=g) (wi:=wi) (depth:=depth) (λ_=>Ao h.1) hp;rw[e];unfold F2;simp only[];rw[cq rest ds [] _ (λx i p r s=>u x p r (h.2 x i) J J s) kfe];simp only[BK,Ke,Jd]
  ·next es =>
   simp only[CN]at hp;simp only[BK]at j;have H:=ME (λe:Lit×DataW Unit=>(hT (Cq e.1).length++Cq e.1)++GC hB hL hM hT nt no nm k e.2) es (λx i=>by have:=cu F (h.2.2 x i).2 q;simp only[BK];omega);obtain⟨w,e⟩:=Na (F.m es.length J) Ay f (g:=g) (wi:=wi) (depth:=depth) (λ_=>Ao h.1) hp;rw[e];unfold F2;simp only[];have N:bs.drop (p+(hM es.length).length)=(es.flatMap λe=>(hT (Cq e.1).length++Cq e.1)++GC hB hL hM hT nt no nm k e.2)++rest:=by rw[<-Hn,hp,I8];simp only[CN]
   rw[cr F f hb rest es [] [] _ h.2.1 (λ_ _ L=>by cases L) (λx i=>(h.2.2 x i).1) (λx i p r s=>u x.2 p r (h.2.2 x i).2 J J s) N];simp only[BK,Ke,Jd,CN]
  exact h.elim
end
def cy(H:∀p x q,rd p=.ok (x,q)->P x):∀(n p:Nat) (acc ds:List (DataW Unit)) (q:Nat),(∀x∈acc,P x)->F0 rd n p acc=.ok (ds,q)->∀x∈ds,P x
 |0,p,acc,ds,q,ha,h=>by
  cases h;exact ha
 |n+1,p,acc,ds,q,ha,h=>by
  rw[F0]at h;split at h
  ·cases h
  next d r hr =>
  refine cy H n r (acc++[d]) ds q (λx a=>?_) h;rcases KS.1 a with a|a
  ·exact ha x a
  rw[KP.1 a];exact H _ _ _ hr
def Oi(P:A2->Prop)(ks:List A1)(es:List (Lit×DataW Unit)):Prop:=(es.map λe=>Cq e.1).Nodup/\(∀e∈es,Cq e.1∈ks)/\∀e∈es,(∃l,e.1=.string l/\Vt l)/\P e.2
def cz(P:A2->Prop):Oi P [] []:=⟨List.nodup_nil,(λ_ h=>by cases h),λ_ h=>by cases h⟩
def d8{es:List (Lit×DataW Unit)}(h:Oi P ks es)(k:¬l∈ks)(m:Vt l)(j:P d):Oi P (l::ks) (es++[(.string l,d)]):=by
 refine⟨?_,λe c=>?_,λe c=>?_⟩
 ·rw[G9,List.nodup_append];refine⟨h.1,Az,λa i b f=>?_⟩;obtain⟨e,c,rfl⟩:=Mt.1 i;have f:b=l:=by simpa[Cq]using f
  rw[f];intro g;exact k (g▸h.2.1 e c)
 ·rcases KS.1 c with c|c
  ·exact I2 _ (h.2.1 e c)
  rw[KP.1 c];exact Hl ..
 rcases KS.1 c with c|c
 ·exact h.2.2 e c
 rw[KP.1 c];exact⟨⟨l,Z,m⟩,j⟩
def tE(h:E3 hd bs lim ks p=.ok (l,q)):¬l∈ks/\Vt l:=by
 unfold E3 at h;split at h
 ·cases h
 split at h
 ·cases h
 split at h
 ·split at h
  ·cases h
  split at h
  ·cases h
  next l2 r hb =>
  split at h
  ·cases h
  next hn =>
  cases h;exact⟨hn,S3 bs lim _ _ [] [] _ _ S2 (.inl Z) hb⟩
 cases h
def d9(H:∀p x q,rd p=.ok (x,q)->P x):∀(n p:Nat) (a:List A1) (acc es:List (Lit×DataW Unit)) (q:Nat),Oi P a acc->F1 (E3 hd bs lim) rd n p a acc=.ok (es,q)->∃a,Oi P a es
 |0,p,a,acc,es,q,ha,h=>by
  cases h;exact⟨_,ha⟩
 |n+1,p,a,acc,es,q,ha,h=>by
  rw[F1]at h;split at h
  ·cases h
  next l r hk =>
  split at h
  ·cases h
  next d r2 hr =>
  obtain⟨b,c⟩:=tE hk;exact d9 H n r2 (l::a) _ es q (d8 ha b c (H _ _ _ hr)) h
def VI(a:Nat->Nat×Nat×Nat)(bs:A1)(lim depth:Int):∀(g b p:Nat) (d:A2) (q:Nat),(g:Int)+b=depth+1->D5 a bs lim depth g b p=.ok (d,q)->Gd g d
 |0,_,_,_,_,_,h=>AU
 |g+1,b,p,d,q,hg,h=>by
  have k:∀p x q,D5 a bs lim depth g (b+1) p=.ok (x,q)->Gd g x:=λp x q m=>VI a bs lim depth g (b+1) p x q J m;rw[D5]at h;split at h
  ·cases h
  split at h
  ·cases h
  split at h
  ·cases h
  split at h
  ·cases h
  next c hc h1 h2 h3 =>
  split at h
  ·cases h
  next x q1 ha =>
  have j:(a c.toNat).1=9\/(a c.toNat).1=10->1<=g:=λe=>by
   rcases Wy g with f|f
   ·exact absurd ⟨e,J⟩ h3
   exact f
  generalize(a c.toNat).1=so at *;unfold F2 at h;split at h
  ·cases h;exact trivial
  ·cases h;exact trivial
  ·split at h
   ·cases h
   next z hz=>cases h;exact QY hz
  ·split at h
   ·cases h
   next z hz=>cases h;exact QY hz
  ·split at h
   ·cases h
   next z hz=>cases h;exact QY hz
  ·split at h
   ·cases h
   cases h;exact trivial
  ·split at h
   ·cases h
   next l r hb=>cases h;exact S3 bs lim _ _ [] [] _ _ S2 (.inl Z) hb
  ·split at h
   ·cases h
   next ds r hi=>cases h;exact⟨j (.inl Z),cy k _ _ _ _ _ (λ_ h=>(Nn h).elim) hi⟩
  ·split at h
   ·cases h
   next es r hi =>
   cases h;obtain⟨n,i⟩:=d9 k _ _ _ _ _ _ (cz _) hi;exact⟨j (.inr Z),i.1,i.2.2⟩
  cases h;exact trivial
def VJ{α:Type}{itF:α->Nat->A5 α}{P:α->Prop}(H:∀a p b q,P a->itF a p=.ok (b,q)->P b):∀(g p:Nat) (a b:α) (q:Nat),P a->Dp bs lim itF last g p a=.ok (b,q)->P b
 |0,_,_,_,_,_,h=>AU
 |g+1,p,a,b,q,ha,h=>by
  rw[Dp]at h;split at h
  ·cases h
  split at h
  ·cases h
  next a2 p2 hi =>
  have c:=H _ _ _ _ ha hi;split at h
  ·cases h
  split at h
  ·cases h
  split at h
  ·cases h
  split at h
  ·cases h;exact c
  split at h
  ·exact VJ H g _ _ _ _ c h
  cases h
def da{α:Type}{itF:α->Nat->A5 α}{a a':α}{P:α->Prop}(H:∀a p a' q,P a->itF a p=.ok (a',q)->P a')(b:P a)(h:Di bs lim itF last p a=.ok (a',q)):P a':=by
 unfold Di at h;split at h
 ·cases h
 split at h
 ·exact VJ H _ _ _ _ _ b h
 split at h
 ·cases h
 split at h
 ·cases h;exact b
 exact VJ H _ _ _ _ _ b h
def tF(h:FH bs lim ks p=.ok (l,q)):¬l∈ks/\Vt l:=by
 unfold FH at h;split at h
 ·cases h
 split at h
 ·cases h
 next l2 r hb =>
 split at h
 ·cases h
 next hn =>
 cases h;exact⟨hn,PP bs lim _ _ [] [] _ _ S2 (.inl Z) hb⟩
def de(bs:A1)(lim depth:Int):∀(g e p:Nat) (d:A2) (q:Nat),(g:Int)+e=depth+1->CI bs lim depth (λc p=>CR ⟨Y,bs,0,0,lim,p,0⟩ c) g e p=.ok (d,q)->Gd g d
 |0,_,_,_,_,_,h=>AU
 |g+1,e,p,d,q,hg,h=>by
  have j:∀p x q,CI bs lim depth (λc p=>CR ⟨Y,bs,0,0,lim,p,0⟩ c) g (e+1) p=.ok (x,q)->Gd g x:=λp x q b=>de bs lim depth g (e+1) p x q J b;rw[CI]at h;split at h
  ·cases h
  split at h
  ·cases h
  next c hc h1 =>
  unfold GH at h;split at h
  ·split at h
   ·cases h
   cases h;exact trivial
  split at h
  ·split at h
   ·cases h
   cases h;exact trivial
  split at h
  ·split at h
   ·cases h
   cases h;exact trivial
  split at h
  ·split at h
   ·cases h
   next l r hb=>cases h;exact PP bs lim _ _ [] [] _ _ S2 (.inl Z) hb
  split at h
  ·split at h
   ·cases h
   next hw =>
   split at h
   ·cases h
   next ds r hi =>
   cases h;refine⟨J,da (P:=λl=>∀x∈l,Gd g x) (λa p k q f b=>?_) (λ_ h=>(Nn h).elim) hi⟩;unfold D9 at b;split at b
   ·cases b
   next d q hd =>
   cases b;intro x b;rcases KS.1 b with b|b
   ·exact f x b
   rw[KP.1 b];exact j _ _ _ hd
  split at h
  ·split at h
   ·cases h
   next hw =>
   split at h
   ·cases h
   next es r hi =>
   cases h;have i:=da (P:=λa=>Oi (Gd g) a.1 a.2) (λa p k q f b=>?_) (cz _) hi
   ·exact⟨J,i.1,i.2.2⟩
   unfold DO at b;split at b
   ·cases b
   next l p1 hk =>
   obtain⟨m,n⟩:=tF hk;split at b
   ·cases b
   split at b
   ·cases b
   split at b
   ·cases b
   split at b
   ·cases b
   next d p5 hd =>
   cases b;exact d8 f m n (j _ _ _ hd)
  split at h
  ·next hc2 =>
   split at h
   ·cases h
   next z r hz=>cases h;exact(TY hc2 hz).1
  cases h
def tG{fm:Int}{d:Int}{x:A2}(a:0<=d)(h:Cj fm bs d lim=.ok x):Gd (d.toNat+1) x:=by
 unfold Cj FI at h;split at h
 ·cases h
 split at h
 ·cases h
 next y q hy =>
 split at h
 ·cases h
 split at h
 ·cases h
 cases h;unfold EF at hy;split at hy
 ·exact de bs lim d _ 0 _ _ _ J hy
 split at hy
 ·exact VI DT bs lim d _ 0 _ _ _ J hy
 exact VI CX bs lim d _ 0 _ _ _ J hy
def GP(kl:List A1)(ds:List (DataW Unit)):List (Lit×DataW Unit):=(kl.zip ds).map λx=>(.string x.1,x.2)
def dW(h:kl.length=ds.length)(l:A1)(d:A2):GP (kl++[l]) (ds++[d])=GP kl ds++[(.string l,d)]:=by
 unfold GP;rw[List.zip_append h,G9];rfl
def dX(h:kl.length=ds.length):(GP kl ds).length=ds.length:=by
 unfold GP;rw[Eo,List.length_zip];omega
def dY:∀{kl:List A1} {ds:List (DataW Unit)},kl.length=ds.length->(GP kl ds).map Sd=kl.map D6
 |[],[],_=>rfl
 |[],_::_,h=>keT
 |_::_,[],h=>keT
 |l::kl,d::ds,h=>by
  have a:=dY (kl:=kl) (ds:=ds) B3;unfold GP at a ⊢;rw[List.zip_cons_cons,EU,EU,EU,a];rfl
def ve{i:Nat}{key:Lit}(h:(GP kl ds)[i]?=U (key,d)):ds[i]?=U d/\∃l,key=.string l:=by
 unfold GP at h;rw[Jc]at h
 cases a:(kl.zip ds)[i]? with
 |none=>rw[a]at h;cases h
 |some x =>
  rw[a]at h;injection h with h;injection h with h1 h2;rw[List.getElem?_zip_eq_some]at a;exact⟨by rw[a.2,h2],_,h1.symm⟩
structure F5(k:Nat)(V:World)(b:Nat)(kv u:Value)(ex:Nat->Prop)(kl:List A1)(ds:List (DataW Unit)):Prop where
 keys:V.ownsRow b 9 1 kv kl.length (kl.map D6)
 kids:Jz k V b u (λj=>some j=kv.ownBlock\/ex j) ds
 len:kl.length=ds.length
 apart:∀g,kv.ownBlock=some g->¬u.ownBlock=some g
 exk:∀g,kv.ownBlock=some g->¬ex g
 exu:∀g,u.ownBlock=some g->¬ex g
def dZ(k:Nat)(V:O)(b:Nat)(a:Nat->Prop):F5 k V b BV BV a [] []:=⟨FQ _ _ _ _,VX _ _ _ _,rfl,(λg h=>AU),(λg h=>AU),(λg h=>AU)⟩
def Sh{t:TypeId}{size:Nat}(h:V.ownsRow b t size u n xs)(l:∀j,u.ownBlock=U j->b<=j->j<V.heap.size->V'.heap[j]?=V.heap[j]?):V'.ownsRow b t size u n xs:=by
 refine⟨h.1,?_⟩;rcases h.2 with i|⟨g,d,f,e,a,c,k⟩
 ·exact .inl i
 exact .inr ⟨g,d,f,e,a,(l g (by rw[e];rfl) a (BC c)).trans c,k⟩
def F5.next(h:F5 k V b kv u ex kl ds)(t:V.heap.size<=V'.heap.size)(l:∀j,b<=j->j<V.heap.size->¬ex j->V'.heap[j]?=V.heap[j]?):F5 k V' b kv u ex kl ds:=by
 refine⟨Sh h.keys (λj e f g=>l j f g (h.exk j e)),?_,h.len,h.apart,h.exk,h.exu⟩;obtain⟨s,f,g⟩:=h.kids;refine⟨s,Sh f (λj e o p=>l j o p (h.exu j e)),λi d q=>?_⟩;obtain⟨a,m,n⟩:=g i d q;exact⟨a,m,n.same (λj c=>⟨c.1,Ao c.2.1,c.2.2⟩) (λj c=>l j c.1 c.2.1 (λr=>c.2.2.2 (.inr r)))⟩
def F5.other{ex':Nat->Prop}(h:F5 k V b kv u ex kl ds)(o:∀j,ex' j->ex j\/V.heap.size<=j):F5 k V b kv u ex' kl ds:=by
 refine⟨h.keys,?_,h.len,h.apart,λg e n=>?_,λg e n=>?_⟩
 ·obtain⟨p,m,s⟩:=h.kids;refine⟨p,m,λi d t=>?_⟩;obtain⟨a,q,r⟩:=s i d t;refine⟨a,q,r.same (λj f=>⟨f.1,f.2.1,f.2.2.1,λl=>?_⟩) (λ_ _=>rfl)⟩;rcases l with l|l
  ·exact f.2.2.2 (.inl l)
  rcases o j l with c|c
  ·exact f.2.2.2 (.inr c)
  have:=f.2.1;omega
 ·rcases o g n with c|c
  ·exact h.exk g e c
  have:=IG h.keys e;omega
 obtain⟨p,m,_⟩:=h.kids;rcases o g n with c|c
 ·exact h.exu g e c
 have:=IG m e;omega
def F5.map{B:Nat}(h:F5 k V b kv u ex kl ds)(t:B<=b):CM (k+1) V (λj=>B<=j/\j<V.heap.size) (.agg (BJ 7 0 ⟨#[]⟩ kv u)) (.map (GP kl ds)):=by
 obtain⟨s,o,p⟩:=h.kids;have hF:∀g,b<=g->g<V.heap.size->B<=g/\g<V.heap.size:=λg v r=>⟨J,r⟩
 refine⟨kv,u,s,Z,?_,?_,λi key d q=>?_⟩
 ·rw[dX h.len,dY h.len,<-h.len];exact Oj h.keys _ hF
 ·rw[dX h.len];exact Oj o _ hF
 obtain⟨e,l,f⟩:=ve q;obtain⟨a,m,n⟩:=p i d e;exact⟨l,a,f,m,n.same (λj c=>⟨Ao c.1,c.2.1⟩) (λ_ _=>rfl)⟩
def Mf(kl:List A1)(ds:List (DataW Unit))(l:A1)(r:Except (Int×Int) (DataW Unit×Nat)):Except (Int×Int) ((List A1×List (Lit×DataW Unit))×Nat):=match r with
 |.error e=>.error e
 |.ok (d,q)=>.ok ((l::kl.reverse,GP kl ds++[(.string l,d)]),q)
def ed{r r':Except (Int×Int) (DataW Unit×Nat)}(h:FL bs lim r r'):FL bs lim (Mf kl ds l r) (Mf kl ds l r'):=by
 rcases h with rfl|⟨q,a,b,c,x,d⟩
 ·exact .inl Z
 rw[a,d];exact .inr ⟨q,Z,b,c,_,Z⟩
def vf{l:Int}{x:UInt8}(d:Lm bs l lim)(hi:C1 bs lim p):(Cy bs l p=false/\Ci bs lim [x] p=.error (CS bs l p 9))\/(∃c,bs[p]?=U c/\Cy bs l p=true/\¬(p:Int)=lim/\((¬c=x/\Ci bs lim [x] p=.error (CS bs l p 9))\/(c=x/\C1 bs lim (p+1)/\Ci bs lim [x] p=.ok ((),p+1)))):=by
 rw[Ci]
 cases b:bs[p]? with
 |none=>exact .inl ⟨K2 b,by rw[Lu hi.1 b]⟩
 |some c =>
  simp only[];by_cases a:(p:Int)=lim
  ·rw[BA a];exact .inl ⟨Jw d b a,by rw[IC d b a]⟩
  rw[Bz a];refine .inr ⟨c,Z,Lv d hi b a,a,?_⟩;by_cases e:c=x
  ·rw[BA e];exact .inr ⟨e,Fp hi b a,Z⟩
  rw[Bz e];exact .inl ⟨e,by rw[J4 d hi b a]⟩
def vh{l:Int}(k:Lm bs l lim)(W:∀p:Nat,(p:Int)=lim->p<bs.length->rd p=.error (8,(p:Int)))(hi:C1 bs lim p){R:Except (Int×Int) ((List A1×List (Lit×DataW Unit))×Nat)}(a:DO bs lim rd (kl.reverse,GP kl ds) p=R):(Cy bs l p=false/\R=.error (CS bs l p 9))\/∃c,bs[p]?=U c/\Cy bs l p=true/\((¬c.toNat=34/\R=.error (CS bs l p 9))\/(c.toNat=34/\C1 bs lim (p+1) /\
   ((∃f,Ct bs lim (bs.length+1-(p+1)) (p+1) [] 0=.error f/\R=.error f)\/∃t r,Ct bs lim (bs.length+1-(p+1)) (p+1) [] 0=.ok (t,r)/\C1 bs lim r/\p+1<r /\
    ((t∈kl/\R=.error (CS bs l (r-1) 12))\/(¬t∈kl/\C1 bs lim (DR bs l (bs.length+1-r) r) /\
     ((∃f,Ci bs lim [58] (DR bs l (bs.length+1-r) r)=.error f/\R=.error f)\/∃b,Ci bs lim [58] (DR bs l (bs.length+1-r) r)=.ok ((),b)/\C1 bs lim b/\r<b/\C1 bs lim (DR bs l (bs.length+1-b) b)/\b<=DR bs l (bs.length+1-b) b/\∀s,FL bs lim (rd (DR bs l (bs.length+1-b) b)) s->FL bs lim R (Mf kl ds t s))))))):=by
 unfold DO FH at a;rcases vf (x:=34) k hi with⟨i,d⟩|⟨c,L,i,hp,⟨d,j⟩|⟨d,j,Q⟩⟩
 ·rw[d]at a;exact .inl ⟨i,a.symm⟩
 ·rw[j]at a;exact .inr ⟨c,L,i,.inl ⟨λe=>d (LH.1 (e.trans Bk)),a.symm⟩⟩
 rw[Q]at a;simp only[]at a;refine .inr ⟨c,L,i,.inr ⟨by rw[d];rfl,j,?_⟩⟩
 cases n:Ct bs lim (bs.length+1-(p+1)) (p+1) [] 0 with
 |error f =>
  rw[n]at a;exact .inl ⟨f,Z,a.symm⟩
 |ok x =>
  obtain⟨t,r⟩:=x;rw[n]at a;have u:=Se _ _ _ _ _ _ j n;have V:=(NS bs lim _ _ _ _ _ _ n).1;refine .inr ⟨t,r,Z,u,V,?_⟩;simp only[List.mem_reverse]at a;by_cases m:t∈kl
  ·rw[BA m]at a;obtain⟨P,rfl⟩:∃P,r=P+1:=⟨r-1,J⟩
   refine .inl ⟨m,?_⟩;rw[<-a,Nj,dx k u];simp only[];congr 2;omega
  rw[Bz m]at a;simp only[]at a;refine .inr ⟨m,?_⟩;rcases KI k (bs.length+1-r) r u with⟨q,y,z,o,N,_⟩|⟨q,y,z,o,N⟩
  ·rw[y]at a;rw[z];simp only[]at a;refine⟨o,?_⟩
   cases w:Ci bs lim [58] q with
   |error f =>
    rw[w]at a;exact .inl ⟨f,Z,a.symm⟩
   |ok x =>
    obtain⟨_,b⟩:=x;rw[w]at a;obtain⟨m1,A⟩:=PT _ _ _ o w;simp only[Cu,DX]at m1;refine .inr ⟨b,Z,A,J,?_⟩;simp only[]at a;rcases KI k (bs.length+1-b) b A with⟨h,B,C,D,F,_⟩|⟨h,B,C,D,F⟩
    ·rw[B]at a;rw[C];refine⟨D,F,λs v=>?_⟩;have g:=ed (kl:=kl) (ds:=ds) (l:=t) v;have e:Mf kl ds t (rd h)=R:=by
      rw[<-a];simp only[];unfold Mf
      cases rd h with
      |error f=>rfl
      |ok x=>rfl
     rw[e]at g;exact g
    rw[B]at a;rw[C];refine⟨⟨J,J⟩,Ao A.2,λs v=>?_⟩;have g:=ed (kl:=kl) (ds:=ds) (l:=t) v;have e:Mf kl ds t (rd h)=R:=by
     rw[<-a,W h D F];rfl
    rw[e]at g;exact g
  rw[y]at a;rw[z];refine⟨⟨J,J⟩,.inl ⟨(8,(q:Int)),?_,a.symm⟩⟩;obtain⟨H,S⟩:∃H,bs[q]?=U H:=⟨_,C6 N⟩
  rw[Ci,S];simp only[];rw[BA o]
structure Ol(W W':World)(kv u:Value):Prop where
 os:W'.os=W.os
 tape:W'.tape=W.tape
 output:W'.output=W.output
 size:W.heap.size<=W'.heap.size
 block:∀j,j<W.heap.size->some j≠kv.ownBlock->some j≠u.ownBlock->W'.heap[j]?=W.heap[j]?
def Om{W':O}(h:A0 W W')(b u:Value):Ol W W' b u:=⟨h.os,h.tape,h.output,h.size,λj a _ _=>h.block j a⟩
def Nc(k:Nat)(bs:A1)(lim:Int)(W:World)(b:Nat)(kv u:Value)(ex:Nat->Prop)(kl:List A1)(ds:List (DataW Unit))(r:Except (Int×Int) ((List A1×List (Lit×DataW Unit))×Nat))(e:Ending)(W':World):Prop :=
 Ol W W' kv u/\∃r',FL bs lim r r'/\match r' with
 |.ok (x,q)=>C1 bs lim q/\∃l dd a n c a' n' c',x=(l::kl.reverse,GP kl ds++[(.string l,dd)])/\e=.returned (.tuple #[.agg (BJ 7 0 ⟨#[]⟩ (.slice a n c) (.slice a' n' c')),.int .i64 q,.agg (BH (0,0))])/\F5 k W' b (.slice a n c) (.slice a' n' c') ex (kl++[l]) (ds++[dd])
 |.error f=>∃kd n s a i j b p m z,e=.returned (.tuple #[.agg (BJ kd n s (.slice a i j) (.slice b p m)),.int .i64 z,.agg (BH f)])
structure DW(W:World)(A y:A3)(V:World):Prop where
 box:V.heap[W.heap.size]?=some (.cells A 116)
 mv:V.heap[W.heap.size+1]?=some (.cells y 74)
 th:V.heap[W.heap.size+2]?=some (.cells BZ 74)
 flt:V.heap[W.heap.size+3]?=some (.cells (BH (0,0)) 76)
 below:A0 W V
structure Hk(W:World)(A y:A3)(Z:World):Prop where
 box:Z.heap[W.heap.size]?=some (.cells A 116)
 mv:Z.heap[W.heap.size+1]?=some (.cells y 74)
def DW.s(h:DW W A y V):Hk W A y V:=⟨h.box,h.mv⟩
def Hk.set(h:Hk W A y V)(j:Nat)(cs:A3)(a:W.heap.size+2<=j):Hk W A y (V.setRow j cs):=⟨sx J h.box,sx J h.mv⟩
def Hk.lt(h:Hk W A y V):W.heap.size+1<V.heap.size:=BC h.mv
def Hk.new(h:Hk W A y V)(o:Obj):Hk W A y (V.alloc o):=⟨(BT _ _ _ (Ao h.lt)).trans h.box,(BT _ _ _ h.lt).trans h.mv⟩
def DW.next(h:DW W A y V)(hb:A0 V V'):DW W A y V' :=
 ⟨(hb.block _ (BC h.box)).trans h.box,(hb.block _ (BC h.mv)).trans h.mv,(hb.block _ (BC h.th)).trans h.th,(hb.block _ (BC h.flt)).trans h.flt,h.below.trans (hb.mono h.below.size)⟩
def DW.drew(h:DW W A y V):DW W A y V.drew:=⟨h.box,h.mv,h.th,h.flt,h.below.drew⟩
def DW.size(h:DW W A y V):W.heap.size+4<=V.heap.size:=BC h.flt
def DW.set(h:DW W A y V)(j:Nat)(cs:A3)(a:W.heap.size+4<=j):DW W A y (V.setRow j cs) :=
 ⟨sx J h.box,sx J h.mv,sx J h.th,sx J h.flt,CF h.below J _⟩
def On(W:O)(A y:A3):DW W A y ((((W.alloc (E A 116)).alloc (E y 74)).alloc (E BZ 74)).alloc (E (BH (0,0)) 76)):=by
 have d:=BI W (E A 116);have a:=BI (W.alloc (E A 116)) (E y 74);have b:=BI ((W.alloc (E A 116)).alloc (E y 74)) (E BZ 74);have c:=BI (((W.alloc (E A 116)).alloc (E y 74)).alloc (E BZ 74)) (E (BH (0,0)) 76);simp only[BU,A0]at a b c;have e:A0 W ((((W.alloc (E A 116)).alloc (E y 74)).alloc (E BZ 74)).alloc (E (BH (0,0)) 76)):=(((BN).alloc Az _).alloc Ax _).alloc Ax _;refine⟨?_,?_,?_,c,e⟩
 ·rw[BT _ _ _ AY,BT _ _ _ AY,BT _ _ _ AY];exact d
 ·rw[BT _ _ _ AY,BT _ _ _ AY];exact a
 rw[BT _ _ _ AY];exact b
def DW.fin(h:DW W A y V)(z:A3)(x:Int×Int):((V.setRow (W.heap.size+2) z).setRow (W.heap.size+3) (BH x)).heap[W.heap.size+2]?=U (E z 74)/\((V.setRow (W.heap.size+2) z).setRow (W.heap.size+3) (BH x)).heap[W.heap.size+3]?=U (E (BH x) 76)/\A0 W ((V.setRow (W.heap.size+2) z).setRow (W.heap.size+3) (BH x)):=by
 refine⟨?_,?_,CF (CF h.below J _) J _⟩
 ·rw[CQ _ _ _ _ J];exact Ca _ _ _ _ _ _ h.th
 exact Ca _ _ _ _ _ _ (sx J h.flt)
def DW.map(h:DW W A y V)(c:F5 k W b kv u ex kl ds):F5 k V b kv u ex kl ds:=c.next h.below.size (λj _ a _=>h.below.block j a)
structure GQ(W:World)(y:A3)(kv u:Value)(V:World):Prop where
 mv:V.heap[W.heap.size+1]?=some (.cells y 74)
 th:V.heap[W.heap.size+2]?=some (.cells BZ 74)
 flt:V.heap[W.heap.size+3]?=some (.cells (BH (0,0)) 76)
 two:Ol W V kv u
def GQ.size(h:GQ W y kv u V):W.heap.size+4<=V.heap.size:=BC h.flt
def DW.w(h:DW W A y V)(a u:Value):GQ W y a u V:=⟨h.mv,h.th,h.flt,Om h.below a u⟩
def GQ.drew(h:GQ W y kv u V):GQ W y kv u V.drew:=⟨h.mv,h.th,h.flt,⟨h.two.os,h.two.tape,h.two.output,h.two.size,h.two.block⟩⟩
def GQ.grow{w5:O}{o:Obj}(h:GQ W y kv u V){x:Option Nat}(k:∀g,x=U g->g<W.heap.size/\(x=kv.ownBlock\/x=u.ownBlock))(a:(V.alloc o).grownBy w5 x):GQ W y kv u w5:=by
 have n:=h.size;have m:V.heap.size+1<=w5.heap.size:=Au a.size
 have c:∀j,W.heap.size<=j->j<V.heap.size->w5.heap[j]?=V.heap[j]?:=λj i l=>(a.block j Ax (λe=>Ao ((k j e.symm).1))).trans (BT _ _ _ l);refine⟨(c _ J J).trans h.mv,(c _ J J).trans h.th,(c _ J J).trans h.flt,a.os.trans h.two.os,a.tape.trans h.two.tape,a.output.trans h.two.output,J,λj i d f=>?_⟩;refine(a.block j Ax (λe=>?_)).trans ((BT _ _ _ J).trans (h.two.block j i d f));rcases(k j e.symm).2 with b|b
 ·exact d (e.trans b)
 exact f (e.trans b)
def GQ.cell{kd n:Int}{s:ByteArray}{kx ux:Value}(h:GQ W (BJ kd n s kx ux) kv u V)(a:Value):GQ W (BJ kd n s a ux) kv u (V.setCell ⟨W.heap.size+1,3,Y⟩ a)/\GQ W (BJ kd n s kx a) kv u (V.setCell ⟨W.heap.size+1,4,Y⟩ a):=by
 have b:∀i j,j≠W.heap.size+1->(V.setCell ⟨W.heap.size+1,i,Y⟩ a).heap[j]?=V.heap[j]?:=λi j c=>CP V _ _ _ Be;have d:∀i,Ol W (V.setCell ⟨W.heap.size+1,i,Y⟩ a) kv u:=λi=>⟨h.two.os,h.two.tape,h.two.output,by have:=h.two.size;simpa[World.setCell]using this,λj c e f=>(b i j J).trans (h.two.block j c e f)⟩
 refine⟨⟨?_,(b _ _ J).trans h.th,(b _ _ J).trans h.flt,d 3⟩,⟨?_,(b _ _ J).trans h.th,(b _ _ J).trans h.flt,d 4⟩⟩
 ·rw[ET _ _ _ _ _ _ h.mv];rfl
 rw[ET _ _ _ _ _ _ h.mv];rfl
def GQ.fin(h:GQ W y kv u V)(z:A3)(x:Int×Int):((V.setRow (W.heap.size+2) z).setRow (W.heap.size+3) (BH x)).heap[W.heap.size+2]?=U (E z 74)/\((V.setRow (W.heap.size+2) z).setRow (W.heap.size+3) (BH x)).heap[W.heap.size+3]?=U (E (BH x) 76)/\Ol W ((V.setRow (W.heap.size+2) z).setRow (W.heap.size+3) (BH x)) kv u:=by
 refine⟨?_,?_,h.two.os,h.two.tape,h.two.output,Au h.two.size,λj c a b=>?_⟩
 ·rw[CQ _ _ _ _ J];exact Ca _ _ _ _ _ _ h.th
 ·exact Ca _ _ _ _ _ _ (sx J h.flt)
 rw[CQ _ _ _ _ J,CQ _ _ _ _ J];exact h.two.block j c a b
def vo{L S:Nat}{V12 w13 w13' w14 wf:O}{v' u':Value}{t:A1}{a:A3}(p:F5 k W b kv u ex kl ds)(y:∀j,ex j->j<W.heap.size)(w:W.ownsRow b 74 5 u ds.length xs)(h2:∀(i:Nat) (d:A2),ds[i]?=U d->∃a,Hj xs i a/\CM k W (λj=>b<=j/\j<W.heap.size/\U j≠u.ownBlock/\¬(U j=kv.ownBlock\/ex j)) (.agg a) d)(hb:b<=W.heap.size)(af:∀j,j<W.heap.size->V12.heap[j]?=W.heap[j]?)(ai:CM k V12 (λj=>L<=j/\j<S) (.agg a) d)(hL:W.heap.size+4<=L)(hS:S<=V12.heap.size)(h4:W.heap.size+4<=V12.heap.size)(ha:a.size=5)(C:w13.ownsRow b 9 1 v' (kl.length+1) (kl.map D6++[D6 t]))(ag:∀j,j<V12.heap.size->U j≠kv.ownBlock->w13.heap[j]?=V12.heap[j]?)(q:v'.ownBlock=kv.ownBlock\/v'.ownBlock=U (V12.heap.size+1))(al:V12.heap.size+1<=w13.heap.size)(H:∀j,j≠W.heap.size+1->w13'.heap[j]?=w13.heap[j]?)(an:w13'.heap.size=w13.heap.size)(V:w14.ownsRow b 74 5 u' (ds.length+1) (xs++a.toList))(Q:∀j,j<w13'.heap.size->U j≠u.ownBlock->w14.heap[j]?=w13'.heap[j]?)(r:u'.ownBlock=u.ownBlock\/u'.ownBlock=U (w13'.heap.size+1))(am:w13'.heap.size+1<=w14.heap.size)(z:∀j,(j<W.heap.size\/W.heap.size+4<=j)->wf.heap[j]?=w14.heap[j]?)(ao:w14.heap.size<=wf.heap.size):F5 k wf b v' u' ex (kl++[t]) (ds++[d]):=by
 have aa:∀g,kv.ownBlock=U g->g<W.heap.size:=λg e=>IG p.keys e;have F:∀g,u.ownBlock=U g->g<W.heap.size:=λg e=>IG w e;have aj:∀g,v'.ownBlock=U g->g<w13.heap.size:=λg e=>IG C e;have N:∀j,(j<W.heap.size\/W.heap.size+4<=j)->j<V12.heap.size->U j≠kv.ownBlock->U j≠u.ownBlock->wf.heap[j]?=V12.heap[j]?:=λj c ah l f=>by
  rw[z j c,Q j J f,H j J,ag j ah l]
 have ab:∀j,j<V12.heap.size->U j≠kv.ownBlock->¬U j=v'.ownBlock:=λj c l e=>by
  rcases q with h|h
  ·exact l (e.trans h)
  rw[h]at e;injection e with e;omega
 have ac:∀j,j<V12.heap.size->U j≠u.ownBlock->U j≠u'.ownBlock:=λj c l e=>by
  rcases r with h|h
  ·exact l (e.trans h)
  rw[h]at e;injection e with e;omega
 have P:∀g,v'.ownBlock=U g->¬u.ownBlock=U g:=λg e f=>by
  rcases q with h|h
  ·exact p.apart g (h.symm.trans e) f
  have:=F g f;rw[h]at e;injection e with e;omega
 refine⟨?_,⟨xs++a.toList,?_,λi dd o=>?_⟩,by rw[BK,BK,p.len];rfl,λg l f=>?_,λg e m=>?_,λg e m=>?_⟩
 ·rw[BK,G9];refine⟨C.1,?_⟩;rcases C.2 with h|⟨g,s,v,e,A,m,x⟩
  ·exact .inl h
  have ak:=BC m;have n:v'.ownBlock=U g:=by rw[e];rfl
  have D:g<W.heap.size\/W.heap.size+4<=g:=by
   rcases q with h|h
   ·exact .inl (aa g (h.symm.trans n))
   rw[h]at n;injection n with n;omega
  refine .inr ⟨g,s,v,e,A,?_,x⟩;rw[z g D,Q g J (λe=>P g n e.symm),H g J];exact m
 ·rw[BK];refine⟨V.1,?_⟩;rcases V.2 with h|⟨g,s,v,e,A,m,x⟩
  ·exact .inl h
  have n:u'.ownBlock=U g:=by rw[e];rfl
  have D:g<W.heap.size\/W.heap.size+4<=g:=by
   rcases r with h|h
   ·exact .inl (F g (h.symm.trans n))
   rw[h]at n;injection n with n;omega
  refine .inr ⟨g,s,v,e,A,?_,x⟩;rw[z g D];exact m
 ·by_cases R:i<ds.length
  ·rw[F6 R]at o;obtain⟨a',l,f⟩:=h2 i dd o;exact⟨a',dO w.1 R l,f.same (λj c=>⟨c.1,Ao c.2.1,ac j (Ao c.2.1) c.2.2.1,λB=>B.elim (ab j (Ao c.2.1) (λe=>c.2.2.2 (.inl e))) (λe=>c.2.2.2 (.inr e))⟩) (λj c=>(N j (.inl c.2.1) (Ao c.2.1) (λe=>c.2.2.2 (.inl e)) c.2.2.1).trans (af j c.2.1))⟩
  have e:i=ds.length:=by
   have:=Cf o;rw[BK]at this;simp at this;omega
  subst e;rw[Ez (BM _),LJ]at o;injection o with o;subst o;have ad:∀j,W.heap.size<=j->U j≠kv.ownBlock:=λj c e=>Ao (aa j e.symm)
  have ae:∀j,W.heap.size<=j->U j≠u.ownBlock:=λj c e=>Ao (F j e.symm)
  exact⟨a,dP w.1 ha,ai.same (λj c=>⟨Ao c.1,Ao c.2,ac j (Ao c.2) (ae j (Ao c.1)),λB=>B.elim (ab j (Ao c.2) (ad j (Ao c.1))) (λe=>Aq (y j e) c.1)⟩) (λj c=>N j (.inr (Ao c.1)) (Ao c.2) (ad j (Ao c.1)) (ae j (Ao c.1)))⟩
 ·rcases r with h|h
  ·exact P g l (h.symm.trans f)
  have:=aj g l;rw[h]at f;injection f with f;omega
 ·rcases q with h|h
  ·exact p.exk g (h.symm.trans e) m
  rw[h]at e;injection e with e;have:=y g m;omega
 rcases r with h|h
 ·exact p.exu g (h.symm.trans e) m
 rw[h]at e;injection e with e;have:=y g m;omega
end
end Go.Proofs.YtnlnjkggkbbdhaaGreatDoor
