import Derived.Maps.OwnSet
import Derived.Test.YtnlnjkggkbbdhaaGreatDoorTq04
set_option maxRecDepth 100000
set_option maxHeartbeats 8000000
set_option linter.all false
namespace Go.Proofs.YtnlnjkggkbbdhaaGreatDoor
open Go.Proofs.Tryz
open Go.Value renaming int->I,slice->G
open Option renaming some->U,none->Y
open Go.IntKind renaming i64->K
open Go renaming World->O
open Go.Obj renaming cells->E
open Go.Proofs.Tryz renaming prog->X
open Go.Value renaming pointer->A8,string->A9,agg->Ab,bool->Ac
open Go.Ending renaming returned->Af
open Go renaming Calls->Am
variable{V V' W W' W0:O}{m:Nat->Nat->Bool}{A a b ecap n rc s:Nat}{st:Nat->Nat}{ea ra:A4}{L:List (Int×Int)}{arr:A3}
section
open Go.RowKit
def Ks(x:Nat):Bool:=decide (56320<=x/\x<=57343)
def NQ(x:Nat):Bool:=decide (55296<=x/\x<=56319)
def Y8(x:Nat)(w:O):Am X 253 #[I .i32 x] w λe d=>e=Af (Ac (Ks x))/\d=w:=by
 unfold Ks;by_cases b:56320<=x
 ·by_cases c:x<=57343
  ·have a:decide ((x:Int)<=57343)=true:=Ax
   rw[CH ⟨b,c⟩];go_enter func253,ntmps253;go_wp2;go_ret;exact⟨Z,Z⟩
  have a:decide ((x:Int)<=57343)=false:=Ax
  rw[CO J];go_enter func253,ntmps253;go_wp2;go_ret;exact⟨Z,Z⟩
 rw[CO J];go_enter func253,ntmps253;go_wp2;go_ret;exact⟨Z,Z⟩
def jV(x:Nat)(w:O):Am X 254 #[I .i32 x] w λe d=>e=Af (Ac (NQ x))/\d=w:=by
 unfold NQ;by_cases b:55296<=x
 ·by_cases c:x<=56319
  ·have a:decide ((x:Int)<=56319)=true:=Ax
   rw[CH ⟨b,c⟩];go_enter func254,ntmps254;go_wp2;go_ret;exact⟨Z,Z⟩
  have a:decide ((x:Int)<=56319)=false:=Ax
  rw[CO J];go_enter func254,ntmps254;go_wp2;go_ret;exact⟨Z,Z⟩
 rw[CO J];go_enter func254,ntmps254;go_wp2;go_ret;exact⟨Z,Z⟩
def QV{bs:A1}{lim:Int}:∀{k p a x q:Nat},Do bs lim k p a=.ok (x,q)->x<(a+1)*16^k/\q=p+k
 |0,p,a,x,q,h=>by
  unfold Do at h;cases h;simp
 |k+1,p,a,x,q,h=>by
  rw[Do]at h;split at h
  ·cases h
  split at h
  ·cases h
  split at h
  ·cases h
  next d hd =>
  obtain⟨b,c⟩:=QV h;have e:=QU hd;have f:(a*16+d+1)*16^k<=((a+1)*16)*16^k:=Qa _ J;have g:((a+1)*16)*16^k=(a+1)*16^(k+1):=by rw[Qo,Jf,JJ 16]
  exact⟨J,J⟩
def FU(bs:A1)(lim:Int)(p:Nat):A5 Int:=match Do bs lim 4 p 0 with
 |.error e=>.error e
 |.ok (x,q)=>if Ks x=true then .error (9,(q:Int)-1)else if NQ x=true then(match Ci bs lim [92,117] q with
  |.error e=>.error e
  |.ok (_,q2)=>match Do bs lim 4 q2 0 with
   |.error e=>.error e
   |.ok (y,q3)=>if Ks y=true then .ok (65536+((x:Int)-55296)*1024+((y:Int)-56320),q3)else .error (9,(q3:Int)-1))else .ok (x,q)
def jW(W:O)(b:Nat)(s:BO)(h:BD W b s):Am X 246 #[Ab #[A8 (U ⟨b,0,Y⟩)]] W (ED W b s (λx:Int=>I .i32 x) (FU s.bs s.lim s.pos)):=by
 have j:=T (AA h);obtain⟨R,p⟩:∃R,Hid (FU s.bs s.lim s.pos=R):=⟨_,show _=_ from rfl⟩
 rw[p.out];have a:=p.out;unfold FU at a;have o:=j.cell;have u:=Y7 _ b s j.src;go_enter func246,ntmps246
 go_wp2_with fail
 refine u.mono ?_;rintro e D ⟨c,hF⟩;rcases hx:Do s.bs s.lim 4 s.pos 0 with⟨f,i⟩|⟨x,q⟩
 ·simp only[hx]at a hF;subst a;obtain rfl:=(show C0 f i e from hF)
  go_wp2;exact⟨Z,j.but.trans c,Z⟩
 simp only[hx]at a hF;have C:=(QV hx).1;obtain⟨rfl,g⟩:=hF;obtain⟨d,o⟩:=DS j g c
 go_wp2_with fail
 refine(Y8 x _).mono ?_;rintro e w ⟨rfl,rfl⟩;cases r:Ks x
 ·rw[r,Bz Ay]at a
  go_wp2_with fail
  refine(jV x _).mono ?_;rintro e w ⟨rfl,rfl⟩;cases m:NQ x
  ·rw[m,Bz Ay]at a;subst a;go_wp2;go_ret;exact⟨d.but,Z,d.src⟩
  rw[m,BA rfl]at a;have A:=CD (show decide (55296<=x/\x<=56319)=true from m)
  go_wp2_with fail
  refine(NP _ b {s with pos:=q} [92,117] Ay d.src).mono ?_;rintro e F ⟨c,hF⟩;rcases hq:Ci s.bs s.lim [92,117] q with⟨f,i⟩|⟨_,t⟩
  ·simp only[hq]at a hF;subst a;obtain rfl:=(show C0 f i e from hF)
   go_wp2;exact⟨Z,d.but.trans c,Z⟩
  simp only[hq]at a hF;obtain⟨rfl,g⟩:=hF;obtain⟨l,o⟩:=DS d g c
  go_wp2_with fail
  refine(Y7 _ b {s with pos:=t} l.src).mono ?_;rintro e H ⟨c,hF⟩;rcases hy:Do s.bs s.lim 4 t 0 with⟨f,i⟩|⟨y,v⟩
  ·simp only[hy]at a hF;subst a;obtain rfl:=(show C0 f i e from hF)
   go_wp2;exact⟨Z,l.but.trans c,Z⟩
  simp only[hy]at a hF;obtain⟨rfl,g⟩:=hF;obtain⟨k,o⟩:=DS l g c
  go_wp2_with fail
  refine(Y8 y _).mono ?_;rintro e L ⟨rfl,rfl⟩;cases n:Ks y
  ·rw[n,Bz Ay]at a;subst a
   go_wp2_with fail
   refine(EX _ b {s with pos:=v} _ k.src).mono ?_;rintro e z ⟨rfl,rfl⟩;go_wp2;exact⟨Z,k.but,Z⟩
  rw[n,BA rfl]at a;have B:=CD (show decide (56320<=y/\y<=57343)=true from n);subst a;go_wp2;go_ret;exact⟨k.but,by first|rfl|(simp;omega),k.src⟩
 rw[r,BA rfl]at a;subst a
 go_wp2_with fail
 refine(EX _ b {s with pos:=q} _ d.src).mono ?_;rintro e z ⟨rfl,rfl⟩;go_wp2;exact⟨Z,d.but,Z⟩
def Fw(bs:A1)(lim:Int)(p:Nat):A5 Int:=match bs[p]? with
 |none=>.error (9,p)
 |some c=>if(p:Int)=lim then .error (8,p)else if c.toNat=34 then .ok (34,p+1)else if c.toNat=92 then .ok (92,p+1)else if c.toNat=47 then .ok (47,p+1)else if c.toNat=98 then .ok (8,p+1)else if c.toNat=102 then .ok (12,p+1)else if c.toNat=110 then .ok (10,p+1)else if c.toNat=114 then .ok (13,p+1)else if c.toNat=116 then .ok (9,p+1)else if c.toNat=117 then FU bs lim (p+1)else .error (9,p)
def jX(W:O)(b:Nat)(s:BO)(h:BD W b s):Am X 239 #[Ab #[A8 (U ⟨b,0,Y⟩)]] W (ED W b s (λx:Int=>I .i32 x) (Fw s.bs s.lim s.pos)):=by
 have l:=T (AA h);obtain⟨R,B⟩:∃R,Hid (Fw s.bs s.lim s.pos=R):=⟨_,show _=_ from rfl⟩
 rw[B.out];have a:=B.out;unfold Fw at a;have A:=l.cell;clear h B;rcases Is l.src with f|f|⟨c,f⟩
 ·rw[Dz (by have:s.pos=s.bs.length:=f;omega)]at a;subst a;have n:=IQ _ b s l.src f;clear f;go_enter func239,ntmps239
  go_wp2_with(first
   |(go_at_call 226;refine n.mono ?_;clear n;rintro e P ⟨hF,k⟩;obtain rfl:=hF))
  exact⟨Z,l.but.trans (BF.of_below k),Z⟩
 ·have F:=f.2;have H:=f.1;rw[C6 H]at a;simp only[]at a;rw[BA F]at a;subst a;have n:=IR _ b s l.src f;clear f F H;go_enter func239,ntmps239
  go_wp2_with(first
   |(go_at_call 226;refine n.mono ?_;clear n;rintro e P ⟨hF,k⟩;obtain rfl:=hF))
  exact⟨Z,l.but.trans (BF.of_below k),Z⟩
 have L:=f.1;have N:=f.2;rw[L]at a;simp only[]at a;rw[Bz N]at a;have n:Am X 226 #[A8 (U ⟨b,0,Y⟩)] _ λe C=>e=Af (I .u8 c.toNat)/\BD C b {s with pos:=s.pos+1}/\BF b _ C:=Ep _ b s c l.src f;clear f L N;go_enter func239,ntmps239
 go_wp2_with fail
 refine n.mono ?_;clear n A;rintro e P ⟨rfl,y,k⟩;obtain⟨d,A⟩:=DS l y k;clear l y k;by_cases g:c.toNat=34
 ·rw[BA g]at a;subst a;have ab:((c.toNat:Int)==34)=true:=Ax
  have t:Hid (wrap32 (c.toNat:Int)=34):=keV
  clear g;go_wp2;go_ret;exact⟨d.but,by show Ending.returned (I .i32 (wrap32 (c.toNat:Int)))=_;rw[t.out],d.src⟩
 rw[Bz g]at a;have ab:=BS (c:=c) 34 J;by_cases i:c.toNat=92
 ·rw[BA i]at a;subst a;have ad:((c.toNat:Int)==92)=true:=Ax
  have t:Hid (wrap32 (c.toNat:Int)=92):=keV
  clear g i;go_wp2;go_ret;exact⟨d.but,by show Ending.returned (I .i32 (wrap32 (c.toNat:Int)))=_;rw[t.out],d.src⟩
 rw[Bz i]at a;have ad:=BS (c:=c) 92 J;by_cases j:c.toNat=47
 ·rw[BA j]at a;subst a;have ac:((c.toNat:Int)==47)=true:=Ax
  have t:Hid (wrap32 (c.toNat:Int)=47):=keV
  clear g i j;go_wp2;go_ret;exact⟨d.but,by show Ending.returned (I .i32 (wrap32 (c.toNat:Int)))=_;rw[t.out],d.src⟩
 rw[Bz j]at a;have ac:=BS (c:=c) 47 J;by_cases m:c.toNat=98
 ·rw[BA m]at a;subst a;have ae:((c.toNat:Int)==98)=true:=Ax
  clear g i j m;go_wp2;go_ret;exact⟨d.but,Z,d.src⟩
 rw[Bz m]at a;have ae:=BS (c:=c) 98 J;by_cases o:c.toNat=102
 ·rw[BA o]at a;subst a;have Q:((c.toNat:Int)==102)=true:=Ax
  clear g i j m o;go_wp2;go_ret;exact⟨d.but,Z,d.src⟩
 rw[Bz o]at a;have Q:=BS (c:=c) 102 J;by_cases p:c.toNat=110
 ·rw[BA p]at a;subst a;have S:((c.toNat:Int)==110)=true:=Ax
  clear g i j m o p;go_wp2;go_ret;exact⟨d.but,Z,d.src⟩
 rw[Bz p]at a;have S:=BS (c:=c) 110 J;by_cases r:c.toNat=114
 ·rw[BA r]at a;subst a;have q:((c.toNat:Int)==114)=true:=Ax
  clear g i j m o p r;go_wp2;go_ret;exact⟨d.but,Z,d.src⟩
 rw[Bz r]at a;have q:=BS (c:=c) 114 J;by_cases u:c.toNat=116
 ·rw[BA u]at a;subst a;have z:((c.toNat:Int)==116)=true:=Ax
  clear g i j m o p r u;go_wp2;go_ret;exact⟨d.but,Z,d.src⟩
 rw[Bz u]at a;have z:=BS (c:=c) 116 J;by_cases w:c.toNat=117
 ·rw[BA w]at a;have aa:((c.toNat:Int)==117)=true:=Ax
  clear g i j m o p r u w;have D:=λV (hV:BD V b {s with pos:=s.pos+1})=>jW V b {s with pos:=s.pos+1} hV;have v:∀V,BD V b {s with pos:=s.pos+1}->Am X 246 #[Ab #[A8 (U ⟨b,0,Y⟩)]] V (ED V b {s with pos:=s.pos+1} (λx:Int=>I .i32 x) R):=by rw[<-a];exact D
  clear D a;rcases R with⟨en,pl⟩|⟨ag,af⟩
  ·go_wp2_with(first
    |(go_at_call 246;refine(v _ d.src).mono ?_;clear v A;rintro e w3 ⟨k,hF⟩;obtain rfl:=hF))
   exact⟨Z,d.but.trans k,Z⟩
  go_wp2_with(first
   |(go_at_call 246;refine(v _ d.src).mono ?_;clear v A;rintro e w3 ⟨k,rfl,y⟩))
  go_ret;exact⟨d.but.trans k,Z,y⟩
 rw[Bz w]at a;have aa:=BS (c:=c) 117 J;subst a;clear g i j m o p r u w
 go_wp2_with(first
  |(go_at_call 227;refine(EX _ b {s with pos:=s.pos+1} _ d.src).mono ?_;rintro e w7 ⟨hF,rfl⟩;obtain rfl:=hF))
 exact⟨Z,d.but,AZ⟩
def E2(W:World)(m:Nat)(ks:List A1):Prop:=∃D,W.ownsMap prog 9 (unitElem (H:=Unit)) m ks.length D/\∀l:A1,Maps.has D (.string l)=decide (l∈ks)
def E2.kept{m:Nat}{ks:List A1}{row:Option Nat}(h:E2 W m ks)(c:W.grownBy W' row)(d:U m≠row):E2 W' m ks:=by
 obtain⟨D,a,b⟩:=h;exact⟨D,a.kept c d,b⟩
def QW(l:A1)(hb:l.length<=1000000000):keyOf X 9 (A9 ⟨l.toArray⟩)=U (.string l):=by
 have a:(⟨l.toArray⟩:ByteArray).size<=maxLen:=by
  show l.toArray.size<=maxLen;rw[Hm];unfold maxLen;omega
 simp[keyOf,mapKey,underlying9,a]
def Yc(W:O)(m:Nat)(ks:List A1)(l:A1)(h:E2 W m ks)(d:l∈ks)(hb:l.length<=1000000000):Am X 250 #[.map (U m),A9 ⟨l.toArray⟩] W λe a=>e=Af (Ac false)/\A0 W a:=by
 obtain⟨D,b,c⟩:=h;have i:(zeroValue 194).run X W=.ok (Ab #[]) W:=M
 obtain⟨v,j,f,g⟩:=b.look_ok (OB underlying9) underlying346 i SZ (QW l hb);obtain⟨rfl,_⟩:=unitElem_inv g;rw[c l,CH d]at f;go_enter func250,ntmps250;go_wp2;go_ret;exact⟨Z,BN⟩
def Yd(W:O)(m:Nat)(ks:List A1)(l:A1)(h:E2 W m ks)(o:¬l∈ks)(w:ks.length<1000000000)(hb:l.length<=1000000000):Am X 250 #[.map (U m),A9 ⟨l.toArray⟩] W λe f=>e=Af (Ac true)/\E2 f m (l::ks)/\BF m W f:=by
 obtain⟨D,b,g⟩:=h;have u:(zeroValue 194).run X W=.ok (Ab #[]) W:=M
 obtain⟨v,y,s,t⟩:=b.look_ok (OB underlying9) underlying346 u SZ (QW l hb);obtain⟨rfl,_⟩:=unitElem_inv t;rw[g l,CO o]at s;obtain⟨i,x,r,j⟩:=(b.alloc (E #[] 194)).store (OB underlying9) underlying346 AC (QW l hb) (val:=Ab #[]) (SZ (H:=Unit));have d:Hid (E2 i m (l::ks)/\BF m W i):=by
  refine⟨⟨_,r,λq=>?_⟩,?_⟩
  ·by_cases c:q=l
   ·subst c;rw[SH b.isMap (OB (P:=X) underlying9 |>.key (QW q hb))];simp
   rw[SE (λe=>c (by injection e)),g q];simp[c]
  have a:=j.grown;exact⟨a.os,a.tape,a.output,C7 Az a.size,λk n p=>(a.block k Ax keH).trans (BT _ _ _ n)⟩
 go_enter func250,ntmps250;go_wp2;go_ret;exact⟨Z,d.1,d.2⟩
def GY.of(h:GY W)(j:∀k,k<W.heap.size->k<=1->V.heap[k]?=W.heap[k]?):GY V:=by
 have a:∀(g off:Nat) (v:Value),g<=1->W.cell? ⟨g,off,Y⟩=U v->V.cell? ⟨g,off,Y⟩=U v:=λg off v i c=>(Im (w:=W) (j g (G8 c) i)).trans c;refine⟨λu b=>a _ _ _ Ay (h.cb u b),λu b=>?_⟩;obtain⟨d,e,f⟩:=h.pk u b;exact⟨a _ _ _ Ay d,a _ _ _ Ay e,a _ _ _ Ay f⟩
def GY.lt(h:GY W):1<W.heap.size:=G8 (h.pk 0 Ay).1
def GY.below(h:GY W)(hb:A0 W V):GY V:=h.of λk a _=>hb.block k a
def GY.but(h:GY W)(hb:BF b W V)(d:1<b):GY V:=h.of λk a c=>hb.block k a J
def ls(W:O)(a:A4)(bs:A1)(c:Nat)(d l:Int)(h:Er W a bs):Am X 37 #[I K 2,Ab #[I K d,I K l],G a bs.length c] W λe f =>
   ∃b,e=Af (.iface 150 (Ab #[A8 (U ⟨b,0,Y⟩),.func (.func 61) #[] #[]]))/\BD f b ⟨a,bs,c,d,l,0,0⟩/\W.heap.size<=b/\A0 W f:=by
 have j:=T h;go_enter func37,ntmps37;go_wp2;go_ret;have g:A0 W ((W.alloc (E #[I K d,I K l] 61)).alloc (E #[G a bs.length c,I K d,I K l,I K 0,I K 0] 145)):=(BN).alloc Az _;have i:=BI (W.alloc (E #[I K d,I K l] 61)) (E #[G a bs.length c,I K d,I K l,I K 0,I K 0] 145);rw[BU]at i;exact⟨W.heap.size+1,Z,Ti j g J i,J,g⟩
def lu(W:O)(a:A4)(bs:A1)(c:Nat)(d l:Int)(h:Er W a bs):Am X 37 #[I K 3,Ab #[I K d,I K l],G a bs.length c] W λe f =>
   ∃b,e=Af (.iface 150 (Ab #[A8 (U ⟨b,0,Y⟩),.func (.func 62) #[] #[]]))/\BD f b ⟨a,bs,c,d,l,0,0⟩/\W.heap.size<=b/\A0 W f:=by
 have j:=T h;go_enter func37,ntmps37;go_wp2;go_ret;have g:A0 W ((W.alloc (E #[I K d,I K l] 61)).alloc (E #[G a bs.length c,I K d,I K l,I K 0,I K 0] 145)):=(BN).alloc Az _;have i:=BI (W.alloc (E #[I K d,I K l] 61)) (E #[G a bs.length c,I K d,I K l,I K 0,I K 0] 145);rw[BU]at i;exact⟨W.heap.size+1,Z,Ti j g J i,J,g⟩
def Yy(W:O)(b:Nat):Am X 223 #[A8 (U ⟨b,0,Y⟩)] W λe a=>e=Af (.tuple #[])/\a=W:=by
 go_enter func223,ntmps223;go_wp2;go_end0;exact⟨Z,Z⟩
def Da:Nat->Nat:=λ_=>0
structure Gk(W:World)(X:Nat->Nat)(V:World):Prop where
 box:V.heap[W.heap.size]?=some (.cells (BR X) 132)
 ret:V.heap[W.heap.size+1]?=some (.cells (BR Da) 132)
 below:A0 W V
def Gk.next{X:Nat->Nat}(h:Gk W X V)(hb:A0 V V'):Gk W X V' :=
 ⟨(hb.block _ (BC h.box)).trans h.box,(hb.block _ (BC h.ret)).trans h.ret,h.below.trans (hb.mono h.below.size)⟩
def mc(W:O)(X:Nat->Nat):Gk W X ((W.alloc (E (BR X) 132)).alloc (E (BR Da) 132)) :=
 ⟨(BT _ _ _ Az).trans (BI _ _),Au (BI (W.alloc (E (BR X) 132)) (E (BR Da) 132)),(BN).alloc Az _⟩
def Pc(X:Nat->Nat):(BR X).all (·.oneCell')=true:=by
 rw[Array.all_eq_true];intro i h;simp[BR,Value.oneCell']
def Pe(X a:Nat->Nat):(BR X).size=(BR a).size:=by rw[La,La]
def Gk.set{X:Nat->Nat}(h:Gk W X V)(g:Nat)(a:W.heap.size+1<g)(cs:A3):Gk W X (V.setRow g cs) :=
 ⟨sx J h.box,sx J h.ret,CF h.below J _⟩
def Gk.cell{X:Nat->Nat}(h:Gk W X V)(g j:Nat)(a:W.heap.size+1<g)(v:Value):Gk W X (V.setCell ⟨g,j,Y⟩ v) :=
 ⟨(FB _ _ _ _ Ax).trans h.box,(FB _ _ _ _ Ax).trans h.ret,h.below.setCell Ax _⟩
def Gk.drew{X:Nat->Nat}(h:Gk W X V):Gk W X V.drew:=⟨h.box,h.ret,h.below.drew⟩
def me(st X:Nat->Nat)(k:Nat):(λi=>if i=k then w1 (st k) (X k)else Eg st X k i)=Eg st X (k+1):=by
 funext r;unfold Eg;by_cases h:r=k
 ·subst h;rw[BA rfl,BA J]
 rw[Bz h];by_cases a:r<k
 ·rw[BA a,BA J]
 rw[Bz a,Bz J]
def YX(y:Nat)(h:y<256):IntKind.u16.wrap ((y:Int)*2)=((y<<<1:Nat):Int):=by
 have:=YL (y*2) J;rw[Nk];rw[show((y:Int)*2)=((y*2:Nat):Int) by simp,this]
def mg(st X:Nat->Nat):Eg st X 0=X:=by
 funext r;unfold Eg;rw[Bz J]
def mh(W:O)(A:Nat)(ra:A4)(rc n:Nat)(st:Nat->Nat)(P:Nat->Nat)(H:∀r,P r<512)(x:∀r,st r<256)(hn:n<=16)(s:A<W.heap.size)(C:W.cell? ⟨A,0,Y⟩=U (G ra n rc))(cs:∀r,r<16->W.cell? ⟨A,3+r,Y⟩=U (I .u16 (st r))):Am X 89 #[A8 (U ⟨A,0,Y⟩),.agg (BR P)] W λaf W'=>(∃q,af=Af (.agg (BR q))/\(∀r,r<n->∀k,(q r).testBit k=IX (st r) (P r) k)/\(∀r,n<=r->q r=P r)/\∀r,q r<512)/\A0 W W':=by
 have aa:Hid (Gk W P ((W.alloc (E (BR P) 132)).alloc (E #[I .u16 0,I .u16 0,I .u16 0,I .u16 0,I .u16 0,I .u16 0,I .u16 0,I .u16 0,I .u16 0,I .u16 0,I .u16 0,I .u16 0,I .u16 0,I .u16 0,I .u16 0,I .u16 0] 132))):=mc W P;have e:=T (lS P st n H);go_enter func89,ntmps89;go_wp2
 go_loopg[] (8192-Iw P 16) (λg wr=>∃a,Hid (Gk W a wr)/\Hid (MO P st n a)/\Hid (Iw a 16+g=8192))
 case atStart=>exact⟨P,aa,e,Ap (Rb H 16)⟩
 case round =>
  obtain⟨a,o,i,R⟩:=hrel;have d0:=(o.below.cell (p:=⟨A,_,Y⟩) s).trans C
  go_wp2_with(first
   |(refine C8 Z 132 (.tmp 3) Z W.heap.size Z _ _ _ _ o.box underlying132 Z (Fi a) ?_)
   |(refine Co Z 132 (.tmp 5) (.tmp 7) Z wr.heap.size (BR a) Z Z 132 (BR Da) (BI wr _) (Fi a) (Pe _ _) (Pc a) ?_;have y:=T (BC o.ret);have B:Hid (Gk W a ((wr.alloc (E #[I .u16 0,I .u16 0,I .u16 0,I .u16 0,I .u16 0,I .u16 0,I .u16 0,I .u16 0,I .u16 0,I .u16 0,I .u16 0,I .u16 0,I .u16 0,I .u16 0,I .u16 0,I .u16 0] 132)).setRow wr.heap.size (BR a))):=(o.next BN).set _ y _;have ac:Hid (((wr.alloc (E #[I .u16 0,I .u16 0,I .u16 0,I .u16 0,I .u16 0,I .u16 0,I .u16 0,I .u16 0,I .u16 0,I .u16 0,I .u16 0,I .u16 0,I .u16 0,I .u16 0,I .u16 0,I .u16 0] 132)).setRow wr.heap.size (BR a)).heap[wr.heap.size]?=U (E (BR (Eg st a 0)) 132)):=(by rw[mg];exact Ca _ _ _ _ _ _ (BI wr _));generalize(wr.alloc (E #[I .u16 0,I .u16 0,I .u16 0,I .u16 0,I .u16 0,I .u16 0,I .u16 0,I .u16 0,I .u16 0,I .u16 0,I .u16 0,I .u16 0,I .u16 0,I .u16 0,I .u16 0,I .u16 0] 132)).setRow wr.heap.size (BR a)=V1 at *;generalize wr.heap.size=M at *;have d0:=(B.below.cell (p:=⟨A,_,Y⟩) s).trans C))
  go_loopg[13] n (λg aq V=>∃k:Nat,aq=I K k/\Hid (k+g=n)/\Hid (Gk W a V)/\Hid (V.heap[M]?=U (E (BR (Eg st a k)) 132)))
  case atStart=>exact⟨0,rfl,AD,B,ac⟩
  case round =>
   obtain⟨k,rfl,t,d,l⟩:=hrel
   cases gk with
   |zero =>
    have an:¬(k:Int)<(n:Int):=Ao t.out
    have am:k=n:=Ao t.out
    subst am;have ah:∀r,a r<65536:=λr=>Ao (i.lt r)
    have aj:∀r,Eg st a k r<65536:=λr=>Ao ((i.step x).lt r)
    have N:=m9 (Eg st a k) a aj ah wr
    cases m:MP (Eg st a k) a with
    |true =>
     rw[m]at N;have he:∀r,r<k->w1 (st r) (a r)=a r:=λr j=>by
      have h:=YV m r J;unfold Eg at h;rwa[BA j]at h
     have Q:=T (i.done he)
     go_wp2_with(first
      |(refine C8 Z 132 (.tmp 5) Z M Z _ _ _ _ l underlying132 Z (Fi _) ?_)
      |(refine C8 Z 132 (.tmp 3) Z W.heap.size Z _ _ _ _ d.box underlying132 Z (Fi a) ?_)
      |(refine Co Z 132 (.tmp 4) (.tmp 36) Z (W.heap.size+1) (BR a) Z Z 132 (BR Da) d.ret (Fi a) (Pe _ _) (Pc a) ?_))
     refine Cc (LF results89 _ _ (W.heap.size+1) 132 (BR a) (0,0) _ Z (Ca _ _ _ _ _ _ d.ret) underlying132 Z (Fi a)) Z ⟨⟨a,Z,Q,i.off,i.lt⟩,CF d.below J _⟩
    |false =>
     rw[m]at N;have HN:Hid (Iw a 16<Iw (Eg st a k) 16):=by
      show _<_;have L:∀r,a r<=Eg st a k r:=λr=>by
       unfold Eg;by_cases j:r<k
       ·rw[BA j];exact lQ _ _
       rw[Bz j];exact BM _
      have al:∃r,r<16/\a r<Eg st a k r:=by
       refine Sr λhh=>?_;have:MP (Eg st a k) a=true:=YW λr j=>by
        have D:=L r;have F:¬a r<Eg st a k r:=λh=>hh ⟨r,j,h⟩;omega
       rw[this]at m;cases m
      obtain⟨r,D,F⟩:=al;exact YP L 16 r D F
     have u:=T (i.step x)
     go_wp2_with(first
      |(refine C8 Z 132 (.tmp 5) Z M Z _ _ _ _ l underlying132 Z (Fi _) ?_)
      |(refine C8 Z 132 (.tmp 3) Z W.heap.size Z _ _ _ _ d.box underlying132 Z (Fi a) ?_)
      |(refine Co Z 132 (.tmp 3) (.tmp 37) Z W.heap.size (BR (Eg st a k)) Z Z 132 (BR a) d.box (Fi _) (Pe _ _) (Pc _) ?_))
     have ab:Hid (Gk W (Eg st a k) (wr.setRow W.heap.size (BR (Eg st a k)))):=⟨Ca _ _ _ _ _ _ d.box,sx J d.ret,CF d.below (BM _) _⟩
     go_roundg (8192-Iw (Eg st a k) 16)
     case measure=>have:=R.out;have:=HN.out;have:=Rb u.lt 16;omega
     case rel=>exact⟨Eg st a k,ab,u,Ap (Rb u.lt 16)⟩
   |succ g =>
    have aw:k<n:=Ao t.out
    have an:(k:Int)<(n:Int):=J
    have av:(k:Int)<16:=J
    have ai:=i.lt k;have ap:=x k;have ha:=R9 (a k) (st k) J J;have ak:a k&&&st k<256:=Mn (n:=8) _ J;have ax:=YX (a k&&&st k) ak;have ay:=YN ap ai;have ao:bits .or .u16 (a k:Int) (((a k&&&st k)<<<1:Nat):Int)=((w1 (st k) (a k):Nat):Int):=U2 _ _ J kf1;have ar:wr.cell? ⟨M,k,Y⟩=U (I .u16 (a k)):=by
     have h:=BB l k;rw[Jq _ k J]at h;rw[h];unfold Eg;rw[Bz J]
    have au:=Dx wr M k _ _ l;have z:Hid (wr.cell? ⟨W.heap.size,k,Y⟩=U (I .u16 (a k))/\wr.cell? ⟨A,3+k,Y⟩=U (I .u16 (st k))):=⟨by have h:=BB d.box k;rwa[Jq _ k J]at h,(d.below.cell (p:=⟨A,_,Y⟩) s).trans (cs k J)⟩
    have v:Hid (Gk W a (wr.drew.setCell ⟨M,k,Y⟩ (I .u16 ((w1 (st k) (a k):Nat):Int)))):=d.drew.cell _ _ y _;have ad:Hid ((wr.drew.setCell ⟨M,k,Y⟩ (I .u16 ((w1 (st k) (a k):Nat):Int))).heap[M]?=U (E (BR (Eg st a (k+1))) 132)):=by
     have h:=ET wr.drew M k _ _ (I .u16 ((w1 (st k) (a k):Nat):Int)) l;rw[Ra,me]at h;exact h
    go_wp2;have c:(λb:O=>b.cell? ⟨W.heap.size,k,Y⟩=U (I .u16 (a k))/\b.cell? ⟨A,3+k,Y⟩=U (I .u16 (st k))) {wr with drawn:=wr.drawn+1}:=z.out;have ag:(λb:O=>b.cell? ⟨W.heap.size,k,Y⟩=U (I .u16 (a k))/\b.cell? ⟨A,3+k,Y⟩=U (I .u16 (st k))) (wr.drew.setCell ⟨M,k,Y⟩ (I .u16 ((w1 (st k) (a k):Nat):Int))):=⟨by have h:=BB v.box k;rwa[Jq _ k J]at h,(v.below.cell (p:=⟨A,_,Y⟩) s).trans (cs k J)⟩
    refine Ec (S:=λb=>b.cell? ⟨W.heap.size,k,Y⟩=U (I .u16 (a k))/\b.cell? ⟨A,3+k,Y⟩=U (I .u16 (st k))) Aw ?_;refine BE 0 16 (I K k) c ?_;refine BL 1 17 (A8 (U ⟨M,k,Y⟩)) Z (λb f=>?y1) c ?_
    case y1=>go_simp
    refine BE 3 19 (I K k) c ?_;refine BL 4 20 (A8 (U ⟨W.heap.size,k,Y⟩)) Z (λb f=>?y4) c ?_
    case y4=>go_simp
    refine BL 5 21 (I .u16 (a k)) Z (λb f=>?y5) c ?_
    case y5=>(have z1:=f.1;go_simp)
    refine BE 6 22 (A8 (U ⟨A,0,Y⟩)) c ?_;refine BE 7 23 (I K k) c ?_;refine BE 8 24 (A8 (U ⟨A,0,Y⟩)) c ?_;refine BE 9 25 (A8 (U ⟨A,3,Y⟩)) c ?_;refine BL 10 26 (A8 (U ⟨A,3+k,Y⟩)) Z (λb f=>?y10) c ?_
    case y10=>go_simp
    refine BL 11 27 (I .u16 (st k)) Z (λb f=>?y11) c ?_
    case y11=>(have z2:=f.2;go_simp)
    refine BL 12 28 (I .u16 ((a k&&&st k:Nat):Int)) Z (λb f=>?y12) c ?_
    case y12=>go_simp
    refine BL 13 29 (I .u16 (((a k&&&st k)<<<1:Nat):Int)) Z (λb f=>?y13) c ?_
    case y13=>go_simp
    refine C9 2 (λae w=>?_);go_simp;refine w.out _ _ c (λ_=>?_);refine BL 14 30 (I .u16 ((w1 (st k) (a k):Nat):Int)) Z (λb f=>?y14) c ?_
    case y14=>(go_simp;exact ao)
    refine BL 15 31 (A8 (U ⟨M,k,Y⟩)) Z (λb f=>?y15) c ?_
    case y15=>go_simp
    refine C9 16 (λae w=>?_);go_simp;refine w.out _ _ ag (λ_=>?_);refine Cv ?_;go_simp;go_wp2;go_roundg g
    case measure=>omega
    case rel=>exact⟨k+1,AE,Ap t.out,v,ad⟩
structure LV(W:World)(A:Nat)(ra:A4)(rc n:Nat)(st:Nat->Nat):Prop where
 lt:A<W.heap.size
 rules:W.cell? ⟨A,0,none⟩=some (.slice ra n rc)
 stays:∀r,r<16->W.cell? ⟨A,3+r,none⟩=some (.int .u16 (st r))
def LV.below(h:LV W A ra rc n st)(hb:A0 W W'):LV W' A ra rc n st :=
 ⟨CA h.lt hb.size,(hb.cell (p:=⟨A,_,Y⟩) h.lt).trans h.rules,λr a=>(hb.cell (p:=⟨A,_,Y⟩) h.lt).trans (h.stays r a)⟩
def NY(n:Nat)(st P Y:Nat->Nat):Prop:=(∀r,r<n->∀k,(Y r).testBit k=IX (st r) (P r) k)/\(∀r,n<=r->Y r=P r)/\∀r,Y r<512
def U7(n:Nat)(st P:Nat->Nat)(e:Ending):Prop:=∃Y,e=Af (.agg (BR Y))/\NY n st P Y
def YY(h:LV W A ra rc n st)(P:Nat->Nat)(b:∀r,P r<512)(d:∀r,st r<256)(c:n<=16):Am X 89 #[A8 (U ⟨A,0,Y⟩),.agg (BR P)] W λe a=>U7 n st P e/\A0 W a :=
 mh W A ra rc n st P b d c h.lt h.rules h.stays
def one(k:Nat):Nat->Nat:=λr=>if r<k then 1 else 0
def mi:one 0=Da:=by funext r;rfl
def mj(k:Nat):(λi=>if i=k then(one k k|||2^0:Nat)else one k i)=one (k+1):=by
 funext r;unfold one;by_cases h:r=k
 ·subst h;rw[BA rfl,Bz J,BA J];rfl
 rw[Bz h];by_cases a:r<k
 ·rw[BA a,BA J]
 rw[Bz a,Bz J]
def YZ(k r:Nat):one k r<512:=by unfold one;split<;>omega
structure MQ(W:World)(X:Nat->Nat)(V:World):Prop where
 ret:V.heap[W.heap.size]?=some (.cells (BR Da) 132)
 p:V.heap[W.heap.size+1]?=some (.cells (BR X) 132)
 below:A0 W V
def MQ.next{X:Nat->Nat}(h:MQ W X V)(hb:A0 V V'):MQ W X V' :=
 ⟨(hb.block _ (BC h.ret)).trans h.ret,(hb.block _ (BC h.p)).trans h.p,h.below.trans (hb.mono h.below.size)⟩
def ml(W:O):MQ W Da ((W.alloc (E (BR Da) 132)).alloc (E (BR Da) 132)) :=
 ⟨(BT _ _ _ Az).trans (BI _ _),Au (BI (W.alloc (E (BR Da) 132)) (E (BR Da) 132)),(BN).alloc Az _⟩
def mm(W:O)(A:Nat)(C:A4)(D n:Nat)(st:Nat->Nat)(B:∀r,st r<256)(y:n<=16)(h:LV W A C D n st):Am X 57 #[A8 (U ⟨A,0,Y⟩)] W λe W'=>U7 n st (one n) e/\A0 W W':=by
 have f:=T h;have j:Hid (MQ W Da ((W.alloc (E #[I .u16 0,I .u16 0,I .u16 0,I .u16 0,I .u16 0,I .u16 0,I .u16 0,I .u16 0,I .u16 0,I .u16 0,I .u16 0,I .u16 0,I .u16 0,I .u16 0,I .u16 0,I .u16 0] 132)).alloc (E #[I .u16 0,I .u16 0,I .u16 0,I .u16 0,I .u16 0,I .u16 0,I .u16 0,I .u16 0,I .u16 0,I .u16 0,I .u16 0,I .u16 0,I .u16 0,I .u16 0,I .u16 0,I .u16 0] 132))):=ml W;have H:=h.rules;have N:=h.lt;go_enter func57,ntmps57;go_wp2
 go_loopg[10] n (λg z V=>∃k:Nat,z=I K k/\Hid (k+g=n)/\Hid (MQ W (one k) V))
 case atStart=>exact⟨0,rfl,AD,by rw[mi];exact j⟩
 case round =>
  obtain⟨k,rfl,c,a⟩:=hrel
  cases gk with
  |zero =>
   have x:¬(k:Int)<(n:Int):=Ao c.out
   have w:k=n:=Ao c.out
   subst w;have o:=λV t=>YY (f.below (W':=V) t) (one k) (YZ k) B y
   go_wp2_with(first
    |(go_at_call 89;refine(o _ a.below).mono ?_;rintro e F ⟨⟨b,rfl,s⟩,q⟩;have d:=T (a.next q);have l:=T s)
    |(refine C8 Z 132 (.tmp 3) Z (W.heap.size+1) Z _ _ _ _ a.p underlying132 Z (Fi _) ?_)
    |(refine Co Z 132 (.tmp 2) (.tmp 18) Z W.heap.size (BR b) Z Z 132 (BR Da) d.ret (Fi b) (Pe _ _) (Pc b) ?_))
   refine Cc (LF results57 _ _ W.heap.size 132 (BR b) (0,0) _ Z (Ca _ _ _ _ _ _ d.ret) underlying132 Z (Fi b)) Z ⟨⟨b,Z,l⟩,CF d.below (BM _) _⟩
  |succ g =>
   have L:k<n:=Ao c.out
   have x:(k:Int)<(n:Int):=J
   have u:wr.cell? ⟨W.heap.size+1,0+k,Y⟩=U (I .u16 (one k k)):=by
    have h:=BB a.p (0+k);rw[Jq _ (0+k) J]at h;rw[h,DY]
   have v:=Dx wr (W.heap.size+1) (0+k) _ _ a.p;have m:=Pb wr (W.heap.size+1) 0 (one k k) k 0 J J (Ao (YZ k k)) u v;have i:Hid (MQ W (one (k+1)) (wr.setCell ⟨W.heap.size+1,k,Y⟩ (I .u16 ((one k k|||1:Nat):Int))).drew):=by
    refine⟨(FB wr _ _ _ Az).trans a.ret,?_,(a.below.setCell Az _).drew⟩;have h:=ET wr (W.heap.size+1) k _ _ (I .u16 ((one k k|||1:Nat):Int)) a.p;rw[Ra,show(1:Nat)=2^0 from rfl,mj]at h;exact h
   go_wp2_with(first
    |(go_at_call 87;refine m.mono ?_;rintro e F ⟨rfl,rfl⟩))
   go_roundg g
   case measure=>omega
   case rel=>exact⟨k+1,AE,Ap c.out,i⟩
structure Pf(W:World)(A tb L tc:Nat)(tk:Nat->Nat->Nat):Prop where
 lt:A<W.heap.size
 tlt:tb<W.heap.size
 takes:W.cell? ⟨A,19,none⟩=some (.slice (some ⟨tb,0,none⟩) L tc)
 at_:∀x r,x<L->r<16->W.cell? ⟨tb,x*16+r,none⟩=some (.int .u16 (tk x r))
def Pf.below{tb L tc:Nat}{tk:Nat->Nat->Nat}(h:Pf W A tb L tc tk)(hb:A0 W W'):Pf W' A tb L tc tk :=
 ⟨CA h.lt hb.size,CA h.tlt hb.size,(hb.cell (p:=⟨A,_,Y⟩) h.lt).trans h.takes,λx r b a=>(hb.cell (p:=⟨tb,_,Y⟩) h.tlt).trans (h.at_ x r b a)⟩
def Ku(st tk x:Nat):Nat:=(x&&&st)|||((x&&&tk)<<<1)
def Gl(st tk P:Nat->Nat)(k:Nat):Nat->Nat:=λr=>if r<k then Ku (st r) (tk r) (P r)else 0
def mo{st tk x:Nat}(d:st<256)(e:tk<256):Ku st tk x<512:=by
 have b:x&&&st<2^8:=Mn _ J;have c:x&&&tk<2^8:=Mn _ J;have a:(x&&&tk)<<<1<2^9:=kf1
 exact SI (n:=9) J a
def mq(st tk P:Nat->Nat):Gl st tk P 0=Da:=by funext r;unfold Gl Da;rw[Bz J]
def mr(st tk P:Nat->Nat)(k:Nat):(λi=>if i=k then Ku (st k) (tk k) (P k)else Gl st tk P k i)=Gl st tk P (k+1):=by
 funext r;unfold Gl;by_cases h:r=k
 ·subst h;rw[BA rfl,BA J]
 rw[Bz h];by_cases a:r<k
 ·rw[BA a,BA J]
 rw[Bz a,Bz J]
def ms{tk:Nat->Nat}(a:∀r,st r<256)(b:∀r,tk r<256)(P:Nat->Nat)(k r:Nat):Gl st tk P k r<512:=by
 unfold Gl;split
 ·exact mo (a r) (b r)
 omega
structure Lc(W:World)(P X:Nat->Nat)(V:World):Prop where
 box:V.heap[W.heap.size]?=some (.cells (BR P) 132)
 ret:V.heap[W.heap.size+1]?=some (.cells (BR Da) 132)
 nx:V.heap[W.heap.size+2]?=some (.cells (BR X) 132)
 below:A0 W V
def Lc.next{P X:Nat->Nat}(h:Lc W P X V)(hb:A0 V V'):Lc W P X V' :=
 ⟨(hb.block _ (BC h.box)).trans h.box,(hb.block _ (BC h.ret)).trans h.ret,(hb.block _ (BC h.nx)).trans h.nx,h.below.trans (hb.mono h.below.size)⟩
def mt(W:O)(P:Nat->Nat):Lc W P Da (((W.alloc (E (BR P) 132)).alloc (E (BR Da) 132)).alloc (E (BR Da) 132)) :=
 ⟨((BT _ _ _ Ax).trans (BT _ _ _ Az)).trans (BI _ _),(BT _ _ _ Az).trans (Au (BI (W.alloc (E (BR P) 132)) (E (BR Da) 132))),Au (BI ((W.alloc (E (BR P) 132)).alloc (E (BR Da) 132)) (E (BR Da) 132)),((BN).alloc Az _).alloc Ax _⟩
def mu(W:O)(A:Nat)(ra:A4)(rc n:Nat)(st:Nat->Nat)(d L l:Nat)(tk:Nat->Nat->Nat)(q:∀r,st r<256)(w:∀x r,tk x r<256)(hn:n<=16)(h:LV W A ra rc n st)(D:Pf W A d L l tk)(P:Nat->Nat)(N:∀r,P r<512)(x:Nat)(hx:x<L):Am X 184 #[A8 (U ⟨A,0,Y⟩),.agg (BR P),I K x] W λe W'=>U7 n st (Gl st (tk x) P n) e/\A0 W W':=by
 have s:=T h;have v:=T D;have o:Hid (Lc W P Da (((W.alloc (E (BR P) 132)).alloc (E #[I .u16 0,I .u16 0,I .u16 0,I .u16 0,I .u16 0,I .u16 0,I .u16 0,I .u16 0,I .u16 0,I .u16 0,I .u16 0,I .u16 0,I .u16 0,I .u16 0,I .u16 0,I .u16 0] 132)).alloc (E #[I .u16 0,I .u16 0,I .u16 0,I .u16 0,I .u16 0,I .u16 0,I .u16 0,I .u16 0,I .u16 0,I .u16 0,I .u16 0,I .u16 0,I .u16 0,I .u16 0,I .u16 0,I .u16 0] 132))):=mt W P;have c0:=h.rules;have al:=h.lt;have am:A<W.heap.size+1:=J
 have an:A<W.heap.size+1+1:=J
 go_enter func184,ntmps184;go_wp2
 go_loopg[14] n (λg ac V=>∃k:Nat,ac=I K k/\Hid (k+g=n)/\Hid (Lc W P (Gl st (tk x) P k) V))
 case atStart=>exact⟨0,rfl,AD,by rw[mq];exact o⟩
 case round =>
  obtain⟨k,rfl,m,f⟩:=hrel
  cases gk with
  |zero =>
   have hl:¬(k:Int)<(n:Int):=Ao m.out
   have aa:k=n:=Ao m.out
   subst aa;have C:=λV j=>YY (s.below (W':=V) j) (Gl st (tk x) P k) (ms q (w x) P k) q hn
   go_wp2_with(first
    |(go_at_call 89;refine(C _ f.below).mono ?_;rintro e w2 ⟨⟨i,rfl,hY⟩,F⟩;have p:=T (f.next F);have B:=T hY)
    |(refine C8 Z 132 (.tmp 7) Z (W.heap.size+1+1) Z _ _ _ _ f.nx underlying132 Z (Fi _) ?_)
    |(refine Co Z 132 (.tmp 6) (.tmp 47) Z (W.heap.size+1) (BR i) Z Z 132 (BR Da) p.ret (Fi i) (Pe _ _) (Pc i) ?_))
   refine Cc (LF results184 _ _ (W.heap.size+1) 132 (BR i) (0,0) _ Z (Ca _ _ _ _ _ _ p.ret) underlying132 Z (Fi i)) Z ⟨⟨i,Z,B⟩,CF p.below J _⟩
  |succ g =>
   have ak:k<n:=Ao m.out
   have hl:(k:Int)<(n:Int):=J
   have aj:(k:Int)<16:=J
   have Es:(x:Int)<(L:Int):=J
   have ae:=N k;have ap:=q k;have aq:=w x k;have ha:=R9 (P k) (st k) J J;have ag:=R9 (P k) (tk x k) J J;have af:P k&&&st k<256:=Mn (n:=8) _ J;have z:P k&&&tk x k<256:=Mn (n:=8) _ J;have ao:=YX (P k&&&tk x k) z;have ab:bits .or .u16 ((P k&&&st k:Nat):Int) (((P k&&&tk x k)<<<1:Nat):Int)=((Ku (st k) (tk x k) (P k):Nat):Int):=U2 _ _ J kf1;have ah:wr.cell? ⟨W.heap.size+1+1,k,Y⟩=U (I .u16 (Gl st (tk x) P k k)):=by
    have h:=BB f.nx k;rwa[Jq _ k J]at h
   have ai:=Dx wr (W.heap.size+1+1) k _ _ f.nx;have u:Hid (Lc W P (Gl st (tk x) P (k+1)) (wr.drew.setCell ⟨W.heap.size+1+1,k,Y⟩ (I .u16 ((Ku (st k) (tk x k) (P k):Nat):Int)))):=by
    refine⟨(FB wr.drew _ _ _ Ax).trans f.box,(FB wr.drew _ _ _ Az).trans f.ret,?_,f.below.drew.setCell Ax _⟩;have h:=ET wr.drew (W.heap.size+1+1) k _ _ (I .u16 ((Ku (st k) (tk x k) (P k):Nat):Int)) f.nx;rw[Ra,mr]at h;exact h
   have t:∀V,Lc W P (Gl st (tk x) P k) V\/Lc W P (Gl st (tk x) P (k+1)) V->V.cell? ⟨W.heap.size,k,Y⟩=U (I .u16 (P k))/\V.cell? ⟨A,3+k,Y⟩=U (I .u16 (st k))/\V.cell? ⟨A,19,Y⟩=U (G (U ⟨d,0,Y⟩) L l)/\V.cell? ⟨d,x*16+k,Y⟩=U (I .u16 (tk x k)):=by
    intro V R;have j:V.heap[W.heap.size]?=U (E (BR P) 132)/\A0 W V:=by rcases R with h|h<;>exact⟨h.box,h.below⟩
    exact⟨by have h:=BB j.1 k;rwa[Jq _ k J]at h,(s.below j.2).stays k J,(v.below j.2).takes,(v.below j.2).at_ x k hx J⟩
   have o:Hid (_):=t wr (.inl f);have y:Hid (_):=t _ (.inr u);go_wp2;have b:(λa:O=>a.cell? ⟨W.heap.size,k,Y⟩=U (I .u16 (P k))/\a.cell? ⟨A,3+k,Y⟩=U (I .u16 (st k))/\a.cell? ⟨A,19,Y⟩=U (G (U ⟨d,0,Y⟩) L l)/\a.cell? ⟨d,x*16+k,Y⟩=U (I .u16 (tk x k))) {wr with drawn:=wr.drawn+1}:=o.out;have Q:(λa:O=>a.cell? ⟨W.heap.size,k,Y⟩=U (I .u16 (P k))/\a.cell? ⟨A,3+k,Y⟩=U (I .u16 (st k))/\a.cell? ⟨A,19,Y⟩=U (G (U ⟨d,0,Y⟩) L l)/\a.cell? ⟨d,x*16+k,Y⟩=U (I .u16 (tk x k))) (wr.drew.setCell ⟨W.heap.size+1+1,k,Y⟩ (I .u16 ((Ku (st k) (tk x k) (P k):Nat):Int))):=y.out;refine Ec (S:=λa=>a.cell? ⟨W.heap.size,k,Y⟩=U (I .u16 (P k))/\a.cell? ⟨A,3+k,Y⟩=U (I .u16 (st k))/\a.cell? ⟨A,19,Y⟩=U (G (U ⟨d,0,Y⟩) L l)/\a.cell? ⟨d,x*16+k,Y⟩=U (I .u16 (tk x k))) M ?_;refine BE 0 17 (I K k) b ?_;refine BE 1 18 (I K k) b ?_;refine BL 2 19 (A8 (U ⟨W.heap.size,k,Y⟩)) Z (λa c=>?y2) b ?_
   case y2=>go_simp
   refine BL 3 20 (I .u16 (P k)) Z (λa c=>?y3) b ?_
   case y3=>(have z1:=c.1;go_simp)
   refine BE 4 21 (A8 (U ⟨A,0,Y⟩)) b ?_;refine BE 5 22 (I K k) b ?_;refine BE 6 23 (A8 (U ⟨A,0,Y⟩)) b ?_;refine BE 7 24 (A8 (U ⟨A,3,Y⟩)) b ?_;refine BL 8 25 (A8 (U ⟨A,3+k,Y⟩)) Z (λa c=>?y8) b ?_
   case y8=>go_simp
   refine BL 9 26 (I .u16 (st k)) Z (λa c=>?y9) b ?_
   case y9=>(have z2:=c.2.1;go_simp)
   refine BL 10 27 (I .u16 ((P k&&&st k:Nat):Int)) Z (λa c=>?y10) b ?_
   case y10=>go_simp
   refine BE 11 28 (I K k) b ?_;refine BL 12 29 (A8 (U ⟨W.heap.size,k,Y⟩)) Z (λa c=>?y12) b ?_
   case y12=>go_simp
   refine BL 13 30 (I .u16 (P k)) Z (λa c=>?y13) b ?_
   case y13=>(have z1:=c.1;go_simp)
   refine BE 14 31 (A8 (U ⟨A,0,Y⟩)) b ?_;refine BE 15 32 (A8 (U ⟨A,0,Y⟩)) b ?_;refine BE 16 33 (A8 (U ⟨A,19,Y⟩)) b ?_;refine BL 17 34 (G (U ⟨d,0,Y⟩) L l) Z (λa c=>?y17) b ?_
   case y17=>(have z3:=c.2.2.1;go_simp)
   refine BE 18 35 (I K x) b ?_;refine BE 19 36 (I K k) b ?_;refine BL 20 37 (A8 (U ⟨d,x*16,Y⟩)) Z (λa c=>?y20) b ?_
   case y20=>go_simp
   refine BL 21 38 (A8 (U ⟨d,x*16+k,Y⟩)) Z (λa c=>?y21) b ?_
   case y21=>go_simp
   refine BL 22 39 (I .u16 (tk x k)) Z (λa c=>?y22) b ?_
   case y22=>(have z4:=c.2.2.2;go_simp)
   refine BL 23 40 (I .u16 ((P k&&&tk x k:Nat):Int)) Z (λa c=>?y23) b ?_
   case y23=>go_simp
   refine BL 24 41 (I .u16 (((P k&&&tk x k)<<<1:Nat):Int)) Z (λa c=>?y24) b ?_
   case y24=>go_simp
   refine BL 25 42 (I .u16 ((Ku (st k) (tk x k) (P k):Nat):Int)) Z (λa c=>?y25) b ?_
   case y25=>(go_simp;exact ab)
   refine BL 26 43 (A8 (U ⟨W.heap.size+1+1,k,Y⟩)) Z (λa c=>?y26) b ?_
   case y26=>go_simp
   refine C9 27 (λad H=>?_);go_simp;refine H.out _ _ Q (λ_=>?_);refine Cv ?_;go_simp;go_wp2;go_roundg g
   case measure=>omega
   case rel=>exact⟨k+1,AE,Ap m.out,u⟩
end
section
open Go.RowKit Go.Deep
structure EH(s:Nat)(W0:World)(arr:A3)(ea:A4)(L:List (Int×Int))(W:World):Prop where
 below:Below (s+1) W0 W
 box:W.heap[s]?=some (.cells arr 25)
 edges:FR W ea L
 size:s+1<=W.heap.size
def EH.step(h:EH s W0 arr ea L W)(hb:A0 W W'):EH s W0 arr ea L W' :=
 ⟨h.below.trans (hb.mono h.size),(hb.block _ B1).trans h.box,h.edges.below hb,C7 h.size hb.size⟩
def Rw(w:O)(arr:A3)(a:A4)(L:List (Int×Int))(h:FR w a L):EH w.heap.size (w.alloc (E arr 25)) arr a L (w.alloc (E arr 25)) :=
 ⟨C5 _ _,BI _ _,h.below BN,Az⟩
def EH.cell(h:EH s W0 arr ea L W)(j:Nat):W.cell? ⟨s,j,Y⟩=arr[j]?:=BB h.box j
def EH.from_{w:O}(h:EH w.heap.size W0 arr ea L W)(a:A0 w W0):A0 w W:=a.trans (h.below.mono J)
structure Lj(arr:A3)(n:Nat)(L:List (Int×Int))(ea:A4)(ecap:Nat):Prop where
 cfg:Te arr n L ea ecap
 hn:n<=6
 hL:L.length<=30
 hE:Ek n L=true
def Hg(H:Lj arr n L ea ecap)(a b:Nat)(c:a<n)(hb:b<n)(h:EH s W0 arr ea L W):Am X 40 #[.agg arr,I K a,I K b] W λe g=>e=Af (Ac (Cb n L a b))/\EH s W0 arr ea L g :=
 (ft arr n L ea ecap H.cfg H.hn H.hL H.hE a b c hb W h.edges).mono λ_ _ ⟨f,d⟩=>⟨f,h.step d⟩
def nX(arr:A3)(n:Nat)(L:List (Int×Int))(s:A4)(ac:Nat)(H:Lj arr n L s ac)(a b:Nat)(ha:a<n)(hb:b<n)(w:O)(hA:FR w s L):Am X 41 #[.agg arr,I K a,I K b] w λe w'=>∃aa:Int,e=Af (I K aa)/\Hid (decide (aa<0) = !EC n (Cb n L) a b)/\A0 w w':=by
 have P:=H.cfg.f0;have hn:=H.hn;have d:=T (El H.cfg.size);have p:=T H;have ab:=T (Rw w arr s L hA);have V:Hid (A0 w (w.alloc (E arr 25))):=BN;go_enter func41,ntmps41;go_wp2;generalize w.alloc (E arr 25)=W0 at *
 go_loopg[7,8,9] n (λg x y ag wr=>∃k:Nat,Hid (k+g=n)/\x=I K k/\Hid (EH w.heap.size W0 arr s L wr)/\Hid (∀j,j<k->Ed n (Cb n L) a b j=false))
 case atStart=>exact⟨0,AD,rfl,ab,λj D=>J⟩
 case round =>
  obtain⟨k,t,rfl,c,v⟩:=hrel;have S:=(c.cell 0).trans P
  cases gk with
  |zero =>
   have ad:¬(k:Int)<n:=Ao t.out
   go_wp2;go_ret;exact⟨-1,Z,Br,c.from_ V⟩
  |succ g =>
   have ad:(k:Int)<n:=Ao t.out
   cases B:Cb n L a k
   ·have l:Hid (Ed n (Cb n L) a b k=false):=by show _=_;unfold Ed Dg;simp[B]
    go_wp2_with(first
     |(refine C8 Z 25 _ Z _ Z _ _ _ _ c.box underlying25 Z d ?_)
     |(refine DL 25 _ Z Z _ Z _ _ _ _ c.box underlying25 Z d ?_)
     |(go_at_call 40;refine(Hg p _ _ J J c).mono ?_;rintro e u ⟨rfl,f⟩;have c:=T f))
    go_loopg[9,8] 0 (λg x y wr=>x=I K 0/\y=Ac false/\Hid (EH w.heap.size W0 arr s L wr))
    case atStart=>exact⟨rfl,rfl,c⟩
    case round =>
     obtain⟨rfl,rfl,c⟩:=hrel;have S:=(c.cell 0).trans P;go_wp2;go_roundg g
     case measure=>omega
     case rel =>
      refine⟨k+1,Ap t.out,AE,c,λj D=>?_⟩;by_cases e:j=k
      ·subst e;exact l
      exact v j J
   cases C:Cb n L b k
   ·have l:Hid (Ed n (Cb n L) a b k=false):=by show _=_;unfold Ed Dg;simp[C]
    go_wp2_with(first
     |(refine C8 Z 25 _ Z _ Z _ _ _ _ c.box underlying25 Z d ?_)
     |(refine DL 25 _ Z Z _ Z _ _ _ _ c.box underlying25 Z d ?_)
     |(go_at_call 40;refine(Hg p _ _ J J c).mono ?_;rintro e u ⟨rfl,f⟩;have c:=T f))
    go_loopg[9,8] 0 (λg x y wr=>x=I K 0/\y=Ac false/\Hid (EH w.heap.size W0 arr s L wr))
    case atStart=>exact⟨rfl,rfl,c⟩
    case round =>
     obtain⟨rfl,rfl,c⟩:=hrel;have S:=(c.cell 0).trans P;go_wp2;go_roundg g
     case measure=>omega
     case rel =>
      refine⟨k+1,Ap t.out,AE,c,λj D=>?_⟩;by_cases e:j=k
      ·subst e;exact l
      exact v j J
   have HU:Hid (Dg (Cb n L) a b k=true):=by show _=_;unfold Dg;simp[B,C]
   go_wp2_with(first
    |(refine C8 Z 25 _ Z _ Z _ _ _ _ c.box underlying25 Z d ?_)
    |(refine DL 25 _ Z Z _ Z _ _ _ _ c.box underlying25 Z d ?_)
    |(go_at_call 40;refine(Hg p _ _ J J c).mono ?_;rintro e u ⟨rfl,f⟩;have c:=T f))
   go_loopg[9,8] (n+1) (λg x y wr=>∃(q:Nat) (o:Bool),Hid (q+g=n+1)/\x=I K q/\y=Ac o/\Hid (EH w.heap.size W0 arr s L wr)/\Hid (o=true->q<=n/\∀i,i<q->Dg (Cb n L) a b i=true->(Cb n L) k i=true)/\Hid (o=false->Ed n (Cb n L) a b k=false))
   case atStart=>exact⟨0,true,AD,rfl,rfl,c,λ_=>⟨J,λi R=>J⟩,λh=>AU⟩
   case round =>
    obtain⟨q,o,F,rfl,rfl,c,W,HN⟩:=hrel;have S:=(c.cell 0).trans P
    cases o with
    |false =>
     have l:=T (HN Z);by_cases r:(q:Int)<n
     ·go_wp2;go_roundg g
      case measure=>omega
      case rel =>
       refine⟨k+1,Ap t.out,AE,c,λj D=>?_⟩;by_cases e:j=k
       ·subst e;exact l
       exact v j J
     go_wp2;go_roundg g
     case measure=>omega
     case rel =>
      refine⟨k+1,Ap t.out,AE,c,λj D=>?_⟩;by_cases e:j=k
      ·subst e;exact l
      exact v j J
    |true =>
     have af:=(W Z).1;have N:=T ((W Z).2);by_cases ae:q<n
     ·have r:(q:Int)<n:=J
      cases gk with
      |zero=>have:=F.out;omega
      |succ Q =>
       cases B:Cb n L a q
       ·have A:Hid (Dg (Cb n L) a b q=true->(Cb n L) k q=true):=λh=>by unfold Dg at h;simp[B]at h
        go_wp2_with(first
         |(refine C8 Z 25 _ Z _ Z _ _ _ _ c.box underlying25 Z d ?_)
         |(refine DL 25 _ Z Z _ Z _ _ _ _ c.box underlying25 Z d ?_)
         |(go_at_call 40;refine(Hg p _ _ J J c).mono ?_;rintro e u ⟨rfl,f⟩;have c:=T f))
        go_roundg Q
        case measure=>omega
        case rel=>exact⟨q+1,true,Ap F.out,AE,rfl,c,(λ_=>⟨J,λi R m=>AI⟩),(λh=>AU)⟩
       cases C:Cb n L b q
       ·have A:Hid (Dg (Cb n L) a b q=true->(Cb n L) k q=true):=λh=>by unfold Dg at h;simp[C]at h
        go_wp2_with(first
         |(refine C8 Z 25 _ Z _ Z _ _ _ _ c.box underlying25 Z d ?_)
         |(refine DL 25 _ Z Z _ Z _ _ _ _ c.box underlying25 Z d ?_)
         |(go_at_call 40;refine(Hg p _ _ J J c).mono ?_;rintro e u ⟨rfl,f⟩;have c:=T f))
        go_roundg Q
        case measure=>omega
        case rel=>exact⟨q+1,true,Ap F.out,AE,rfl,c,(λ_=>⟨J,λi R m=>AI⟩),(λh=>AU)⟩
       cases z:Cb n L k q
       ·have l:Hid (Ed n (Cb n L) a b k=false):=T7 (k:=q) ae (by unfold Dg;simp[B,C]) z
        go_wp2_with(first
         |(refine C8 Z 25 _ Z _ Z _ _ _ _ c.box underlying25 Z d ?_)
         |(refine DL 25 _ Z Z _ Z _ _ _ _ c.box underlying25 Z d ?_)
         |(go_at_call 40;refine(Hg p _ _ J J c).mono ?_;rintro e u ⟨rfl,f⟩;have c:=T f))
        go_roundg Q
        case measure=>omega
        case rel=>exact⟨q+1,false,Ap F.out,AE,rfl,c,(λh=>AU),(λ_=>l.out)⟩
       have A:Hid (Dg (Cb n L) a b q=true->(Cb n L) k q=true):=λ_=>z
       go_wp2_with(first
        |(refine C8 Z 25 _ Z _ Z _ _ _ _ c.box underlying25 Z d ?_)
        |(refine DL 25 _ Z Z _ Z _ _ _ _ c.box underlying25 Z d ?_)
        |(go_at_call 40;refine(Hg p _ _ J J c).mono ?_;rintro e u ⟨rfl,f⟩;have c:=T f))
       go_roundg Q
       case measure=>omega
       case rel=>exact⟨q+1,true,Ap F.out,AE,rfl,c,(λ_=>⟨J,λi R m=>AI⟩),(λh=>AU)⟩
     have r:¬(q:Int)<n:=J
     have l:Hid (Ed n (Cb n L) a b k=true):=Qv HU (λi R=>N.out i J);go_wp2;go_ret;exact⟨k,Z,ke9,c.from_ V⟩
def nY(arr:A3)(n:Nat)(L:List (Int×Int))(s:A4)(ac:Nat)(H:Lj arr n L s ac)(a b:Nat)(ha:a<n)(hb:b<n)(w:O)(hA:FR w s L):Am X 42 #[.agg arr,I K a,I K b] w λe w'=>∃aa:Int,e=Af (I K aa)/\Hid (decide (aa<0) = !EC n (λi j=>Cb n L j i) a b)/\A0 w w':=by
 have P:=H.cfg.f0;have hn:=H.hn;have d:=T (El H.cfg.size);have p:=T H;have ab:=T (Rw w arr s L hA);have V:Hid (A0 w (w.alloc (E arr 25))):=BN;go_enter func42,ntmps42;go_wp2;generalize w.alloc (E arr 25)=W0 at *
 go_loopg[7,8,9] n (λg x y ag wr=>∃k:Nat,Hid (k+g=n)/\x=I K k/\Hid (EH w.heap.size W0 arr s L wr)/\Hid (∀j,j<k->Ed n (λi j=>Cb n L j i) a b j=false))
 case atStart=>exact⟨0,AD,rfl,ab,λj D=>J⟩
 case round =>
  obtain⟨k,t,rfl,c,v⟩:=hrel;have S:=(c.cell 0).trans P
  cases gk with
  |zero =>
   have ad:¬(k:Int)<n:=Ao t.out
   go_wp2;go_ret;exact⟨-1,Z,Br,c.from_ V⟩
  |succ g =>
   have ad:(k:Int)<n:=Ao t.out
   cases B:Cb n L k a
   ·have l:Hid (Ed n (λi j=>Cb n L j i) a b k=false):=by show _=_;unfold Ed Dg;simp[B]
    go_wp2_with(first
     |(refine C8 Z 25 _ Z _ Z _ _ _ _ c.box underlying25 Z d ?_)
     |(refine DL 25 _ Z Z _ Z _ _ _ _ c.box underlying25 Z d ?_)
     |(go_at_call 40;refine(Hg p _ _ J J c).mono ?_;rintro e u ⟨rfl,f⟩;have c:=T f))
    go_loopg[9,8] 0 (λg x y wr=>x=I K 0/\y=Ac false/\Hid (EH w.heap.size W0 arr s L wr))
    case atStart=>exact⟨rfl,rfl,c⟩
    case round =>
     obtain⟨rfl,rfl,c⟩:=hrel;have S:=(c.cell 0).trans P;go_wp2;go_roundg g
     case measure=>omega
     case rel =>
      refine⟨k+1,Ap t.out,AE,c,λj D=>?_⟩;by_cases e:j=k
      ·subst e;exact l
      exact v j J
   cases C:Cb n L k b
   ·have l:Hid (Ed n (λi j=>Cb n L j i) a b k=false):=by show _=_;unfold Ed Dg;simp[C]
    go_wp2_with(first
     |(refine C8 Z 25 _ Z _ Z _ _ _ _ c.box underlying25 Z d ?_)
     |(refine DL 25 _ Z Z _ Z _ _ _ _ c.box underlying25 Z d ?_)
     |(go_at_call 40;refine(Hg p _ _ J J c).mono ?_;rintro e u ⟨rfl,f⟩;have c:=T f))
    go_loopg[9,8] 0 (λg x y wr=>x=I K 0/\y=Ac false/\Hid (EH w.heap.size W0 arr s L wr))
    case atStart=>exact⟨rfl,rfl,c⟩
    case round =>
     obtain⟨rfl,rfl,c⟩:=hrel;have S:=(c.cell 0).trans P;go_wp2;go_roundg g
     case measure=>omega
     case rel =>
      refine⟨k+1,Ap t.out,AE,c,λj D=>?_⟩;by_cases e:j=k
      ·subst e;exact l
      exact v j J
   have HU:Hid (Dg (λi j=>Cb n L j i) a b k=true):=by show _=_;unfold Dg;simp[B,C]
   go_wp2_with(first
    |(refine C8 Z 25 _ Z _ Z _ _ _ _ c.box underlying25 Z d ?_)
    |(refine DL 25 _ Z Z _ Z _ _ _ _ c.box underlying25 Z d ?_)
    |(go_at_call 40;refine(Hg p _ _ J J c).mono ?_;rintro e u ⟨rfl,f⟩;have c:=T f))
   go_loopg[9,8] (n+1) (λg x y wr=>∃(q:Nat) (o:Bool),Hid (q+g=n+1)/\x=I K q/\y=Ac o/\Hid (EH w.heap.size W0 arr s L wr)/\Hid (o=true->q<=n/\∀i,i<q->Dg (λi j=>Cb n L j i) a b i=true->(λi j=>Cb n L j i) k i=true)/\Hid (o=false->Ed n (λi j=>Cb n L j i) a b k=false))
   case atStart=>exact⟨0,true,AD,rfl,rfl,c,λ_=>⟨J,λi R=>J⟩,λh=>AU⟩
   case round =>
    obtain⟨q,o,F,rfl,rfl,c,W,HN⟩:=hrel;have S:=(c.cell 0).trans P
    cases o with
    |false =>
     have l:=T (HN Z);by_cases r:(q:Int)<n
     ·go_wp2;go_roundg g
      case measure=>omega
      case rel =>
       refine⟨k+1,Ap t.out,AE,c,λj D=>?_⟩;by_cases e:j=k
       ·subst e;exact l
       exact v j J
     go_wp2;go_roundg g
     case measure=>omega
     case rel =>
      refine⟨k+1,Ap t.out,AE,c,λj D=>?_⟩;by_cases e:j=k
      ·subst e;exact l
      exact v j J
    |true =>
     have af:=(W Z).1;have N:=T ((W Z).2);by_cases ae:q<n
     ·have r:(q:Int)<n:=J
      cases gk with
      |zero=>have:=F.out;omega
      |succ Q =>
       cases B:Cb n L q a
       ·have A:Hid (Dg (λi j=>Cb n L j i) a b q=true->(λi j=>Cb n L j i) k q=true):=λh=>by unfold Dg at h;simp[B]at h
        go_wp2_with(first
         |(refine C8 Z 25 _ Z _ Z _ _ _ _ c.box underlying25 Z d ?_)
         |(refine DL 25 _ Z Z _ Z _ _ _ _ c.box underlying25 Z d ?_)
         |(go_at_call 40;refine(Hg p _ _ J J c).mono ?_;rintro e u ⟨rfl,f⟩;have c:=T f))
        go_roundg Q
        case measure=>omega
        case rel=>exact⟨q+1,true,Ap F.out,AE,rfl,c,(λ_=>⟨J,λi R m=>AI⟩),(λh=>AU)⟩
       cases C:Cb n L q b
       ·have A:Hid (Dg (λi j=>Cb n L j i) a b q=true->(λi j=>Cb n L j i) k q=true):=λh=>by unfold Dg at h;simp[C]at h
        go_wp2_with(first
         |(refine C8 Z 25 _ Z _ Z _ _ _ _ c.box underlying25 Z d ?_)
         |(refine DL 25 _ Z Z _ Z _ _ _ _ c.box underlying25 Z d ?_)
         |(go_at_call 40;refine(Hg p _ _ J J c).mono ?_;rintro e u ⟨rfl,f⟩;have c:=T f))
        go_roundg Q
        case measure=>omega
        case rel=>exact⟨q+1,true,Ap F.out,AE,rfl,c,(λ_=>⟨J,λi R m=>AI⟩),(λh=>AU)⟩
       cases z:Cb n L q k
       ·have l:Hid (Ed n (λi j=>Cb n L j i) a b k=false):=T7 (k:=q) ae (by unfold Dg;simp[B,C]) z
        go_wp2_with(first
         |(refine C8 Z 25 _ Z _ Z _ _ _ _ c.box underlying25 Z d ?_)
         |(refine DL 25 _ Z Z _ Z _ _ _ _ c.box underlying25 Z d ?_)
         |(go_at_call 40;refine(Hg p _ _ J J c).mono ?_;rintro e u ⟨rfl,f⟩;have c:=T f))
        go_roundg Q
        case measure=>omega
        case rel=>exact⟨q+1,false,Ap F.out,AE,rfl,c,(λh=>AU),(λ_=>l.out)⟩
       have A:Hid (Dg (λi j=>Cb n L j i) a b q=true->(λi j=>Cb n L j i) k q=true):=λ_=>z
       go_wp2_with(first
        |(refine C8 Z 25 _ Z _ Z _ _ _ _ c.box underlying25 Z d ?_)
        |(refine DL 25 _ Z Z _ Z _ _ _ _ c.box underlying25 Z d ?_)
        |(go_at_call 40;refine(Hg p _ _ J J c).mono ?_;rintro e u ⟨rfl,f⟩;have c:=T f))
       go_roundg Q
       case measure=>omega
       case rel=>exact⟨q+1,true,Ap F.out,AE,rfl,c,(λ_=>⟨J,λi R m=>AI⟩),(λh=>AU)⟩
     have r:¬(q:Int)<n:=J
     have l:Hid (Ed n (λi j=>Cb n L j i) a b k=true):=Qv HU (λi R=>N.out i J);go_wp2;go_ret;exact⟨k,Z,ke9,c.from_ V⟩
def Hw(n:Nat)(m:Nat->Nat->Bool)(a b:Nat):Bool:=decide (n=n)&&(!(a==b)&&m a b&&m b a)
def Jr(n:Nat)(m:Nat->Nat->Bool):Bool:=(List.range n).all λa=>(List.range n).all λb=>!Hw n m a b
def ZB(c:a<n)(hb:b<n)(h:Hw n m a b=true):Jr n m=false:=by
 unfold Jr;rw[Gv];refine⟨a,CV.2 c,?_⟩;rw[Mp,Gv];exact⟨b,CV.2 hb,kfo⟩
def ZC(h:∀a b,a<n->b<n->Hw n m a b=false):Jr n m=true:=by
 unfold Jr;rw[E8];intro a c;rw[E8];intro b d;rw[h a b (CV.1 c) (CV.1 d)];rfl
def Gm(n:Nat)(m:Nat->Nat->Bool)(a b:Nat):Bool:=EC n m a b&&EC n (λi j=>m j i) a b
def Js(n:Nat)(m:Nat->Nat->Bool):Bool:=(List.range n).all λa=>(List.range n).all λb=>Gm n m a b
def Uo(c:a<n)(hb:b<n)(h:Gm n m a b=false):Js n m=false:=by
 unfold Js;rw[Gv];refine⟨a,CV.2 c,?_⟩;rw[Mp,Gv];exact⟨b,CV.2 hb,kfo⟩
def ZD(h:∀a b,a<n->b<n->Gm n m a b=true):Js n m=true:=by
 unfold Js;rw[E8];intro a c;rw[E8];intro b d;exact h a b (CV.1 c) (CV.1 d)
def Up(H:Lj arr n L ea ecap)(a b:Nat)(c:a<n)(hb:b<n)(h:EH s W0 arr ea L W):Am X 41 #[.agg arr,I K a,I K b] W λe i=>∃r:Int,e=Af (I K r)/\Hid (decide (r<0) = !EC n (Cb n L) a b)/\EH s W0 arr ea L i :=
 (nX arr n L ea ecap H a b c hb W h.edges).mono λ_ _ ⟨r,f,g,d⟩=>⟨r,f,g,h.step d⟩
def ZE(H:Lj arr n L ea ecap)(a b:Nat)(c:a<n)(hb:b<n)(h:EH s W0 arr ea L W):Am X 42 #[.agg arr,I K a,I K b] W λe k=>∃r:Int,e=Af (I K r)/\Hid (decide (r<0) = !EC n (λi j=>Cb n L j i) a b)/\EH s W0 arr ea L k :=
 (nY arr n L ea ecap H a b c hb W h.edges).mono λ_ _ ⟨r,f,g,d⟩=>⟨r,f,g,h.step d⟩
def nZ(arr:A3)(n:Nat)(L:List (Int×Int))(j:A4)(N:Nat)(H:Lj arr n L j N)(w:O)(P:FR w j L):Am X 22 #[.agg arr] w λe y=>e=Af (Ac (Jr n (Cb n L)))/\A0 w y:=by
 have z:=H.cfg.f0;have hn:=H.hn;have h:=T (El H.cfg.size);have p:=T H;have F:=T (Rw w arr j L P);have s:Hid (A0 w (w.alloc (E arr 25))):=BN;go_enter func22,ntmps22;go_wp2;generalize w.alloc (E arr 25)=W0 at *
 go_loopg[3,4] n (λg x aa wr=>∃k:Nat,Hid (k+g=n)/\x=I K k/\Hid (EH w.heap.size W0 arr j L wr)/\Hid (∀a b,a<k->b<n->Hw n (Cb n L) a b=false))
 case atStart=>exact⟨0,AD,rfl,F,λa b A=>J⟩
 case round =>
  obtain⟨k,o,rfl,c,t⟩:=hrel;have Q:=(c.cell 0).trans z
  cases gk with
  |zero =>
   have R:¬(k:Int)<n:=Ao o.out
   go_wp2;go_ret;exact⟨by rw[ZC (λa b A f=>t.out a b (Ao o.out) f)];rfl,c.from_ s⟩
  |succ g =>
   have R:(k:Int)<n:=Ao o.out
   go_wp2
   go_loopg[4] n (λg x wr=>∃q:Nat,Hid (q+g=n)/\x=I K q/\Hid (EH w.heap.size W0 arr j L wr)/\Hid (∀b,b<q->Hw n (Cb n L) k b=false))
   case atStart=>exact⟨0,AD,rfl,c,λb f=>J⟩
   case round =>
    obtain⟨q,i,rfl,c,m⟩:=hrel;have Q:=(c.cell 0).trans z
    cases gk with
    |zero =>
     have W:¬(q:Int)<n:=Ao i.out
     go_wp2;go_roundg g
     case measure=>omega
     case rel =>
      refine⟨k+1,Ap o.out,AE,c,λa b A f=>?_⟩;by_cases e:a=k
      ·subst e;exact m b (Ao i.out)
      exact t a b J f
    |succ r =>
     have W:(q:Int)<n:=Ao i.out
     by_cases B:k=q
     ·have d:Hid (Hw n (Cb n L) k q=false):=by show _=_;unfold Hw;simp[B]
      have S:((k:Int)==q)=true:=KU.2 J;have V:((k:Int) != q)=false:=by rw[bne_eq_false_iff_eq];omega
      go_wp2;go_roundg r
      case measure=>omega
      case rel =>
       refine⟨q+1,Ap i.out,AE,c,λb f=>?_⟩;by_cases e:b=q
       ·subst e;exact d
       exact m b J
     have S:((k:Int)==q)=false:=EJ.2 J;have V:((k:Int) != q)=true:=by rw[bne_iff_ne];omega
     have D:=T (EJ.2 B);cases u:Cb n L k q
     ·have d:Hid (Hw n (Cb n L) k q=false):=by show _=_;unfold Hw;simp[u]
      go_wp2_with(first
       |(refine C8 Z 25 _ Z _ Z _ _ _ _ c.box underlying25 Z h ?_)
       |(refine DL 25 _ Z Z _ Z _ _ _ _ c.box underlying25 Z h ?_)
       |(go_at_call 40;refine(Hg p _ _ J J c).mono ?_;rintro e C ⟨rfl,l⟩;have c:=T l))
      go_roundg r
      case measure=>omega
      case rel =>
       refine⟨q+1,Ap i.out,AE,c,λb f=>?_⟩;by_cases e:b=q
       ·subst e;exact d
       exact m b J
     cases v:Cb n L q k
     ·have d:Hid (Hw n (Cb n L) k q=false):=by show _=_;unfold Hw;simp[v]
      go_wp2_with(first
       |(refine C8 Z 25 _ Z _ Z _ _ _ _ c.box underlying25 Z h ?_)
       |(refine DL 25 _ Z Z _ Z _ _ _ _ c.box underlying25 Z h ?_)
       |(go_at_call 40;refine(Hg p _ _ J J c).mono ?_;rintro e C ⟨rfl,l⟩;have c:=T l))
      go_roundg r
      case measure=>omega
      case rel =>
       refine⟨q+1,Ap i.out,AE,c,λb f=>?_⟩;by_cases e:b=q
       ·subst e;exact d
       exact m b J
     have d:Hid (Hw n (Cb n L) k q=true):=by show _=_;unfold Hw;rw[u,v,D.out];simp
     go_wp2_with(first
      |(refine C8 Z 25 _ Z _ Z _ _ _ _ c.box underlying25 Z h ?_)
      |(refine DL 25 _ Z Z _ Z _ _ _ _ c.box underlying25 Z h ?_)
      |(go_at_call 40;refine(Hg p _ _ J J c).mono ?_;rintro e C ⟨rfl,l⟩;have c:=T l))
     go_ret;exact⟨by rw[ZB (a:=k) (b:=q) J J d.out];rfl,c.from_ s⟩
def o0(arr:A3)(n:Nat)(L:List (Int×Int))(s:A4)(S:Nat)(H:Lj arr n L s S)(w:O)(W:FR w s L):Am X 23 #[.agg arr] w λe w'=>e=Af (Ac (Js n (Cb n L)))/\A0 w w':=by
 have N:=H.cfg.f0;have hn:=H.hn;have h:=T (El H.cfg.size);have p:=T H;have R:=T (Rw w arr s L W);have B:Hid (A0 w (w.alloc (E arr 25))):=BN;go_enter func23,ntmps23;go_wp2;generalize w.alloc (E arr 25)=W0 at *
 go_loopg[3,4] n (λg x ad wr=>∃k:Nat,Hid (k+g=n)/\x=I K k/\Hid (EH w.heap.size W0 arr s L wr)/\Hid (∀a b,a<k->b<n->Gm n (Cb n L) a b=true))
 case atStart=>exact⟨0,AD,rfl,R,λa b P=>J⟩
 case round =>
  obtain⟨k,v,rfl,c,D⟩:=hrel;have y:=(c.cell 0).trans N
  cases gk with
  |zero =>
   have i:¬(k:Int)<n:=Ao v.out
   go_wp2;go_ret;exact⟨by rw[ZD (λa b P t=>D.out a b (Ao v.out) t)];rfl,c.from_ B⟩
  |succ g =>
   have i:(k:Int)<n:=Ao v.out
   go_wp2
   go_loopg[4] n (λg x wr=>∃q:Nat,Hid (q+g=n)/\x=I K q/\Hid (EH w.heap.size W0 arr s L wr)/\Hid (∀b,b<q->Gm n (Cb n L) k b=true))
   case atStart=>exact⟨0,AD,rfl,c,λb t=>J⟩
   case round =>
    obtain⟨q,z,rfl,c,F⟩:=hrel;have y:=(c.cell 0).trans N
    cases gk with
    |zero =>
     have aa:¬(q:Int)<n:=Ao z.out
     go_wp2;go_roundg g
     case measure=>omega
     case rel =>
      refine⟨k+1,Ap v.out,AE,c,λa b P t=>?_⟩;by_cases e:a=k
      ·subst e;exact F b (Ao z.out)
      exact D a b J t
    |succ V =>
     have aa:(q:Int)<n:=Ao z.out
     cases l:EC n (Cb n L) k q
     ·have o:Hid (Gm n (Cb n L) k q=false):=by show _=_;unfold Gm;rw[l];rfl
      have m:=T l
      go_wp2_with(first
       |(refine C8 Z 25 _ Z _ Z _ _ _ _ c.box underlying25 Z h ?_)
       |(refine DL 25 _ Z Z _ Z _ _ _ _ c.box underlying25 Z h ?_)
       |(go_at_call 41;refine(Up p k q J J c).mono ?_;rintro e A ⟨r,rfl,f,d⟩;have c:=T d;have j:decide (r<0)=true:=kfq))
      go_ret;exact⟨keE,c.from_ B⟩
     cases u:EC n (λab ac=>Cb n L ac ab) k q
     ·have o:Hid (Gm n (Cb n L) k q=false):=by show _=_;unfold Gm;rw[l,u];rfl
      have m:=T l;have C:=T u
      go_wp2_with(first
       |(refine C8 Z 25 _ Z _ Z _ _ _ _ c.box underlying25 Z h ?_)
       |(refine DL 25 _ Z Z _ Z _ _ _ _ c.box underlying25 Z h ?_)
       |(go_at_call 41;refine(Up p k q J J c).mono ?_;rintro e A ⟨r,rfl,f,d⟩;have c:=T d;have Q:decide (r<0)=false:=kfq)
       |(go_at_call 42;refine(ZE p k q J J c).mono ?_;rintro e A ⟨r,rfl,f,d⟩;have c:=T d;have j:decide (r<0)=true:=(by rw[f.out,C.out];rfl)))
      go_ret;exact⟨keE,c.from_ B⟩
     have o:Hid (Gm n (Cb n L) k q=true):=by show _=_;unfold Gm;rw[l,u];rfl
     have m:=T l;have C:=T u
     go_wp2_with(first
      |(refine C8 Z 25 _ Z _ Z _ _ _ _ c.box underlying25 Z h ?_)
      |(refine DL 25 _ Z Z _ Z _ _ _ _ c.box underlying25 Z h ?_)
      |(go_at_call 41;refine(Up p k q J J c).mono ?_;rintro e A ⟨r,rfl,f,d⟩;have c:=T d;have Q:decide (r<0)=false:=kfq)
      |(go_at_call 42;refine(ZE p k q J J c).mono ?_;rintro e A ⟨r,rfl,f,d⟩;have c:=T d;have Q:decide (r<0)=false:=(by rw[f.out,C.out];rfl)))
     go_roundg V
     case measure=>omega
     case rel =>
      refine⟨q+1,Ap z.out,AE,c,λb t=>?_⟩;by_cases e:b=q
      ·subst e;exact o
      exact F b J
end
end Go.Proofs.YtnlnjkggkbbdhaaGreatDoor
