import Derived.Test.YtnlnjkggkbbdhaaGreatDoorCards
import Derived.Test.YtnlnjkggkbbdhaaGreatDoorTie
import Derived.Test.YtnlnjkggkbbdhaaGreatDoorTq12
import Derived.Test.YtnlnjkggkbbdhaaGreatDoorTq15
set_option maxRecDepth 100000
set_option maxHeartbeats 8000000
set_option linter.all false
namespace Go.Proofs.YtnlnjkggkbbdhaaGreatDoor
open Go.Proofs.Tryz
open Go.Value renaming int->I,slice->G
open Option renaming some->U,none->Y
open Go.IntKind renaming i64->K
open Go renaming World->O
open Go.Obj renaming cells->E
open Go.Proofs.Tryz renaming prog->X
open Go.Value renaming pointer->A8,string->A9,tuple->Aa,agg->Ab,iface->Ad
open Go.Ending renaming returned->Af
open Go renaming World->Ak,Value->Al,Calls->Am
variable{P:Program}{Q:Exit->Act->O->Prop}{A L N i j k p q r tb wi x:Nat}{a:Act}{V V' W w:O}{b:A1}{s:Nat×A1}{ds:List (DataW Unit)}{sv:Al}{ks:List A1}{rs:List (List (Nat×A1)×Int×Int)}{R:List (Nat×A1)×Int×Int}{st:Nat->Nat}{ss:List (Nat×A1)}
section
open Go.ChangeShapes Go.WideShapes Go.ChangeAt Go.RowKit Go.Lib
def Tryz.own:ownKnob prog.godebug=Y:=M
def Tryz.laidOut:laidOutB X=true:=M
def KX:Nat->A2->List Al
 |0,_=>[]
 |_+1,.lit (.int k z)=>[.int k z]
 |_+1,.lit (.string b)=>[A9 ⟨b.toArray⟩]
 |n+1,.agg ds=>ds.flatMap (KX n)
 |_+1,_=>[]
def LL(h:Array Obj)(g:Nat)(cs:A3):Array Obj:=h.modify g fun
 |.cells _ t frozen=>.cells cs t frozen
 |o=>o
def Tg(w0:Ak):Ak :=
 let h0:=LL w0.heap 7 (KX 5 Rows.laid_math_bits_deBruijn32tab).toArray
 let h1:=LL h0 8 (KX 5 Rows.laid_math_bits_deBruijn64tab).toArray
 let h2:=LL h1 6 (KX 5 Rows.laid_internal_strconv_uint64pow10).toArray
 let h3:=LL h2 5 (KX 5 Rows.laid_unicode_utf8_acceptRanges).toArray
 let h4:=LL h3 0 (KX 5 Rows.laid_redact_reading_cborSorts).toArray
 let h5:=LL h4 1 (KX 5 Rows.laid_redact_reading_packHeads).toArray
 let h6:=LL h5 2 (KX 5 Rows.laid_redact_policy_signs).toArray
 let h7:=LL h6 4 (KX 5 Rows.laid_unicode_utf8_first).toArray
 {w0 with heap:=h7}
end
section
open Go.RowKit
def NR{α:Type}(St:Nat->α->Ak->Prop)(Fr:Ak->Prop)(r:A5 α)(e:Ending)(V:Ak):Prop :=
 match r with
 |.ok (a,q)=>e=Af (Aa #[])/\St q a V
 |.error (en,pl)=>C0 en pl e/\Fr V
structure R2{α:Type}(b:Nat)(s:BO)(St:Nat->Nat->Nat->α->World->Prop)(Fr:World->Prop):Prop where
 src:∀N wi p a V,St N wi p a V->BD V b {s with pos:=p,within:=wi}
 step:∀N wi p a V wi' q V',St N wi p a V->BD V' b {s with pos:=q,within:=wi' }->BF b V V'->p<=q->St N wi' q a V'
 box:∀N wi p a V,St N wi p a V->V.heap[N]?=some (.cells #[.pointer (some ⟨b,0,none⟩)] 147)
 fr:∀N wi p a V,St N wi p a V->Fr V
 frb:∀V V',Fr V->BF b V V'->Fr V'
def Hd(bs:A1)(lim:Int):∀(g p:Nat) (u:Unit) (q:Nat),Cd bs lim g p=.ok (u,q)->p<=q
 |0,p,u,q,h=>by
  rw[Cd]at h;injection h with h;injection h with h1 h2;omega
 |g+1,p,u,q,h=>by
  rw[Cd]at h;split at h
  ·injection h with h;injection h with h1 h2;omega
  split at h
  ·cases h
  split at h
  ·have:=Hd bs lim g (p+1) u q h;omega
  injection h with h;injection h with h1 h2;omega
def kM{α:Type}(W:O)(b L r:Nat)(s:BO)(itF:α->Nat->A5 α)(u:α)(B:Nat->Nat->Nat->α->O->Prop)(Fr:O->Prop)(hI:R2 b s B Fr)(h:BD W b s)(hd:¬(s.within:Int)=s.depth)(bd:s.within<=100000)(a7:B W.heap.size s.within s.pos u (W.alloc (E #[A8 (U ⟨b,0,Y⟩)] 147)))(am:∀ao p a V,B ao (s.within+1) p a V->Am X 242 #[A8 (U ⟨L,0,Y⟩),A8 (U ⟨r,0,Y⟩)] V (NR (B ao (s.within+1)) Fr (itF a p)))(a6:∀a p a' ai,itF a p=.ok (a',ai)->p<ai):Am X 241 #[Ab #[A8 (U ⟨b,0,Y⟩)],I .u8 93,.func (.func 242) #[] #[A8 (U ⟨L,0,Y⟩),A8 (U ⟨r,0,Y⟩)]] W (NR (λai a V=>B W.heap.size s.within ai a V) Fr (Di s.bs s.lim itF 93 s.pos u)):=by
 have HS:=T a7;have f:=T hI;have az:=T a6;have cE:=TQ (W.alloc (E #[A8 (U ⟨b,0,Y⟩)] 147)) b s (h.below BN) hd J;have v:∀(V:O) (p:Nat),BD V b {s with pos:=p,within:=s.within+1}->Am X 249 #[A8 (U ⟨b,0,Y⟩)] V λe W'=>e=Af (Aa #[])/\BD W' b {s with pos:=p}/\BF b V W':=λV p k=>Yf V b s.within {s with pos:=p,within:=s.within+1} k Z Bn;obtain⟨R,S⟩:∃R,Hid (Di s.bs s.lim itF 93 s.pos u=R):=⟨_,show _=_ from rfl⟩
 rw[S.out];have d:=S.out;unfold Di at d;have t:=BB (f.box _ _ _ _ _ HS) 0;go_enter func241,ntmps241;go_wp2;go_step3
 go_wp2_with fail
 refine cE.mono ?_;rintro e w2 ⟨rfl,a5,a1⟩;have H2:=T (f.step _ _ _ _ _ _ _ _ HS a5 a1 J);have t:=BB (f.box _ _ _ _ _ H2) 0
 go_wp2_with fail
 refine(KY w2 b {s with pos:=s.pos,within:=s.within+1} (f.src _ _ _ _ _ H2)).mono ?_;rintro e w3 ⟨ap,af⟩
 cases w:Cd s.bs s.lim (s.bs.length+1-s.pos) s.pos with
 |error D =>
  obtain⟨C,H⟩:=D;simp only[w]at d af;subst d;obtain rfl:=(show C0 C H e from af)
  go_wp2;exact⟨Z,Z,f.frb _ _ (f.fr _ _ _ _ _ H2) ap⟩
 |ok up =>
  obtain⟨be,i⟩:=up;simp only[w]at d af;have a9:=Hd _ _ _ _ _ _ w;obtain⟨rfl,av⟩:=(show e=Af (Aa #[])/\BD w3 b {s with pos:=i,within:=s.within+1}from af)
  have y:=T (f.step _ _ _ _ _ _ _ _ H2 av ap J);have an:Hid (i<=s.bs.length):=av.le;have t:=BB (f.box _ _ _ _ _ y) 0;have a8:(Nz {s with pos:=i,within:=s.within+1}/\R=.error (8,(i:Int)))\/(∃c,EW {s with pos:=i,within:=s.within+1} c/\c.toNat=93/\R=.ok (u,i+1))\/((Am X 236 #[A8 (U ⟨b,0,Y⟩),I .u8 93] w3 λe W'=>e=Af (.bool false)/\BD W' b {s with pos:=i,within:=s.within+1}/\BF b w3 W')/\Dp s.bs s.lim itF 93 (s.bs.length+1-i) i u=R):=by
   have k:=(f.src _ _ _ _ _ y)
   cases l:s.bs[i]? with
   |none =>
    rw[l]at d;refine .inr (.inr ⟨QC 93 k ?_,d⟩);have x:i<=s.bs.length:=k.le;have N:=LC.1 l;show i=s.bs.length;omega
   |some c =>
    rw[l]at d;simp only[]at d;have N:=Cf l;by_cases o:(i:Int)=s.lim
    ·rw[BA o]at d;exact .inl ⟨⟨N,o⟩,d.symm⟩
    rw[Bz o]at d;by_cases m:c.toNat=93
    ·rw[BA m]at d;exact .inr (.inl ⟨c,⟨l,o⟩,m,d.symm⟩)
    rw[Bz m]at d;refine .inr (.inr ⟨?_,d⟩);have:=NA (c:=c) 93 k ⟨l,o⟩;rwa[show((c.toNat:Int)==93)=false by simp;omega]at this
  go_wp2_with fail
  rcases a8 with⟨a4,rfl⟩|⟨c,au,hc,rfl⟩|⟨cF,d⟩
  ·refine(Th w3 b {s with pos:=i,within:=s.within+1} 93 (f.src _ _ _ _ _ y) a4).mono ?_;rintro e w4 ⟨rfl,ab⟩;go_wp2;exact⟨Z,Z,f.frb _ _ (f.fr _ _ _ _ _ y) (BF.of_below ab)⟩
  ·have cF:=NA (c:=c) 93 (f.src _ _ _ _ _ y) au;rw[show((c.toNat:Int)==93)=true by rw[hc];rfl]at cF;refine cF.mono ?_;rintro e w4 ⟨rfl,ak,ab⟩;have n:=T (f.step _ _ _ _ _ _ _ _ y ak ab J);have t:=BB (f.box _ _ _ _ _ n) 0
   go_wp2_with fail
   refine(Ep w4 b {s with pos:=i,within:=s.within+1} c (f.src _ _ _ _ _ n) au).mono ?_;rintro e w5 ⟨rfl,ag,ac⟩;have P:=T (f.step _ _ _ _ _ _ _ _ n (show BD w5 b {s with pos:=i+1,within:=s.within+1}from ag) ac J);have t:=BB (f.box _ _ _ _ _ P) 0
   go_wp2_with fail
   refine(v w5 (i+1) (f.src _ _ _ _ _ P)).mono ?_;rintro e w6 ⟨rfl,ah,a2⟩;have z:=T (f.step _ _ _ _ _ _ _ _ P ah a2 J);go_wp2;refine P3 ?_;go_end0;exact⟨Z,z⟩
  have S:=T d;refine cF.mono ?_;rintro e w4 ⟨rfl,ak,ab⟩;have n:=T (f.step _ _ _ _ _ _ _ _ y ak ab J);go_wp2;go_step3;go_wp2
  go_loopg[21] (s.bs.length+1-i) (λg _ wr=>∃(p:Nat) (a:α),Hid (s.bs.length+1<=p+g)/\Hid (p<=s.bs.length)/\Hid (B W.heap.size (s.within+1) p a wr)/\Hid (Dp s.bs s.lim itF 93 g p a=R))
  case atStart=>exact⟨i,u,by show _<=_;have:=an.out;omega,an,n,S⟩
  case round =>
   obtain⟨p,a,hg,hp,n,S⟩:=hrel;obtain⟨g,rfl⟩:∃g,gk=g+1:=⟨gk-1,keN⟩
   have t:=BB (f.box _ _ _ _ _ n) 0;have d:=S.out;rw[Dp]at d
   go_wp2_with fail
   refine(KY wr b {s with pos:=p,within:=s.within+1} (f.src _ _ _ _ _ n)).mono ?_;rintro e w5 ⟨ac,ad⟩
   cases w:Cd s.bs s.lim (s.bs.length+1-p) p with
   |error D =>
    obtain⟨C,H⟩:=D;simp only[w]at d ad;subst d;clear w am v;obtain rfl:=(show C0 C H e from ad)
    go_wp2;exact⟨Z,Z,f.frb _ _ (f.fr _ _ _ _ _ n) ac⟩
   |ok up =>
    obtain⟨u1,q1⟩:=up;simp only[w]at d ad;have ba:=Hd _ _ _ _ _ _ w;clear w;obtain⟨rfl,ag⟩:=(show e=Af (Aa #[])/\BD w5 b {s with pos:=q1,within:=s.within+1}from ad)
    have P:=T (f.step _ _ _ _ _ _ _ _ n ag ac J);clear n ag ac ad
    go_wp2_with fail
    refine(am _ _ _ _ P).mono ?_;clear am;rintro e w6 F
    cases l:itF a q1 with
    |error D =>
     obtain⟨C,H⟩:=D;rw[l]at d F;simp only[]at d;subst d;clear l v;obtain⟨F,a3⟩:=(show C0 C H e/\Fr w6 from F)
     obtain rfl:=F;go_wp2;exact⟨Z,Z,a3⟩
    |ok aq =>
     obtain⟨a',q2⟩:=aq;rw[l]at d F;simp only[]at d;have bb:=az.out _ _ _ _ l;clear l;obtain⟨rfl,ah⟩:=(show e=Af (Aa #[])/\B W.heap.size (s.within+1) q2 a' w6 from F)
     have z:=T ah;clear P F ah;have t:=BB (f.box _ _ _ _ _ z) 0
     go_wp2_with fail
     refine(KY w6 b {s with pos:=q2,within:=s.within+1} (f.src _ _ _ _ _ z)).mono ?_;clear t;rintro e w7 ⟨aj,ae⟩
     cases o:Cd s.bs s.lim (s.bs.length+1-q2) q2 with
     |error D =>
      obtain⟨C,H⟩:=D;simp only[o]at d ae;subst d;clear o v;obtain rfl:=(show C0 C H e from ae)
      go_wp2;exact⟨Z,Z,f.frb _ _ (f.fr _ _ _ _ _ z) aj⟩
     |ok up =>
      obtain⟨u3,j⟩:=up;simp only[o]at d ae;have bc:=Hd _ _ _ _ _ _ o;clear o;obtain⟨rfl,aw⟩:=(show e=Af (Aa #[])/\BD w7 b {s with pos:=j,within:=s.within+1}from ae)
      have Q:=T (f.step _ _ _ _ _ _ _ _ z aw aj J);clear z aw aj ae;have t:=BB (f.box _ _ _ _ _ Q) 0
      go_wp2_with fail
      have k:=(f.src _ _ _ _ _ Q)
      cases m:s.bs[j]? with
      |none =>
       simp only[m]at d;subst d;refine(IQ w7 b {s with pos:=j,within:=s.within+1} k (by show j=s.bs.length;have x:j<=s.bs.length:=k.le;have N:=LC.1 m;omega)).mono ?_;clear m v k;rintro e w8 ⟨rfl,aa⟩;go_wp2;exact⟨Z,Z,f.frb _ _ (f.fr _ _ _ _ _ Q) (BF.of_below aa)⟩
      |some c =>
       rw[m]at d;simp only[]at d;have N:=Cf m;by_cases x:(j:Int)=s.lim
       ·rw[BA x]at d;subst d;refine(IR w7 b {s with pos:=j,within:=s.within+1} k ⟨N,x⟩).mono ?_;clear m x N v k;rintro e w8 ⟨rfl,aa⟩;go_wp2;exact⟨Z,Z,f.frb _ _ (f.fr _ _ _ _ _ Q) (BF.of_below aa)⟩
       rw[Bz x]at d;refine(Ep w7 b {s with pos:=j,within:=s.within+1} c k ⟨m,x⟩).mono ?_;clear m x t k;rintro e w8 ⟨rfl,al,aa⟩;have A:=T (f.step _ _ _ _ _ _ _ _ Q (show BD w8 b {s with pos:=j+1,within:=s.within+1}from al) aa J);have a0:Hid (j+1<=s.bs.length):=al.le;clear Q al aa;have t:=BB (f.box _ _ _ _ _ A) 0;by_cases q:c.toNat=93
       ·rw[BA q]at d;subst d;have e1:((c.toNat:Int)==93)=true:=by rw[q];rfl
        clear q
        go_wp2_with fail
        refine(v w8 (j+1) (f.src _ _ _ _ _ A)).mono ?_;clear v t;rintro e w9 ⟨rfl,ax,ar⟩;have H9:=T (f.step _ _ _ _ _ _ _ _ A ax ar J);clear A ax ar;go_wp2
        first|(refine P3 ?_;go_end0)|go_end0
        exact⟨Z,H9⟩
       rw[Bz q]at d;have e1:=BS (c:=c) 93 J;by_cases h8:c.toNat=44
       ·rw[BA h8]at d;have HN:=T d;have e2:((c.toNat:Int)==44)=true:=by rw[h8];rfl
        have ay:Hid (s.bs.length+1<=(j+1)+g):=ke5
        clear q h8 d v;go_wp2;go_roundg g
        case measure=>omega
        case rel=>exact⟨j+1,a',ay,a0,A,HN⟩
       rw[Bz h8]at d;subst d;have e2:=BS (c:=c) 44 J;have cR:=EX w8 b {s with pos:=j+1,within:=s.within+1} 9 (f.src _ _ _ _ _ A);rw[show((({s with pos:=j+1,within:=s.within+1}:BO).pos:Int)-1)=j by show(((j+1:Nat)):Int)-1=j;omega]at cR;clear q h8 v
       go_wp2_with fail
       refine cR.mono ?_;rintro e w9 ⟨rfl,rfl⟩;go_wp2;exact⟨Z,Z,f.fr _ _ _ _ _ A⟩
def kN{α:Type}(W:O)(b L r m:Nat)(s:BO)(itF:α->Nat->A5 α)(N:α)(C:Nat->Nat->Nat->α->O->Prop)(Fr:O->Prop)(hI:R2 b s C Fr)(h:BD W b s)(hd:¬(s.within:Int)=s.depth)(bd:s.within<=100000)(a7:C W.heap.size s.within s.pos N (W.alloc (E #[A8 (U ⟨b,0,Y⟩)] 147)))(am:∀ao p a V,C ao (s.within+1) p a V->Am X 243 #[A8 (U ⟨r,0,Y⟩),A8 (U ⟨m,0,Y⟩),A8 (U ⟨L,0,Y⟩)] V (NR (C ao (s.within+1)) Fr (itF a p)))(a6:∀a p a' ai,itF a p=.ok (a',ai)->p<ai):Am X 241 #[Ab #[A8 (U ⟨b,0,Y⟩)],I .u8 125,.func (.func 243) #[] #[A8 (U ⟨r,0,Y⟩),A8 (U ⟨m,0,Y⟩),A8 (U ⟨L,0,Y⟩)]] W (NR (λai a V=>C W.heap.size s.within ai a V) Fr (Di s.bs s.lim itF 125 s.pos N)):=by
 have HS:=T a7;have f:=T hI;have az:=T a6;have cE:=TQ (W.alloc (E #[A8 (U ⟨b,0,Y⟩)] 147)) b s (h.below BN) hd J;have w:∀(V:O) (p:Nat),BD V b {s with pos:=p,within:=s.within+1}->Am X 249 #[A8 (U ⟨b,0,Y⟩)] V λe W'=>e=Af (Aa #[])/\BD W' b {s with pos:=p}/\BF b V W':=λV p k=>Yf V b s.within {s with pos:=p,within:=s.within+1} k Z Bn;obtain⟨R,u⟩:∃R,Hid (Di s.bs s.lim itF 125 s.pos N=R):=⟨_,show _=_ from rfl⟩
 rw[u.out];have d:=u.out;unfold Di at d;have v:=BB (f.box _ _ _ _ _ HS) 0;go_enter func241,ntmps241;go_wp2;go_step3
 go_wp2_with fail
 refine cE.mono ?_;rintro e w2 ⟨rfl,a5,a1⟩;have H2:=T (f.step _ _ _ _ _ _ _ _ HS a5 a1 J);have v:=BB (f.box _ _ _ _ _ H2) 0
 go_wp2_with fail
 refine(KY w2 b {s with pos:=s.pos,within:=s.within+1} (f.src _ _ _ _ _ H2)).mono ?_;rintro e w3 ⟨ap,af⟩
 cases x:Cd s.bs s.lim (s.bs.length+1-s.pos) s.pos with
 |error F =>
  obtain⟨D,P⟩:=F;simp only[x]at d af;subst d;obtain rfl:=(show C0 D P e from af)
  go_wp2;exact⟨Z,Z,f.frb _ _ (f.fr _ _ _ _ _ H2) ap⟩
 |ok up =>
  obtain⟨be,i⟩:=up;simp only[x]at d af;have a9:=Hd _ _ _ _ _ _ x;obtain⟨rfl,av⟩:=(show e=Af (Aa #[])/\BD w3 b {s with pos:=i,within:=s.within+1}from af)
  have z:=T (f.step _ _ _ _ _ _ _ _ H2 av ap J);have an:Hid (i<=s.bs.length):=av.le;have v:=BB (f.box _ _ _ _ _ z) 0;have a8:(Nz {s with pos:=i,within:=s.within+1}/\R=.error (8,(i:Int)))\/(∃c,EW {s with pos:=i,within:=s.within+1} c/\c.toNat=125/\R=.ok (N,i+1))\/((Am X 236 #[A8 (U ⟨b,0,Y⟩),I .u8 125] w3 λe W'=>e=Af (.bool false)/\BD W' b {s with pos:=i,within:=s.within+1}/\BF b w3 W')/\Dp s.bs s.lim itF 125 (s.bs.length+1-i) i N=R):=by
   have k:=(f.src _ _ _ _ _ z)
   cases l:s.bs[i]? with
   |none =>
    rw[l]at d;refine .inr (.inr ⟨QC 125 k ?_,d⟩);have y:i<=s.bs.length:=k.le;have q:=LC.1 l;show i=s.bs.length;omega
   |some c =>
    rw[l]at d;simp only[]at d;have q:=Cf l;by_cases t:(i:Int)=s.lim
    ·rw[BA t]at d;exact .inl ⟨⟨q,t⟩,d.symm⟩
    rw[Bz t]at d;by_cases n:c.toNat=125
    ·rw[BA n]at d;exact .inr (.inl ⟨c,⟨l,t⟩,n,d.symm⟩)
    rw[Bz n]at d;refine .inr (.inr ⟨?_,d⟩);have:=NA (c:=c) 125 k ⟨l,t⟩;rwa[show((c.toNat:Int)==125)=false by simp;omega]at this
  go_wp2_with fail
  rcases a8 with⟨a4,rfl⟩|⟨c,au,hc,rfl⟩|⟨cF,d⟩
  ·refine(Th w3 b {s with pos:=i,within:=s.within+1} 125 (f.src _ _ _ _ _ z) a4).mono ?_;rintro e w4 ⟨rfl,ab⟩;go_wp2;exact⟨Z,Z,f.frb _ _ (f.fr _ _ _ _ _ z) (BF.of_below ab)⟩
  ·have cF:=NA (c:=c) 125 (f.src _ _ _ _ _ z) au;rw[show((c.toNat:Int)==125)=true by rw[hc];rfl]at cF;refine cF.mono ?_;rintro e w4 ⟨rfl,ak,ab⟩;have o:=T (f.step _ _ _ _ _ _ _ _ z ak ab J);have v:=BB (f.box _ _ _ _ _ o) 0
   go_wp2_with fail
   refine(Ep w4 b {s with pos:=i,within:=s.within+1} c (f.src _ _ _ _ _ o) au).mono ?_;rintro e w5 ⟨rfl,ag,ac⟩;have Q:=T (f.step _ _ _ _ _ _ _ _ o (show BD w5 b {s with pos:=i+1,within:=s.within+1}from ag) ac J);have v:=BB (f.box _ _ _ _ _ Q) 0
   go_wp2_with fail
   refine(w w5 (i+1) (f.src _ _ _ _ _ Q)).mono ?_;rintro e w6 ⟨rfl,ah,a2⟩;have A:=T (f.step _ _ _ _ _ _ _ _ Q ah a2 J);go_wp2;refine P3 ?_;go_end0;exact⟨Z,A⟩
  have u:=T d;refine cF.mono ?_;rintro e w4 ⟨rfl,ak,ab⟩;have o:=T (f.step _ _ _ _ _ _ _ _ z ak ab J);go_wp2;go_step3;go_wp2
  go_loopg[21] (s.bs.length+1-i) (λg _ wr=>∃(p:Nat) (a:α),Hid (s.bs.length+1<=p+g)/\Hid (p<=s.bs.length)/\Hid (C W.heap.size (s.within+1) p a wr)/\Hid (Dp s.bs s.lim itF 125 g p a=R))
  case atStart=>exact⟨i,N,by show _<=_;have:=an.out;omega,an,o,u⟩
  case round =>
   obtain⟨p,a,hg,hp,o,u⟩:=hrel;obtain⟨g,rfl⟩:∃g,gk=g+1:=⟨gk-1,keN⟩
   have v:=BB (f.box _ _ _ _ _ o) 0;have d:=u.out;rw[Dp]at d
   go_wp2_with fail
   refine(KY wr b {s with pos:=p,within:=s.within+1} (f.src _ _ _ _ _ o)).mono ?_;rintro e w5 ⟨ac,ad⟩
   cases x:Cd s.bs s.lim (s.bs.length+1-p) p with
   |error F =>
    obtain⟨D,P⟩:=F;simp only[x]at d ad;subst d;clear x am w;obtain rfl:=(show C0 D P e from ad)
    go_wp2;exact⟨Z,Z,f.frb _ _ (f.fr _ _ _ _ _ o) ac⟩
   |ok up =>
    obtain⟨u1,q1⟩:=up;simp only[x]at d ad;have ba:=Hd _ _ _ _ _ _ x;clear x;obtain⟨rfl,ag⟩:=(show e=Af (Aa #[])/\BD w5 b {s with pos:=q1,within:=s.within+1}from ad)
    have Q:=T (f.step _ _ _ _ _ _ _ _ o ag ac J);clear o ag ac ad
    go_wp2_with fail
    refine(am _ _ _ _ Q).mono ?_;clear am;rintro e w6 H
    cases l:itF a q1 with
    |error F =>
     obtain⟨D,P⟩:=F;rw[l]at d H;simp only[]at d;subst d;clear l w;obtain⟨H,a3⟩:=(show C0 D P e/\Fr w6 from H)
     obtain rfl:=H;go_wp2;exact⟨Z,Z,a3⟩
    |ok aq =>
     obtain⟨a',q2⟩:=aq;rw[l]at d H;simp only[]at d;have bb:=az.out _ _ _ _ l;clear l;obtain⟨rfl,ah⟩:=(show e=Af (Aa #[])/\C W.heap.size (s.within+1) q2 a' w6 from H)
     have A:=T ah;clear Q H ah;have v:=BB (f.box _ _ _ _ _ A) 0
     go_wp2_with fail
     refine(KY w6 b {s with pos:=q2,within:=s.within+1} (f.src _ _ _ _ _ A)).mono ?_;clear v;rintro e w7 ⟨aj,ae⟩
     cases t:Cd s.bs s.lim (s.bs.length+1-q2) q2 with
     |error F =>
      obtain⟨D,P⟩:=F;simp only[t]at d ae;subst d;clear t w;obtain rfl:=(show C0 D P e from ae)
      go_wp2;exact⟨Z,Z,f.frb _ _ (f.fr _ _ _ _ _ A) aj⟩
     |ok up =>
      obtain⟨u3,j⟩:=up;simp only[t]at d ae;have bc:=Hd _ _ _ _ _ _ t;clear t;obtain⟨rfl,aw⟩:=(show e=Af (Aa #[])/\BD w7 b {s with pos:=j,within:=s.within+1}from ae)
      have S:=T (f.step _ _ _ _ _ _ _ _ A aw aj J);clear A aw aj ae;have v:=BB (f.box _ _ _ _ _ S) 0
      go_wp2_with fail
      have k:=(f.src _ _ _ _ _ S)
      cases n:s.bs[j]? with
      |none =>
       simp only[n]at d;subst d;refine(IQ w7 b {s with pos:=j,within:=s.within+1} k (by show j=s.bs.length;have y:j<=s.bs.length:=k.le;have q:=LC.1 n;omega)).mono ?_;clear n w k;rintro e w8 ⟨rfl,aa⟩;go_wp2;exact⟨Z,Z,f.frb _ _ (f.fr _ _ _ _ _ S) (BF.of_below aa)⟩
      |some c =>
       rw[n]at d;simp only[]at d;have q:=Cf n;by_cases y:(j:Int)=s.lim
       ·rw[BA y]at d;subst d;refine(IR w7 b {s with pos:=j,within:=s.within+1} k ⟨q,y⟩).mono ?_;clear n y q w k;rintro e w8 ⟨rfl,aa⟩;go_wp2;exact⟨Z,Z,f.frb _ _ (f.fr _ _ _ _ _ S) (BF.of_below aa)⟩
       rw[Bz y]at d;refine(Ep w7 b {s with pos:=j,within:=s.within+1} c k ⟨n,y⟩).mono ?_;clear n y v k;rintro e w8 ⟨rfl,al,aa⟩;have B:=T (f.step _ _ _ _ _ _ _ _ S (show BD w8 b {s with pos:=j+1,within:=s.within+1}from al) aa J);have a0:Hid (j+1<=s.bs.length):=al.le;clear S al aa;have v:=BB (f.box _ _ _ _ _ B) 0;by_cases h7:c.toNat=125
       ·rw[BA h7]at d;subst d;have e1:((c.toNat:Int)==125)=true:=by rw[h7];rfl
        clear h7
        go_wp2_with fail
        refine(w w8 (j+1) (f.src _ _ _ _ _ B)).mono ?_;clear w v;rintro e w9 ⟨rfl,ax,ar⟩;have H9:=T (f.step _ _ _ _ _ _ _ _ B ax ar J);clear B ax ar;go_wp2
        first|(refine P3 ?_;go_end0)|go_end0
        exact⟨Z,H9⟩
       rw[Bz h7]at d;have e1:=BS (c:=c) 125 J;by_cases h8:c.toNat=44
       ·rw[BA h8]at d;have HN:=T d;have e2:((c.toNat:Int)==44)=true:=by rw[h8];rfl
        have ay:Hid (s.bs.length+1<=(j+1)+g):=ke5
        clear h7 h8 d w;go_wp2;go_roundg g
        case measure=>omega
        case rel=>exact⟨j+1,a',ay,a0,B,HN⟩
       rw[Bz h8]at d;subst d;have e2:=BS (c:=c) 44 J;have cR:=EX w8 b {s with pos:=j+1,within:=s.within+1} 9 (f.src _ _ _ _ _ B);rw[show((({s with pos:=j+1,within:=s.within+1}:BO).pos:Int)-1)=j by show(((j+1:Nat)):Int)-1=j;omega]at cR;clear h7 h8 w
       go_wp2_with fail
       refine cR.mono ?_;rintro e w9 ⟨rfl,rfl⟩;go_wp2;exact⟨Z,Z,f.fr _ _ _ _ _ B⟩
def Yq{β:Type}{md:Region.Mode}{ops:Array Oper}{fuel:Nat}{listed:Array Bool}(L:Array Bool)(b:Nat)(c:β->List (Nat×Al))(T:β->Prop)(d:β->O)(e:(∀x,T x->wpAny P md ops Q b L ((c x).foldl (λa p=>a.put (U p.1) p.2) a) (d x))->wpAny P md ops Q fuel listed a w)(f:∀x,T x->wpAny P md ops Q b L ((c x).foldl (λa p=>a.put (U p.1) p.2) a) (d x)):wpAny P md ops Q fuel listed a w:=e f
def Yr{o:Oper}{K:Act->O->Prop}(s x:Operand)(t:TypeId)(ho:o.op=.call {callee:=.builtin .append,args:=#[s,x],argTypes:=#[t,t]})(f:Nat)(e:TypeId)(i:TypeInfo)(z:Al)(size l:Nat)(H:P.underlying t=U (.slice e))(hi:P.info? e=U i)(L:i.zero=U z)(F:i.size=size)(r:i.bytes=l)(ab:z.cells.size=size)(aa:0<size)(v:Al)(n:Nat)(xs:List Al)(hs:a.eval s=v)(C:w.ownsRow f e size v n xs)(k:Addr)(m c:Nat)(b:List Al)(hx:a.eval x=G (U k) m c)(A:b.length=m*size)(B:∀j u,b[j]?=U u->w.cell? (k.add j)=U u)(p:∀u∈b,u.oneCell'=true)(W:0<m)(q:n+m<=maxLen)(y:(n+m)*l<=140737488355328)(V:f<=w.heap.size)(h:∀d g,g.ownsRow f e size d (n+m) (xs++b)->w.grownBy g v.ownBlock->(d.ownBlock=v.ownBlock\/d.ownBlock=U w.heap.size)->K (a.put o.dst d) g):o.wp P a w K Q:=by
 obtain⟨d,g,D,N,R,_⟩:=OF (P:=P) w f t o.type e i z size l H hi L F r ab aa v n xs C k m c b A B p q y V;have S:=Y6 (P:=P) w f t o.type e i z size l H hi L F r v n xs C k m c b A B p W q y D;unfold Oper.wp execOp;simp only[ho,resolve,invoke,builtin,Ei,Fq,EA,Nl,EU,Je,hs,hx,D];exact h d g N R S
structure Jp(k:Nat)(W:World)(b:Nat)(s:BO)(N wi p:Nat)(ds:List (DataW Unit))(V:World):Prop where
 src:BD V b {s with pos:=p,within:=wi}
 but:BF b W V
 rbox:V.heap[W.heap.size]?=some (.cells #[.pointer (some ⟨b,0,none⟩)] 147)
 box:V.heap[N]?=some (.cells #[.pointer (some ⟨b,0,none⟩)] 147)
 hN:W.heap.size+2<=N
 own:∃a l c xs,V.heap[W.heap.size+1]?=some (.cells #[.slice a l c] 153)/\V.ownsRow (W.heap.size+2) 56 1 (.slice a l c) ds.length xs/\some N≠(Value.slice a l c).ownBlock/\∀(i:Nat) (x:Value) (d:A2),xs[i]?=some x->ds[i]?=some d->BQ k V (λj=>W.heap.size+2<=j/\j<V.heap.size/\some j≠(Value.slice a l c).ownBlock) x d
 size:W.heap.size+2<=V.heap.size
 len:ds.length<=p
def Jp.step{b:Nat}{s:BO}{wi':Nat}(h:Jp k W b s N wi p ds V)(hb:b<W.heap.size)(u:BD V' b {s with pos:=q,within:=wi' })(e:BF b V V')(t:ds.length<=q):Jp k W b s N wi' q ds V':=by
 obtain⟨a,l,c,w,g,m,n,o⟩:=h.own;have z:=h.size;have y:=h.hN;exact⟨u,h.but.trans e,(e.block _ (BC h.rbox) J).trans h.rbox,(e.block _ (BC h.box) J).trans h.box,h.hN,⟨a,l,c,w,(e.block _ (BC g) J).trans g,QX m e J,n,λi x d v r=>(o i x d v r).same (λj f=>⟨f.1,CA f.2.1 e.size,f.2.2⟩) (λj f=>e.block j f.2.1 J)⟩,C7 h.size e.size,t⟩
def Jp.push{V3 w5:O}{b:Nat}{s:BO}{d:A2}{a:A4}{l c:Nat}{v' x:Al}{xs:List Al}(h:Jp k W b s N wi p ds V)(h0:BD W b s)(hb:b<W.heap.size)(m:BF b V V3)(hS:BD V3 b {s with pos:=q,within:=wi})(hd:BQ k V3 (λj=>V.heap.size<=j/\j<V3.heap.size) x d)(H:V.heap[W.heap.size+1]?=U (E #[G a l c] 153))(D:V.ownsRow (W.heap.size+2) 56 1 (G a l c) ds.length xs)(L:U N≠(Value.slice a l c).ownBlock)(ag:∀(i:Nat) (x:Al) (d:A2),xs[i]?=U x->ds[i]?=U d->BQ k V (λj=>W.heap.size+2<=j/\j<V.heap.size/\U j≠(Value.slice a l c).ownBlock) x d)(F:w5.ownsRow (W.heap.size+2) 56 1 v' (ds.length+1) (xs++[x]))(n:(V3.alloc (E #[x] 56)).grownBy w5 (Value.slice a l c).ownBlock)(t:v'.ownBlock=(Value.slice a l c).ownBlock\/v'.ownBlock=U (V3.alloc (E #[x] 56)).heap.size)(ad:ds.length+1<=q):Jp k W b s N wi q (ds++[d]) (w5.setCell ⟨W.heap.size+1,0,Y⟩ v'):=by
 have al:=h.size;have hN:=h.hN;have aa:=BC h.box;have aj:=m.size;have ak:V3.heap.size+1<=w5.heap.size:=keQ
 have key:∀g,(Value.slice a l c).ownBlock=U g->W.heap.size+2<=g:=λg n=>Fa D n;have ah:=P7 D;have v:∀j,j<V3.heap.size->U j≠(Value.slice a l c).ownBlock->j≠W.heap.size+1->(w5.setCell ⟨W.heap.size+1,0,Y⟩ v').heap[j]?=V3.heap[j]?:=λj f r hl=>(CP w5 _ _ _ (by simpa using hl)).trans ((n.block j Ax r).trans (BT _ _ _ f));have B:∀j,j<W.heap.size+1->(w5.setCell ⟨W.heap.size+1,0,Y⟩ v').heap[j]?=V3.heap[j]?:=λj f=>v j J (λe=>keK) J;have y:=(n.block _ Ax (λe=>AN)).trans ((BT _ _ _ J).trans ((m.block _ (BC H) J).trans H));have w:(w5.setCell ⟨W.heap.size+1,0,Y⟩ v').heap.size=w5.heap.size:=AJ
 obtain⟨A,z,rfl⟩:=ownsRow_succ F;have ae:(w5.setCell ⟨W.heap.size+1,0,Y⟩ (G (U ⟨A,0,Y⟩) (ds.length+1) z)).ownsRow (W.heap.size+2) 56 1 (G (U ⟨A,0,Y⟩) (ds.length+1) z) (ds.length+1) (xs++[x]):=by
  refine⟨F.1,?_⟩;rcases F.2 with h2|⟨g,Q,R,e,ab,ac,h5⟩
  ·exact .inl h2
  exact .inr ⟨g,Q,R,e,ab,(CP w5 _ _ _ Ax).trans ac,h5⟩
 have C:∀j,j<V3.heap.size->U j≠(Value.slice a l c).ownBlock->U j≠(Value.slice (U ⟨A,0,Y⟩) (ds.length+1) z).ownBlock:=λj f r=>by
  rcases t with t|t
  ·rw[t];exact r
  rw[t];intro e;injection e with e;simp at e;omega
 refine⟨h0.same Z Z hS (λj f=>B j J),⟨n.os.trans (m.os.trans h.but.os),n.tape.trans (m.tape.trans h.but.tape),n.output.trans (m.output.trans h.but.output),by rw[w];have:=h.but.size;omega,λj f r=>(B j J).trans ((m.block j J r).trans (h.but.block j f r))⟩,(B _ J).trans ((m.block _ J J).trans h.rbox),(v N J L J).trans ((m.block N aa J).trans h.box),h.hN,⟨_,_,_,_,?_,by rw[BK];exact ae,?_,λi ai S u o=>?_⟩,by rw[w];omega,by rw[BK];exact ad⟩
 ·rw[ET _ _ _ _ _ _ y];rfl
 ·exact C N J L
 have af:xs.length=ds.length:=Ao D.1
 by_cases hi:i<ds.length
 ·rw[F6 J]at u o;exact(ag i ai S u o).same (λj f=>⟨f.1,by rw[w];have:=f.2.1;omega,C j J f.2.2⟩) (λj f=>(v j J f.2.2 J).trans (m.block j f.2.1 J))
 have e:i=ds.length:=by
  have:=Cf o;rw[BK]at this;simp at this;omega
 subst e;rw[Ez J]at o;rw[Ez J,af]at u;simp at u o;subst u;subst o;have P:∀j,V.heap.size<=j->U j≠(Value.slice a l c).ownBlock:=λj f e=>Ao (ah j e.symm)
 exact hd.same (λj f=>⟨J,by rw[w];omega,C j f.2 (P j f.1)⟩) (λj f=>v j f.2 (P j f.1) J)
def kO(k:Nat)(W:O)(b:Nat)(s:BO)(wi:Nat)(A:Nat->Except (Int×Int) (DataW Unit×Nat))(h0:BD W b s)(ah:MI k b {s with within:=wi} W A)(af:∀p d q,A p=.ok (d,q)->p<q)(aq:s.bs.length<=200000000)(N p:Nat)(ds:List (DataW Unit))(V:O)(h:Jp k W b s N wi p ds V):Am X 242 #[A8 (U ⟨W.heap.size+1,0,Y⟩),A8 (U ⟨W.heap.size,0,Y⟩)] V (NR (Jp k W b s N wi) (λV=>BF b W V) (D9 A ds p)):=by
 obtain⟨i0,hi,al,am,an⟩:=DZ Tryz.infoThing;have ae:=BC h0.row;obtain⟨v,z,w,xs,n,S,ag,ak⟩:=h.own;have R:W.heap.size+1<(World.drew V).heap.size:=BC n;have ap:ds.length<=200000000:=by have h1:=h.len;have h2:p<=s.bs.length:=h.src.le;omega
 have C:=h.src.below (C5 _ _).drew;have l:=h.but.trans (BF.of_below (C5 _ _).drew);have k0:(World.drew V).cell? ⟨W.heap.size+1,0,Y⟩=U (G v z w):=BB n 0;have k1:(World.drew V).cell? ⟨W.heap.size,0,Y⟩=U (A8 (U ⟨b,0,Y⟩)):=BB h.rbox 0;have ai:=h.size;have m:∀B,BD B b {s with pos:=p,within:=wi}->BF b W B->Am X 228 #[Ab #[A8 (U ⟨b,0,Y⟩)]] B (IW k B b {s with pos:=p,within:=wi} (A p)):=λB h1 h2=>ah B p h1 h2
 cases D:A p with
 |error er =>
  obtain⟨H,Q⟩:=er;have u:D9 A ds p=.error (H,Q):=by unfold D9;rw[D]
  rw[u];rw[D]at m;go_enter func242,ntmps242
  go_wp2_with fail
  refine Qp M ?_;change wpAny _ _ _ _ _ _ _ (World.drew V);refine JK 0 1 Z Z M (λf a=>?_) (λf a=>?_)
  ·go_simp;refine a _ _ ?_;refine Ej 1 Z M (λf a=>?_);go_simp;refine a _ _ ?_;refine Ej 2 Z M (λf a=>?_);go_simp;refine(m _ C l).mono ?_;rintro e c ⟨g,i⟩;obtain rfl:=(show C0 H Q e from i)
   exact⟨Z,Z,l.trans g⟩
  go_simp;refine a _ _ ?_;refine JK 0 2 Z Z M (λf a=>?_) (λf a=>?_)
  ·go_simp;refine a _ _ ?_;refine Ej 2 Z M (λf a=>?_);go_simp;refine(m _ C l).mono ?_;rintro e c ⟨g,i⟩;obtain rfl:=(show C0 H Q e from i)
   exact⟨Z,Z,l.trans g⟩
  go_simp;refine(m _ C l).mono ?_;rintro e c ⟨g,i⟩;obtain rfl:=(show C0 H Q e from i)
  exact⟨Z,Z,l.trans g⟩
 |ok dq =>
  obtain⟨d,q⟩:=dq;have u:D9 A ds p=.ok (ds++[d],q):=by unfold D9;rw[D]
  rw[u];have ar:=af p d q D;rw[D]at m;go_enter func242,ntmps242
  go_wp2_with fail
  refine Qp M ?_;change wpAny _ _ _ _ _ _ _ (World.drew V);refine Yq (β:=TypeId×Al×O) #[true,true,true,true,false,false] 2 (λx=>[(2,G v z w),(3,Ab #[A8 (U ⟨b,0,Y⟩)]),(4,Ad x.1 x.2.1),(5,G (U ⟨x.2.2.heap.size,0,Y⟩) 1 1)]) (λx=>BF b (World.drew V) x.2.2/\BD x.2.2 b {s with pos:=q,within:=wi}/\BQ k x.2.2 (λj=>(World.drew V).heap.size<=j/\j<x.2.2.heap.size) (Ad x.1 x.2.1) d) (λx=>x.2.2.alloc (E #[Ad x.1 x.2.1] 56)) (λP=>?reg) ?tail
  case reg =>
   refine JK 0 1 Z Z M (λf a=>?_) (λf a=>?_)
   ·go_simp;refine a _ _ ?_;refine Ej 1 Z M (λf a=>?_);go_simp;refine a _ _ ?_;refine Ej 2 Z M (λf a=>?_);go_simp;refine(m _ C l).mono ?_;rintro e c ⟨g,i⟩;obtain⟨⟨t,y,rfl,r⟩,o⟩:=(show(∃t y,e=Af (Ad t y)/\BQ k c (λj=>(World.drew V).heap.size<=j/\j<c.heap.size) (Ad t y) d)/\BD c b {s with pos:=q,within:=wi}from i)
    simp only[];have F:c.cell? ⟨W.heap.size+1,0,Y⟩=U (G v z w):=BB ((g.block _ R J).trans n) 0;have hrel:BF b (World.drew V) c/\BD c b {s with pos:=q,within:=wi}/\BQ k c (λj=>(World.drew V).heap.size<=j/\j<c.heap.size) (Ad t y) d:=⟨g,o,r⟩
    refine a _ _ ?_;refine Ej 3 Z M (λf a=>?_);go_simp;refine a _ _ ?_;exact P ⟨t,y,c⟩ hrel
   go_simp;refine a _ _ ?_;refine JK 0 2 Z Z M (λf a=>?_) (λf a=>?_)
   ·go_simp;refine a _ _ ?_;refine Ej 2 Z M (λf a=>?_);go_simp;refine(m _ C l).mono ?_;rintro e c ⟨g,i⟩;obtain⟨⟨t,y,rfl,r⟩,o⟩:=(show(∃t y,e=Af (Ad t y)/\BQ k c (λj=>(World.drew V).heap.size<=j/\j<c.heap.size) (Ad t y) d)/\BD c b {s with pos:=q,within:=wi}from i)
    simp only[];have F:c.cell? ⟨W.heap.size+1,0,Y⟩=U (G v z w):=BB ((g.block _ R J).trans n) 0;have hrel:BF b (World.drew V) c/\BD c b {s with pos:=q,within:=wi}/\BQ k c (λj=>(World.drew V).heap.size<=j/\j<c.heap.size) (Ad t y) d:=⟨g,o,r⟩
    refine a _ _ ?_;refine Ej 3 Z M (λf a=>?_);go_simp;refine a _ _ ?_;exact P ⟨t,y,c⟩ hrel
   go_simp;refine(m _ C l).mono ?_;rintro e c ⟨g,i⟩;obtain⟨⟨t,y,rfl,r⟩,o⟩:=(show(∃t y,e=Af (Ad t y)/\BQ k c (λj=>(World.drew V).heap.size<=j/\j<c.heap.size) (Ad t y) d)/\BD c b {s with pos:=q,within:=wi}from i)
   simp only[];have F:c.cell? ⟨W.heap.size+1,0,Y⟩=U (G v z w):=BB ((g.block _ R J).trans n) 0;have hrel:BF b (World.drew V) c/\BD c b {s with pos:=q,within:=wi}/\BQ k c (λj=>(World.drew V).heap.size<=j/\j<c.heap.size) (Ad t y) d:=⟨g,o,r⟩
   refine a _ _ ?_;refine JK 0 3 Z Z M (λf a=>?_) (λf a=>?_)
   ·go_simp;refine a _ _ ?_;refine Ej 3 Z M (λf a=>?_);go_simp;refine a _ _ ?_;exact P ⟨t,y,c⟩ hrel
   go_simp;refine a _ _ ?_;refine Ej 0 Z M (λf a=>?_);have c4:(c.alloc (E #[Ad t y] 56)).cell? ⟨W.heap.size+1,0,Y⟩=U (G v z w):=(Df c _ _ (by rw[F];rfl)).trans F;go_simp;refine a _ _ ?_;exact P ⟨t,y,c⟩ hrel
  case tail =>
   rintro⟨t,y,c⟩ ⟨g,o,r⟩;simp only[]at g o r ⊢;have L:=(BF.of_below (C5 _ _).drew).trans g;have ad:=QX S L J;have au:=C7 ai L.size;simp only[List.foldl];refine Ej 4 Z M (λf a=>?_);rw[BA Bk];refine Yr _ _ 153 Z (W.heap.size+2) 56 i0 .nilIface 1 16 underlying153 hi al am an Z Ay _ _ _ Z (ad.alloc _) ⟨c.heap.size,0,Y⟩ 1 1 [Ad t y] Z Z (EE _ _ _) (λav hu=>by simp at hu;subst hu;rfl) Ay AC J Ax ?_;intro v' w5 ac ab aj;have hJ:=h.push h0 ae L o r n S ag ak ac ab aj (Ao h.len);have aa:=(ab.block _ Ax (λe=>Ao (Fa S e.symm))).trans ((BT _ _ _ J).trans ((L.block _ (BC n) J).trans n));have c5:w5.cell? ⟨W.heap.size+1,0,Y⟩=U (G v z w):=BB aa 0;have f5:=Dx w5 _ 0 _ _ aa;obtain⟨g5,ao,rfl⟩:=ownsRow_succ ac;refine a _ _ ?_;refine Ej 5 Z M (λf a=>?_);go_simp;refine a _ _ ?_;refine T6 M ?_ _;go_end0;exact⟨Z,hJ⟩
def NS(bs:A1)(lim:Int):∀(g p c:Nat) (b l:A1) (r:Nat),Ct bs lim g p b c=.ok (l,r)->p<r/\l.length+4*p<=b.length+4*r
 |0,p,c,b,l,r,h=>by rw[Ct]at h;cases h
 |g+1,p,c,b,l,r,h=>by
  rw[Ct]at h;split at h
  ·cases h
  split at h
  ·cases h
  split at h
  ·injection h with h;injection h with a d;subst a;omega
  split at h
  ·split at h
   ·cases h
   next rr q hq =>
   have a:=NS bs lim g q _ _ l r h;have d:=(TN hq).2;have e:=(NJ rr).2;rw[BK]at a;omega
  split at h
  ·cases h
  split at h
  ·cases h
  have a:=NS bs lim g (p+1) _ _ l r h;rw[BK]at a;simp at a;omega
def MJ(bs:A1)(lim:Int):∀(l:A1) (p:Nat) (u:Unit) (q:Nat),Ci bs lim l p=.ok (u,q)->q=p+l.length
 |[],p,u,q,h=>by
  rw[Ci]at h;injection h with h;injection h with h1 h2;simp[h2]
 |x::xs,p,u,q,h=>by
  rw[Ci]at h;split at h
  ·cases h
  split at h
  ·cases h
  split at h
  ·have:=MJ bs lim xs (p+1) u q h;simp;omega
  cases h
def Ys{bs:A1}{lim:Int}{l:A1}(h:FH bs lim ks p=.ok (l,q)):p<q:=by
 unfold FH at h;split at h
 ·cases h
 next u q1 h1 =>
 split at h
 ·cases h
 next l' r h2 =>
 split at h
 ·cases h
 injection h with h;injection h with h3 h4;have:=MJ _ _ _ _ _ _ h1;have:=NS _ _ _ _ _ _ _ _ h2;omega
def Yt(W:Ak)(b m:Nat)(s:BO)(ks:List A1)(r:A5 A1)(e:Ending)(W':Ak):Prop :=
 GG b m W W'/\match r with
 |.ok (l,p)=>e=Af (A9 ⟨l.toArray⟩)/\BD W' b {s with pos:=p}/\E2 W' m (l::ks)
 |.error (en,pl)=>C0 en pl e
def kP(W:O)(b m:Nat)(s:BO)(ks:List A1)(h:BD W b s)(hk:E2 W m ks)(ad:m≠b)(ai:∀ac off,s.bs≠[]->s.ia=U ⟨ac,off,Y⟩->ac≠m)(aj:ks.length<1000000000)(ak:s.bs.length<=200000000)(hU:∀V,BF b W V->U8 V)(h7:7<b):Am X 244 #[Ab #[A8 (U ⟨b,0,Y⟩)],.map (U m)] W (Yt W b m s ks (FH s.bs s.lim ks s.pos)):=by
 have o:=T (AA h);have t:=NP _ b s [34] Az o.src;have cX:∀(V:O) (p:Nat),BD V b {s with pos:=p}->BF b W V->Am X 231 #[Ab #[A8 (U ⟨b,0,Y⟩)]] V (ED V b {s with pos:=p} (λl:A1=>A9 ⟨l.toArray⟩) (Ct s.bs s.lim (s.bs.length+1-p) p [] 0)):=λV p n u=>Ya V b {s with pos:=p} n (hU V u) h7 ak;have af:∀(V:O) (p:Nat),BD V b {s with pos:=p}->Am X 227 #[A8 (U ⟨b,0,Y⟩),I K 12] V λe W'=>C0 12 ((p:Int)-1) e/\W'=V:=λV p n=>EX V b {s with pos:=p} 12 n;have aa:Hid (∀V,BF b W V->E2 V m ks):=λV n=>hk.but ad n;have ae:Hid (∀V N p,BD V b {s with pos:=p}->BF m V N->BD N b {s with pos:=p}):=λV N p n u=>n.off ad ai u;obtain⟨ab,HR⟩:∃ab,Hid (FH s.bs s.lim ks s.pos=ab):=⟨_,show _=_ from rfl⟩
 rw[HR.out];have a:=HR.out;unfold FH at a;have v:=BB o.box 0
 cases ha:Ci s.bs s.lim [34] s.pos with
 |error S =>
  rw[ha]at a t;simp only[]at a;subst a;obtain⟨Q,R⟩:=S;go_enter func244,ntmps244
  go_wp2_with(first
   |(go_at_call 230;refine t.mono ?_;rintro e f ⟨j,k⟩;obtain rfl:=(show C0 Q R e from k)))
  exact⟨Z,.of1 (o.but.trans j),Z⟩
 |ok uq =>
  obtain⟨am,q⟩:=uq;rw[ha]at a t;simp only[]at a;have w:=λP (hs:BD P b {s with pos:=q}) (hb:BF b W P)=>cX P q hs hb
  cases g:Ct s.bs s.lim (s.bs.length+1-q) q [] 0 with
  |error S =>
   rw[g]at a w;simp only[]at a;subst a;obtain⟨Q,R⟩:=S;go_enter func244,ntmps244
   go_wp2_with(first
    |(go_at_call 230;refine t.mono ?_;rintro e f ⟨j,k⟩;obtain⟨rfl,B⟩:=(show e=Af (Aa #[])/\BD f b {s with pos:=q}from k);have c:=T (o.step B j);have v:=BB c.box 0;have x:=w f c.src c.but)
    |(go_at_call 231;refine x.mono ?_;rintro e i ⟨y,A⟩;obtain rfl:=(show C0 Q R e from A)))
   exact⟨Z,.of1 (c.but.trans y),Z⟩
  |ok lr =>
   obtain⟨l,r⟩:=lr;rw[g]at a w;simp only[]at a;have al:=NS _ _ _ _ _ _ _ _ g;simp only[DX,DY]at al;by_cases D:l∈ks
   ·rw[BA D]at a;subst a;have F:=T D;go_enter func244,ntmps244
    go_wp2_with(first
     |(go_at_call 230;refine t.mono ?_;rintro e f ⟨j,k⟩;obtain⟨rfl,B⟩:=(show e=Af (Aa #[])/\BD f b {s with pos:=q}from k);have c:=T (o.step B j);have v:=BB c.box 0;have x:=w f c.src c.but)
     |(go_at_call 231;refine x.mono ?_;rintro e i ⟨y,A⟩;obtain⟨rfl,C⟩:=(show e=Af (A9 ⟨l.toArray⟩)/\BD i b {s with pos:=r}from A);have d:=T (c.step C y);have H:Hid (l.length<=1000000000):=(show _<=_ from by have h1:r<=s.bs.length:=C.le;omega);have v:=BB d.box 0)
     |(go_at_call 250;refine(Yc i m ks l (aa i d.but) F H).mono ?_;rintro e w7 ⟨rfl,z⟩;have L:=T (d.step (d.src.below z) (BF.of_below z));have v:=BB L.box 0;have ag:=af w7 r L.src)
     |(go_at_call 227;refine ag.mono ?_;rintro e w8 ⟨hF,rfl⟩;obtain rfl:=hF))
    exact⟨Z,.of1 L.but,Z⟩
   rw[Bz D]at a;subst a;have F:=T D;go_enter func244,ntmps244
   go_wp2_with(first
    |(go_at_call 230;refine t.mono ?_;rintro e f ⟨j,k⟩;obtain⟨rfl,B⟩:=(show e=Af (Aa #[])/\BD f b {s with pos:=q}from k);have c:=T (o.step B j);have v:=BB c.box 0;have x:=w f c.src c.but)
    |(go_at_call 231;refine x.mono ?_;rintro e i ⟨y,A⟩;obtain⟨rfl,C⟩:=(show e=Af (A9 ⟨l.toArray⟩)/\BD i b {s with pos:=r}from A);have d:=T (c.step C y);have H:Hid (l.length<=1000000000):=(show _<=_ from by have h1:r<=s.bs.length:=C.le;omega);have v:=BB d.box 0)
    |(go_at_call 250;refine(Yd i m ks l (aa i d.but) F aj H).mono ?_;rintro e w7 ⟨rfl,ah,z⟩))
   go_ret;exact⟨(GG.of1 d.but).trans (GG.of2 z),Z,ae _ _ _ d.src z,ah⟩
def JX(ks:List A1)(s:Nat×A1)(x:Nat):Bool:=if s.1=0 then true else if s.1=1 then false else if s.1=2 then x==1 else x==(EI ks (.string s.2)).getD 0
def gB(rs:List (List (Nat×A1)×Int×Int))(r p:Nat)(f:Nat×A1->Bool):Bool:=match rs[r]? with
 |some R=>(match R.1[p]? with|some s=>f s|none=>false)
 |none=>false
def ZR(a:rs[r]?=U R)(b:R.1[p]?=U s)(f:Nat×A1->Bool):gB rs r p f=f s:=by
 unfold gB;rw[a];show(match R.1[p]? with|some s=>f s|none=>false)=f s;rw[b]
def ZS(a:rs[r]?=U R)(b:R.1.length<=p)(f:Nat×A1->Bool):gB rs r p f=false:=by
 unfold gB;rw[a];show(match R.1[p]? with|some s=>f s|none=>false)=false;rw[Dz b]
def ZT(a:rs.length<=r)(p:Nat)(f:Nat×A1->Bool):gB rs r p f=false:=by
 unfold gB;rw[Dz a]
structure Hh(rs:List (List (Nat×A1)×Int×Int))(ks:List A1)(i j:Nat)(st:Nat->Nat)(tk:Nat->Nat->Nat):Prop where
 s:∀r p,(st r).testBit p=(decide (r<i\/(r=i/\p<j))&&gB rs r p (λs=>s.1==1))
 t:∀x r p,(tk x r).testBit p=(decide (r<i\/(r=i/\p<j))&&gB rs r p (λs=>JX ks s x))
def oY(rs:List (List (Nat×A1)×Int×Int))(ks:List A1):Hh rs ks 0 0 (λ_=>0) (λ_ _=>0) :=
 ⟨λr p=>Az,λx r p=>Az⟩
def Fk(st:Nat->Nat)(i j:Nat)(b:Bool):Nat->Nat:=λr=>if r=i/\b=true then st r|||2^j else st r
def oZ(x j p:Nat):(x|||2^j).testBit p=(x.testBit p||decide (p=j)):=by
 rw[SO,Nat.testBit_two_pow];congr 1;exact IJ.2 ⟨λh=>h.symm,λh=>h.symm⟩
def ZU{f:Nat×A1->Bool}(c:rs[i]?=U R)(g:R.1[j]?=U s)(h:∀r p,(st r).testBit p=(decide (r<i\/(r=i/\p<j))&&gB rs r p f))(r p:Nat):(Fk st i j (f s) r).testBit p=(decide (r<i\/(r=i/\p<j+1))&&gB rs r p f):=by
 unfold Fk;by_cases b:r=i
 ·subst b
  cases d:f s with
  |true =>
   rw[BA ⟨rfl,rfl⟩,oZ,h];by_cases a:p=j
   ·subst a;rw[ZR c g,d];simp
   have e:decide (r<r\/r=r/\p<j)=decide (r<r\/r=r/\p<j+1):=IJ.2 J;rw[e,CO a,Bool.or_false]
  |false =>
   rw[Bz Az,h];by_cases a:p=j
   ·subst a;rw[ZR c g,d];simp
   have e:decide (r<r\/r=r/\p<j)=decide (r<r\/r=r/\p<j+1):=IJ.2 J;rw[e]
 rw[Bz (λk=>b k.1),h];have e:(r<i\/r=i/\p<j)=(r<i\/r=i/\p<j+1):=by simp[b]
 simp only[e]
def Hh.place{tk:Nat->Nat->Nat}(h:Hh rs ks i j st tk)(a:rs[i]?=U R)(b:R.1[j]?=U s):Hh rs ks i (j+1) (Fk st i j (s.1==1)) (λx=>Fk (tk x) i j (JX ks s x)) :=
 ⟨λr p=>ZU (f:=λs=>s.1==1) a b h.s r p,λx r p=>ZU (f:=λs=>JX ks s x) a b (h.t x) r p⟩
def Hh.rule{tk:Nat->Nat->Nat}(h:Hh rs ks i j st tk)(b:rs[i]?=U R)(d:R.1.length<=j):Hh rs ks (i+1) 0 st tk:=by
 have key:∀(f:Nat×A1->Bool) (r p:Nat),(decide (r<i\/(r=i/\p<j))&&gB rs r p f)=(decide (r<i+1\/(r=i+1/\p<0))&&gB rs r p f):=by
  intro f r p;by_cases a:r=i
  ·subst a;by_cases c:p<j
   ·simp[c]
   rw[ZS b J];simp
  have e:(r<i\/r=i/\p<j)=(r<i+1\/r=i+1/\p<0):=by simp[a];omega
  simp only[e]
 exact⟨λr p=>(h.s r p).trans (key _ r p),λx r p=>(h.t x r p).trans (key _ r p)⟩
structure Ky(rs:List (List (Nat×A1)×Int×Int))(ks:List A1)(st:Nat->Nat)(tk:Nat->Nat->Nat):Prop where
 s:∀r p,(st r).testBit p=gB rs r p (λs=>s.1==1)
 t:∀x r p,(tk x r).testBit p=gB rs r p (λs=>JX ks s x)
def Hh.done{tk:Nat->Nat->Nat}(h:Hh rs ks i 0 st tk)(hi:rs.length<=i):Ky rs ks st tk:=by
 have key:∀(f:Nat×A1->Bool) (r p:Nat),(decide (r<i\/(r=i/\p<0))&&gB rs r p f)=gB rs r p f:=by
  intro f r p;by_cases a:r<i
  ·simp[a]
  rw[ZT J];simp
 exact⟨λr p=>(h.s r p).trans (key _ r p),λx r p=>(h.t x r p).trans (key _ r p)⟩
def RA(h:∀p,8<=p->x.testBit p=false):x<256:=Nat.lt_pow_two_of_testBit (n:=8) x (λp a=>h p a)
def RB(b:∀i (h:i<rs.length),rs[i].1.length<=8)(r p:Nat)(c:8<=p)(f:Nat×A1->Bool):gB rs r p f=false:=by
 by_cases a:r<rs.length
 ·exact ZS (C6 a) (C7 (b r a) c) f
 exact ZT J p f
def Hh.lt{tk:Nat->Nat->Nat}(h:Hh rs ks i j st tk)(b:∀i (h:i<rs.length),rs[i].1.length<=8):(∀r,st r<256)/\∀x r,tk x r<256 :=
 ⟨λr=>RA λp a=>by rw[h.s,RB b r p a];simp,λx r=>RA λp a=>by rw[h.t,RB b r p a];simp⟩
def Gr(q:Cs)(st:Nat->Nat)(tv sv:Al):A3:=#[.slice q.ra q.rs.length q.rc,.int .i64 q.dflt,.map (some q.lm)]++BR st++#[tv,sv,.map (some q.nb),.map (some q.mb)]
def p8(q:Cs)(a:Al):Ph q a=Gr q q.st (G (U ⟨q.tb,0,Y⟩) q.L q.tc) a:=M
def p9(q:Cs)(st:Nat->Nat)(c a b:Al):(Gr q st c a).setIfInBounds 19 b=Gr q st b a:=M
def pb(q:Cs)(st:Nat->Nat)(b a:Al)(r v:Nat)(c:r<16):(Gr q st b a).setIfInBounds (3+r) (I .u16 v)=Gr q (λi=>if i=r then v else st i) b a:=by
 have h:=congrArg Array.toList (Ra st r v);rw[Ou]at h;apply Mu;unfold Gr;rw[Ou];simp only[SB];rw[List.set_append_left _ _ (As (La st)),Q7 _ _ Az,<-h];have e:3+r-[Value.slice q.ra q.rs.length q.rc,Value.int IntKind.i64 q.dflt,Value.map (U q.lm)].length=r:=Az
 rw[e]
def pe(q:Cs)(st:Nat->Nat)(c b:Al)(r:Nat)(a:r<16):(Gr q st c b)[3+r]?=U (I .u16 (st r)):=by
 have d:=La st;unfold Gr;rw[Ov Ax,Ng Az];have e:3+r-#[Value.slice q.ra q.rs.length q.rc,Value.int IntKind.i64 q.dflt,Value.map (U q.lm)].size=r:=Az
 rw[e];exact Jq st r a
structure Ps(cur:A3)(L:Nat)(tk:Nat->Nat->Nat):Prop where
 size:cur.size=L*16
 at_:∀x r,x<L->r<16->cur[x*16+r]?=some (.int .u16 (tk x r))
def Ps.set{cur:A3}{tk:Nat->Nat->Nat}(h:Ps cur L tk)(x r v:Nat)(d:x<L)(c:r<16):Ps (cur.setIfInBounds (x*16+r) (I .u16 v)) L (λy i=>if y=x/\i=r then v else tk y i):=by
 refine⟨by rw[Array.size_setIfInBounds,h.size],λy i b a=>?_⟩;rw[Sq];by_cases e:y=x/\i=r
 ·rw[BA (by rw[e.1,e.2]),BA (by rw[h.size];omega),BA e]
 rw[Bz J,Bz e];exact h.at_ y i b a
structure D0(W:World)(A tb L:Nat)(q:Cs)(sv:Value)(st:Nat->Nat)(tk:Nat->Nat->Nat)(V:World):Prop where
 row:V.heap[A]?=some (.cells (Gr q st (.slice (some ⟨tb,0,none⟩) L L) sv) 136)
 tks:∃cur,V.heap[tb]?=some (.cells cur 132)/\Ps cur L tk
 os:V.os=W.os
 tape:V.tape=W.tape
 output:V.output=W.output
 size:W.heap.size<=V.heap.size
 block:∀k,k<W.heap.size->k≠A->V.heap[k]?=W.heap[k]?
def D0.next{q:Cs}{tk:Nat->Nat->Nat}(h:D0 W A tb L q sv st tk V)(hb:A0 V V'):D0 W A tb L q sv st tk V':=by
 obtain⟨c,b,e⟩:=h.tks;exact⟨(hb.block _ (BC h.row)).trans h.row,⟨c,(hb.block _ (BC b)).trans b,e⟩,hb.os.trans h.os,hb.tape.trans h.tape,hb.output.trans h.output,C7 h.size hb.size,λk a d=>(hb.block k (CA a h.size)).trans (h.block k a d)⟩
def ZV(V:O)(p:Addr)(v:Al):(V.drew.setCell p v).heap.size=V.heap.size:=by
 have e:(V.drew.setCell p v).heap.size=V.drew.heap.size:=AJ
 exact e
def D0.stays{q:Cs}{tk:Nat->Nat->Nat}(h:D0 W A tb L q sv st tk V)(e:A≠tb)(r v:Nat)(f:r<16):D0 W A tb L q sv (λi=>if i=r then v else st i) tk (V.drew.setCell ⟨A,3+r,Y⟩ (I .u16 v)):=by
 obtain⟨c,g,j⟩:=h.tks;have a:=ET V.drew A (3+r) _ _ (I .u16 v) h.row;rw[pb q st _ sv r v f]at a;refine⟨a,⟨c,(FB V.drew _ _ _ (by simpa using e.symm)).trans g,j⟩,h.os,h.tape,h.output,by rw[ZV];exact h.size,λk d b=>(FB V.drew _ _ _ Bj).trans (h.block k d b)⟩
def D0.took{q:Cs}{tk:Nat->Nat->Nat}(h:D0 W A tb L q sv st tk V)(c:A≠tb)(l:W.heap.size<=tb)(x r v:Nat)(e:x<L)(d:r<16):D0 W A tb L q sv st (λy i=>if y=x/\i=r then v else tk y i) (V.drew.setCell ⟨tb,x*16+r,Y⟩ (I .u16 v)):=by
 obtain⟨j,f,g⟩:=h.tks;exact⟨(FB V.drew _ _ _ Be).trans h.row,⟨_,ET V.drew tb (x*16+r) _ _ (I .u16 v) f,g.set x r v e d⟩,h.os,h.tape,h.output,by rw[ZV];exact h.size,λk a b=>(FB V.drew _ _ _ Ax).trans (h.block k a b)⟩
def Uz(q:Cs)(st:Nat->Nat)(b a:Al):(Gr q st b a)[2]?=U (.map (U q.lm)):=M
def ZW(q:Cs)(st:Nat->Nat)(a b:Al):(Gr q st a b)[19]?=U a:=M
def Tryz.infoPlc:(prog.info? 132).map (λi=>(i.zero,i.size,i.bytes))=U (U (.agg (BR Da)),16,32):=M
def pf(n:Nat)(h:n<=128)(w:O):(Instr.makeSlice 133 (I K (wrap64 (2+(n:Int)))) (I K (wrap64 (2+(n:Int))))).run X w=.ok (G (U ⟨w.heap.size,0,Y⟩) (2+n) (2+n)) (w.alloc (E (madeCells (BR Da) ((2+n)*16)) 132)):=by
 obtain⟨i,f,c,a,d⟩:=DZ Tryz.infoPlc;have e:((2+n:Nat):Int).toNat=2+n:=I3 _;have b:=run_makeSlice (P:=X) (w:=w) 133 132 i (.agg (BR Da)) underlying133 f c K K ((2+n:Nat):Int) ((2+n:Nat):Int) J (Int.le_refl _) (by rw[e,a];omega) (by rw[d];omega) J;rw[e,a]at b;rw[ZQ n h];exact b
def DF(dflt:Int):List (List (Nat×A1)×Int×Int)->List (A1×Bool)->Int×Int
 |[],_=>(dflt,1)
 |x::rs,p=>if R7 x.1 p then x.2 else DF dflt rs p
def MY(rs:List (List (Nat×A1)×Int×Int))(p:List (A1×Bool))(Y:Nat->Nat):Prop:=∀r (h:r<rs.length),∀k,(Y r).testBit k=L9 rs[r].1 p k
def UC{st:Nat}{P:Nat->Bool}(b:∀k,st.testBit k=Fh ss k)(a:∀k,x.testBit k=P k):∀k,IX st x k=L8 ss P k
 |0=>a 0
 |k+1=>by rw[IX,L8,a,b,UC b a k]
def pv{st tk:Nat}{t:A1×Bool}{P:Nat->Bool}(b:∀k,st.testBit k=Fh ss k)(c:∀k,tk.testBit k=LU ss t k)(a:∀k,x.testBit k=P k)(k:Nat):(Ku st tk x).testBit k=ML ss t P k:=by
 unfold Ku;rw[SO,SN,Wq,SN,a,b]
 cases k with
 |zero=>rw[ML];simp
 |succ k =>
  rw[ML,Nj,a,c];simp
def ZY(h:r<rs.length)(k:Nat):gB rs r k (λs=>s.1==1)=Fh rs[r].1 k:=by
 unfold gB Fh;rw[C6 h];show(match rs[r].1[k]? with|some s=>s.1==1|none=>false)=_;cases rs[r].1[k]? <;> rfl
def pw{a:A1}(h:a∈ks)(hb:b∈ks)(e:ks.idxOf a=ks.idxOf b):a=b:=by
 have f:=Q3.2 h;have g:=Q3.2 hb;have c:=WA f;have d:=WA g;rw[<-c,<-d];simp[e]
def px(h:s.1=3->s.2∈ks)(i:s.1<=3)(key:A1)(b:Bool):JX ks s (Iz (EI ks) key b)=MK s (key,b):=by
 unfold JX MK;split
 ·rfl
 split
 ·rfl
 split
 ·cases b with
  |true=>rfl
  |false =>
   show(((EI ks (.string key)).getD 0)==1)=false;by_cases a:key∈ks
   ·rw[Ll a];simp;omega
   rw[MX a];rfl
 have g:=h J;rw[Ll g]
 cases b with
 |true =>
  show((1:Nat)==2+ks.idxOf s.2)=false;simp;omega
 |false =>
  show(((EI ks (.string key)).getD 0)==2+ks.idxOf s.2)=(!false&&key==s.2)
  by_cases a:key∈ks
  ·rw[Ll a];show(2+ks.idxOf key==2+ks.idxOf s.2)=_;by_cases d:key=s.2
   ·rw[d];simp
   have f:ks.idxOf key≠ks.idxOf s.2:=λe=>d (pw a g e);have c:(2+ks.idxOf key==2+ks.idxOf s.2)=false:=keP
   rw[c];simp[d]
  rw[MX a];have f:key≠s.2:=λe=>a (e▸g);have c:((Y:Option Nat).getD 0==2+ks.idxOf s.2)=false:=Ax
  rw[c];simp[f]
def py(key:A1)(b:Bool):Iz (EI ks) key b<2+ks.length:=by
 unfold Iz;split
 ·omega
 by_cases a:key∈ks
 ·rw[Ll a];have:=Q3.2 a;show 2+ks.idxOf key<_;omega
 rw[MX a];show 0<_;omega
def pA(h:r<rs.length)(c:∀s∈rs[r].1,s.1<=3/\(s.1=3->s.2∈ks))(key:A1)(a:Bool)(k:Nat):gB rs r k (λs=>JX ks s (Iz (EI ks) key a))=LU rs[r].1 (key,a) k:=by
 unfold gB LU;rw[C6 h];show(match rs[r].1[k]? with|some s=>JX ks s (Iz (EI ks) key a)|none=>false)=_
 cases d:rs[r].1[k]? with
 |none=>rfl
 |some s =>
  have b:=c s (Oz d);exact px b.2 b.1 key a
def pC{tk:Nat->Nat->Nat}(b:Ky rs ks st tk){Y:Nat->Nat}(a:NY rs.length st (one rs.length) Y):MY rs [] Y:=by
 intro r h k;rw[a.1 r h k];have c:∀k,(st r).testBit k=Fh rs[r].1 k:=λk=>(b.s r k).trans (ZY h k);have d:∀k,(one rs.length r).testBit k=(k==0):=by
  intro k;unfold one;rw[BA h]
  cases k with
  |zero=>rfl
  |succ k=>rw[Nat.testBit_succ];simp
 rw[UC c d k];rfl
def pD{tk:Nat->Nat->Nat}(b:Ky rs ks st tk)(d:∀r (h:r<rs.length),∀s∈rs[r].1,s.1<=3/\(s.1=3->s.2∈ks)){P Y:Nat->Nat}{p:List (A1×Bool)}(e:MY rs p P)(key:A1)(a:Bool)(f:NY rs.length st (Gl st (tk (Iz (EI ks) key a)) P rs.length) Y):MY rs ((key,a)::p) Y:=by
 intro r h k;rw[f.1 r h k];have c:∀k,(st r).testBit k=Fh rs[r].1 k:=λk=>(b.s r k).trans (ZY h k);have g:∀k,(tk (Iz (EI ks) key a) r).testBit k=LU rs[r].1 (key,a) k:=λk=>(b.t _ r k).trans (pA h (d r h) key a k);have i:∀k,(Gl st (tk (Iz (EI ks) key a)) P rs.length r).testBit k=ML rs[r].1 (key,a) (L9 rs[r].1 p) k:=by
  intro k;unfold Gl;rw[BA h];exact pv c g (e r h) k
 rw[UC c i k];rfl
def ZZ{p:List (A1×Bool)}{X Y:Nat->Nat}(h:MY rs p Y)(c:rs.length<=16)(a:∀r,r<16->X r=Y r):MY rs p X:=by
 intro r b k;rw[a r J];exact h r b k
def aa(b:Int)(p:List (A1×Bool))(a:Nat->Nat):∀(rs:List (List (Nat×A1)×Int×Int)) (o:Nat),(∀r (h:r<rs.length),∀k,(a (o+r)).testBit k=L9 rs[r].1 p.reverse k)->DE b rs a o=DF b rs p
 |[],_,_=>rfl
 |x::rs,o,h=>by
  have c:=h 0 Az x.1.length;rw[DE,DF];have e:(a o).testBit x.1.length=R7 x.1 p:=c.trans (lL x.1 p);rw[e,aa b p a rs (o+1) (λr d k=>by
   have:=h (r+1) keB k;rw[show o+1+r=o+(r+1) by omega,this];rfl)]
def pE{p:List (A1×Bool)}{Y:Nat->Nat}(h:MY rs p.reverse Y)(a:Int):DE a rs Y 0=DF a rs p :=
 aa a p Y rs 0 (λr b k=>by rw[DY];exact h r b k)
def pF(h:b∈ks):b∈FY ks s:=by
 unfold FY;split
 ·exact List.mem_append_left _ h
 exact h
def UD:∀(ss:List (Nat×A1)) (ks:List A1),b∈ks->b∈ss.foldl FY ks
 |[],_,h=>h
 |_::ss,_,h=>UD ss _ (pF h)
def ab:∀(ss:List (Nat×A1)) (ks:List A1) (s:Nat×A1),s∈ss->s.1=3->s.2∈ss.foldl FY ks
 |x::ss,ks,s,b,h3=>by
  rcases Ho.1 b with rfl|b
  ·refine UD ss _ ?_;unfold FY;by_cases a:s.2∈ks
   ·rw[Bz (λh=>h.2 a)];exact a
   rw[BA ⟨h3,a⟩];simp
  exact ab ss _ s b h3
def ae:∀(rs:List (List (Nat×A1)×Int×Int)) (ks:List A1),b∈ks->b∈rs.foldl LX ks
 |[],_,h=>h
 |r::rs,_,h=>ae rs _ (UD r.1 _ h)
def af:∀(rs:List (List (Nat×A1)×Int×Int)) (ks:List A1) (r:List (Nat×A1)×Int×Int),r∈rs->∀s∈r.1,s.1=3->s.2∈rs.foldl LX ks
 |x::rs,ks,r,a,s,hs,h3=>by
  rcases Ho.1 a with rfl|a
  ·exact ae rs _ (ab r.1 ks s hs h3)
  exact af rs _ r a s hs h3
def ag(h:i<rs.length)(a:j<rs[i].1.length)(b:rs[i].1[j].1=3):rs[i].1[j].2∈Fx rs :=
 af rs [] rs[i] (Kd h) _ (Kd a) b
def ah:∀(rs:List (List (Nat×A1)×Int×Int)) (ks:List A1),(∀r∈rs,r.1.length<=8)->(rs.foldl LX ks).length<=ks.length+8*rs.length
 |[],_,_=>Az
 |r::rs,ks,h=>by
  have b:=ah rs (LX ks r) (λx a=>h x (I2 _ a));have c:(LX ks r).length<=ks.length+r.1.length:=ZP r.1 ks;have d:=h r Az;rw[List.foldl_cons,Cu];omega
def aj(d:rs.length<=16)(a:∀i (h:i<rs.length),rs[i].1.length<=8):(Fx rs).length<=128:=by
 have h:=ah rs [] (λr c=>by
  obtain⟨i,b,rfl⟩:=KO c;exact a i b)
 unfold Fx;simp at h;omega
end
section
open Go.RowKit Go.Shelf
def rD(i o d b:Int):(EG i o d b=false/\EN i=false)\/(EG i o d b=false/\EN i=true/\EN o=false)\/(EG i o d b=false/\EN i=true/\EN o=true/\d<1)\/(EG i o d b=false/\EN i=true/\EN o=true/\1<=d/\16<d) \/
  (EG i o d b=false/\EN i=true/\EN o=true/\1<=d/\d<=16/\b<1)\/(EG i o d b=false/\EN i=true/\EN o=true/\1<=d/\d<=16/\1<=b/\4096<b)\/(EG i o d b=true/\EN i=true/\EN o=true/\1<=d/\d<=16/\1<=b/\b<=4096):=by
 unfold EG;cases EN i<;>cases EN o<;>simp;by_cases a:d<1
 ·simp[a];omega
 by_cases c:16<d
 ·simp[c];omega
 by_cases e:b<1
 ·simp[e];omega
 by_cases f:4096<b
 ·simp[f];omega
 omega
def br:fB 10 CB E5:=by
 intro c w x hg;have y:Hid (FF w c):=x;have ag:Hid (c.B.length<=maxLen):=by have:=x.bb;show _<=_;unfold maxLen;omega
 have D:Hid (c.arr.size=11):=c.size;have b:Hid (Jt w c (w.alloc (E c.arr 25))):=O2 w c;have s:=oj c _ (b.cfg x);clear x hg;cases o:E9 c.labels c.L
 focus
  have d:JW c=false:=by unfold JW;rw[o];rfl
  have f:Hid (CB c=1):=by show _=_;unfold CB;simp[d]
  have i:Hid (E5 c=0):=AH
  rw[o]at s;clear o d
 rotate_left
 rw[o]at s;obtain⟨A,H⟩:=Ur o;have C:Hid (Lj c.arr c.labels.toNat c.L c.ea c.ecap):=H;have ai:Hid (c.labels=(c.labels.toNat:Nat)):=A.symm;have ah:Hid (c.arr[0]?=U (I K (c.labels.toNat:Nat))):=by show _=_;rw[A];rfl
 have P:=λak aj=>Nx c.arr c.labels.toNat ah ak aj;have d:JW c=(CE c.labels.toNat c.dflt&&CE c.labels.toNat c.clr):=by unfold JW;rw[o];rfl
 clear o A H;cases j:CE c.labels.toNat c.dflt
 focus
  have f:Hid (CB c=1):=by show _=_;unfold CB;simp[d,j]
  have i:Hid (E5 c=0):=AH
  clear d
 rotate_left
 cases k:CE c.labels.toNat c.clr
 focus
  have f:Hid (CB c=1):=by show _=_;unfold CB;simp[d,j,k]
  have i:Hid (E5 c=0):=AH
  clear d
 rotate_left
 cases l:Jr c.labels.toNat (Cb c.labels.toNat c.L)
 focus
  have f:Hid (CB c=2):=by show _=_;unfold CB;simp[d,j,k,l]
  have i:Hid (E5 c=0):=AH
  clear d
 rotate_left
 cases m:Js c.labels.toNat (Cb c.labels.toNat c.L)
 focus
  have f:Hid (CB c=3):=by show _=_;unfold CB;simp[d,j,k,l,m]
  have i:Hid (E5 c=0):=AH
  clear d
 rotate_left
 rcases rD c.inn c.out c.depth c.bytes with⟨g,p⟩|⟨g,p,q⟩|⟨g,p,q,t⟩|⟨g,p,q,t,z⟩|⟨g,p,q,t,z,N⟩|⟨g,p,q,t,z,N,b2⟩|⟨g,p,q,t,z,N,b2⟩
 focus
  have f:Hid (CB c=4):=AQ
  have i:Hid (E5 c=0):=AH
  clear d g
 rotate_left
 focus
  have f:Hid (CB c=4):=AQ
  have i:Hid (E5 c=0):=AH
  clear d g
 rotate_left
 focus
  have f:Hid (CB c=4):=AQ
  have i:Hid (E5 c=0):=AH
  clear d g
 rotate_left
 focus
  have f:Hid (CB c=4):=AQ
  have i:Hid (E5 c=0):=AH
  clear d g
 rotate_left
 focus
  have f:Hid (CB c=4):=AQ
  have i:Hid (E5 c=0):=AH
  clear d g
 rotate_left
 focus
  have f:Hid (CB c=4):=AQ
  have i:Hid (E5 c=0):=AH
  clear d g
 rotate_left
 cases u:Ge c.B
 focus
  have f:Hid (CB c=5):=by show _=_;unfold CB;simp[d,j,k,l,m,g,u]
  have i:Hid (E5 c=0):=AH
  clear d
 rotate_left
 by_cases v:0<=Dc c.labels.toNat c.pol.data.toList
 focus
  have f:Hid (CB c=6):=by show _=_;unfold CB;simp[d,j,k,l,m,g,u,v]
  obtain⟨V,n⟩:∃V,Dc c.labels.toNat c.pol.data.toList=V:=⟨_,rfl⟩
  have F:Hid (Dc c.labels.toNat c.pol.data.toList=V):=n;have i:Hid (E5 c=V):=by show _=_;unfold E5;rw[f.out,BA rfl];exact n
  rw[n]at v;clear d g n
 rotate_left
 have f:Hid (CB c=0):=by show _=_;unfold CB;simp[d,j,k,l,m,g,u,v]
 obtain⟨V,n⟩:∃V,Dc c.labels.toNat c.pol.data.toList=V:=⟨_,rfl⟩
 have F:Hid (Dc c.labels.toNat c.pol.data.toList=V):=n;have i:Hid (E5 c=0):=AH
 rw[n]at v;clear d g n
 all_goals
  go_enter func10,ntmps10;have T1:True:=trivial;have T2:True:=trivial;have T3:True:=trivial;have T4:True:=trivial
  go_wp2_with(first
   |(refine C8 Z 25 _ Z _ Z _ _ _ _ b.box underlying25 Z (El D) ?_)
   |(refine DL 25 _ Z ?hw _ Z _ _ _ _ b.box underlying25 Z (El D) ?_;case hw=>simp[go_sem];done)
   |(go_at_call 20;refine s.mono ?_;clear s;rintro e w2 ⟨rfl,aa⟩;have h:=T (b.step aa);clear b;have b:=h;clear h aa;have k2:w2.cell? ⟨w.heap.size,2,Y⟩=U (I K c.dflt):=b.cell 2)
   |(go_at_call 21;clear T1;refine(P c.dflt _).mono ?_;clear k2;rintro e w3 ⟨rfl,ab⟩;rw[j];have h:=T (b.step ab);clear b;have b:=h;clear h ab;have k4:w3.cell? ⟨w.heap.size,4,Y⟩=U (I K c.clr):=b.cell 4)
   |(go_at_call 21;clear T2;refine(P c.clr _).mono ?_;clear k4;rintro e w4 ⟨rfl,ac⟩;rw[k];have h:=T (b.step ac);clear b;have b:=h;clear h ac;have R:=nZ c.arr c.labels.toNat c.L c.ea c.ecap C w4 (b.cfg y).edges)
   |(go_at_call 22;refine R.mono ?_;clear R;rintro e w5 ⟨rfl,ad⟩;rw[l];have h:=T (b.step ad);clear b;have b:=h;clear h ad;have S:=o0 c.arr c.labels.toNat c.L c.ea c.ecap C w5 (b.cfg y).edges)
   |(go_at_call 23;refine S.mono ?_;clear S;rintro e r ⟨rfl,ae⟩;rw[m];have h:=T (b.step ae);clear b;have b:=h;clear h ae;have k6:r.cell? ⟨w.heap.size,6,Y⟩=U (I K c.inn):=b.cell 6;have k7:r.cell? ⟨w.heap.size,7,Y⟩=U (I K c.out):=b.cell 7;have k8:r.cell? ⟨w.heap.size,8,Y⟩=U (I K c.depth):=b.cell 8;have k9:r.cell? ⟨w.heap.size,9,Y⟩=U (I K c.bytes):=b.cell 9;have al:r.cell? ⟨w.heap.size,10,Y⟩=U (G c.ba c.B.length c.bcap):=b.cell 10;have Q:=fz c.ba c.bcap c.B ag r (b.cfg y).ints)
   |(go_at_call 24;clear T3;refine(R6 c.inn _).mono ?_;rintro e w7 ⟨rfl,rfl⟩;rw[p])
   |(go_at_call 24;clear T4;refine(R6 c.out _).mono ?_;rintro e w8 ⟨rfl,rfl⟩;rw[q])
   |(go_at_call 25;refine Q.mono ?_;clear Q k6 k7 k8 k9 al;rintro e w9 ⟨rfl,af⟩;rw[u];have h:=T (b.step af);clear b;have b:=h;clear h af;have a:=mL c c.labels.toNat ai w9)
   |(go_at_call 26;refine a.mono ?_;clear a;rintro e am ⟨ua,um,uc,rfl,W⟩;rw[F.out];have h:=T (b.step W);clear b;have b:=h;clear h W))
  go_ret2
  exact⟨by rw[f.out,i.out];rfl,b.below⟩
end
section
open Go.RowKit Go.Lib
def ub(W:O)(bs:A1)(cs:List Al)(n:Nat)(b:n=bs.length)(c:n<=9)(a:bs.map Cg=cs):BG (W.alloc (E cs.toArray 5)) W.heap.size (G (U ⟨W.heap.size,0,Y⟩) n n) bs/\A0 W (W.alloc (E cs.toArray 5)):=by
 subst a;subst b;refine⟨⟨⟨Az,.inr ⟨W.heap.size,bs.length,(bs.map Cg).toArray,Z,BM _,BI _ _,BM _,AC,Az,by simp[II]⟩⟩,Az,_,_,_,Z⟩,BN⟩
def PR(W:O)(r:Int)(cs:List Al)(n:Nat)(d:n=cs.length)(a:runeCells r=cs):BG (W.alloc (E cs.toArray 5)) W.heap.size (G (U ⟨W.heap.size,0,Y⟩) n n) (Du r)/\A0 W (W.alloc (E cs.toArray 5)):=by
 have b:=(encodeRuneZ_length r).2;have c:cs.length=(encodeRuneZ r).length:=by rw[<-a];unfold runeCells;rw[Eo]
 exact ub W (Du r) cs n (by unfold Du;rw[Eo];omega) J (by rw[<-TD,a])
def dv(W:O)(n:Int)(h:0<=n)(i:n<=1114111)(j:¬(55296<=n/\n<=57343)):Am X 176 #[I K n] W λe g=>∃v,e=Af v/\BG g W.heap.size v (Du n)/\A0 W g:=by
 by_cases a:n<128
 ·have f:runeCells n=[I .u8 n]:=by unfold runeCells;rw[encodeRuneZ_one h J];rfl
  have d:=T (PR W n _ 1 Z f);go_enter func176,ntmps176;go_wp2;go_ret;exact⟨_,Z,d.1,d.2⟩
 by_cases b:n<2048
 ·have f:runeCells n=[I .u8 (192+n/64),I .u8 (128+n%64)]:=by unfold runeCells;rw[encodeRuneZ_two J J];rfl
  have d:=T (PR W n _ 2 Z f);go_enter func176,ntmps176;go_wp2;go_ret;exact⟨_,Z,d.1,d.2⟩
 by_cases c:n<65536
 ·have f:runeCells n=[I .u8 (224+n/4096),I .u8 (128+n/64%64),I .u8 (128+n%64)]:=by unfold runeCells;rw[encodeRuneZ_three J];rfl
  have d:=T (PR W n _ 3 Z f);go_enter func176,ntmps176;go_wp2;go_ret;exact⟨_,Z,d.1,d.2⟩
 have f:runeCells n=[I .u8 (240+n/262144),I .u8 (128+n/4096%64),I .u8 (128+n/64%64),I .u8 (128+n%64)]:=by unfold runeCells;rw[encodeRuneZ_four J J];rfl
 have d:=T (PR W n _ 4 Z f);go_enter func176,ntmps176;go_wp2;go_ret;exact⟨_,Z,d.1,d.2⟩
end
end Go.Proofs.YtnlnjkggkbbdhaaGreatDoor
